import PyProof.Rows.All
import Wide.All
import OpenK.AllK
import Wide.FinOn
import PyProof.EqAt
import PyProof.EqKinds
import PyProof.TupleCall
import KE.BitLaws
import PySem.Challenge.RW_ringfiguresdesk_s01_answers
import Ql55Spec
import KE.KSortTupG
import KE.KLam
import Open.SpecLaws
import KE.OsHead
import KE.OsGo
set_option linter.all false
set_option Elab.async false
set_option maxRecDepth 100000
set_option maxHeartbeats 2000000
noncomputable section
local macro_rules|`(tactic|decide)=>`(tactic|decide +kernel)
local macro_rules|`(tactic|grind)=>`(tactic|grind -abstractProof)|`(tactic|grind[$x,*])=>`(tactic|grind -abstractProof[$x,*])
abbrev ag:=@PySem.wpAny_bind
abbrev aw:=@List.mem_map
abbrev bF:=@List.getElem?_eq_some_iff
abbrev au:=@PySem.wpAny_pure
abbrev aZ:=@List.length_map
abbrev bT:=@PySem.Heap.get?_push_of_some
abbrev ai:=@if_neg
abbrev aY:=@List.mem_cons
abbrev cQ:=@List.getElem?_eq_getElem
abbrev ak:=@if_pos
abbrev bP:=@List.mem_of_getElem?
abbrev bh:=@List.mem_filter
abbrev a0:=@Nat.le_refl
abbrev ba:=@PySem.Paired.length
abbrev b':=@Bool.false_ne_true
abbrev cu:=@PySem.Heap.get?_push_size
abbrev cN:=@List.mem_cons_of_mem
abbrev bV:=@List.mem_flatMap
abbrev bO:=@Rat.intCast_mul
abbrev bN:=@Option.some.inj
abbrev bE:=@decide_eq_true
abbrev bw:=@List.map_cons
abbrev b_:=@of_decide_eq_true
abbrev cK:=@Nat.lt_of_lt_of_le
abbrev bo:=@PySem.Heap.lt_size
abbrev d8:=@Classical.byContradiction
abbrev b9:=@List.map_append
abbrev cS:=@List.size_toArray
abbrev cJ:=@List.mem_append
abbrev dD:=@List.pairwise_cons
abbrev dC:=@List.length_append
abbrev c5:=@Bool.and_eq_true
abbrev cR:=@List.nodup_cons
abbrev dj:=@List.length_cons
abbrev b0:=@Rat.le_of_lt
abbrev a9:=@Prod.ext
abbrev b8:=@Nat.ne_of_lt
abbrev di:=@decide_eq_false
abbrev eH:=@PySem.mem_of_lookup
abbrev dn:=@Rat.intCast_sub
abbrev bM:=@Rat.not_lt
abbrev dN:=@List.take_length
abbrev bZ:=@Nat.zero_le
abbrev gf:=@PySem.F.plainAttrs_list
abbrev eP:=@List.mem_singleton
abbrev cy:=@Prod.mk.inj
abbrev dW:=@PySem.PassesOwn.never
abbrev gx:=@Rat.intCast_lt_intCast
abbrev fe:=@Nat.lt_of_le_of_lt
abbrev fc:=@Bool.false_eq_true
abbrev kG:=@List.mk_mem_zipIdx_iff_getElem?
abbrev bu:=@Ne.symm
abbrev iX:=@PySem.F.type_list_append
abbrev iW:=@PySem.F.slot_list_append
abbrev fH:=@List.length_take
abbrev c4:=@Rat.not_le
abbrev gw:=@List.getElem?_map
abbrev gv:=@List.flatMap_cons
abbrev iV:=@List.mem_append_right
abbrev eO:=@PySem.wpAny_holding
abbrev cq:=@congrArg
abbrev cx:=@if_false
abbrev gU:=@PySem.wpAny_truthy_bool
abbrev f_:=@Int.natAbs_mul
abbrev kE:=@List.Pairwise.imp_of_mem
abbrev jB:=@List.length_filter_le
abbrev ia:=@List.append_assoc
abbrev f7:=@PySem.Heap.size_push
abbrev h_:=@Bool.eq_false_iff
abbrev iU:=@List.mem_cons_self
abbrev gT:=@List.append_nil
abbrev fG:=@Nat.le_trans
abbrev h9:=@List.filter_cons
abbrev d7:=@PySem.wpAny_mono
abbrev jA:=@List.filter_sublist
abbrev gS:=@List.take_zero
abbrev kD:=@List.mem_append_left
abbrev iT:=@List.cons_append
abbrev oy:=@PySem.F.slot_dict_keyiterator_next
abbrev gR:=@Bool.true_and
abbrev iS:=@PySem.wpAny_call_entry
abbrev fF:=@PySem.Paired.snoc
abbrev kC:=@PySem.Around.under_plainId
abbrev dh:=@if_true
abbrev jz:=@PySem.wpAny_newObj_type
abbrev kB:=@PySem.Heap.SameBut.update
abbrev kA:=@Int.natAbs_natCast
abbrev h8:=@Nat.lt_irrefl
abbrev iR:=@PySem.boot_len
abbrev iQ:=@Bool.false_xor
abbrev kz:=@Nat.lt_trichotomy
abbrev iP:=@PySem.wpAny_tryCatch
abbrev pZ:=@PySem.F.slot_dict_itemiterator_next
abbrev h7:=@List.map_map
abbrev jy:=@PySem.wpAny_updateSeq
abbrev ky:=@Nat.lt_succ_self
abbrev gu:=@beq_iff_eq
abbrev pY:=@List.getD_eq_getElem?_getD
abbrev jx:=@Bool.xor_false
abbrev jw:=@Bool.false_and
abbrev gJ:=@PySem.plainId_quiet
abbrev nA:=@List.getElem?_append_left
abbrev i8:=@PySem.F.plain_max_loop
abbrev i7:=@List.find?_cons
abbrev i6:=@Bool.eq_iff_iff
abbrev jZ:=@decide_eq_true_eq
abbrev jY:=@List.nodup_append
abbrev jX:=@PySem.Calls.spliced_cons
abbrev ig:=@Rat.lt_irrefl
abbrev nu:=@PySem.F.slot_list_extend
abbrev ie:=@Bool.not_true
abbrev i5:=@PySem.codeAny_builtin
abbrev lQ:=@beq_eq_false_iff_ne
abbrev jW:=@PySem.wpAny_dictEntries
abbrev nq:=@List.pairwise_mergeSort
abbrev jV:=@List.lookup_cons
abbrev i4:=@Bool.and_false
abbrev ic:=@Rat.le_total
abbrev lP:=@Nat.lt_or_eq_of_le
abbrev lO:=@List.mem_filterMap
abbrev lN:=@List.filter_append
abbrev rm:=@PySem.wpAny_typeNameOfWhole_itemiter
abbrev i3:=@PySem.wpAny_seqItems
abbrev jU:=@Rat.intCast_inj
abbrev jT:=@Rat.intCast_add
abbrev jS:=@List.forIn_cons
abbrev nj:=@PySem.F.slot_dict_get
abbrev nh:=@List.mem_iff_getElem?
abbrev rk:=@PySem.wpAny_typeNameOfWhole_keyiter
abbrev gI:=@PySem.wpAny_letGo
abbrev lM:=@List.pairwise_map
abbrev lK:=@Int.toNat_natCast
abbrev lJ:=@Int.lt_trichotomy
abbrev lI:=@PySem.wpAny_Call_Name_kw
abbrev jR:=@PySem.wpAny_passesOwn
abbrev ib:=@Rat.le_refl
abbrev ng:=@List.mem_of_mem_take
abbrev jQ:=@Bool.xor_assoc
abbrev i2:=@List.map_nil
abbrev m9:=@PySem.Heap.get?_update_self
abbrev rj:=@PySem.F.type_list_extend
abbrev jP:=@List.any_cons
abbrev jO:=@List.all_cons
abbrev lH:=@List.of_mem_zip
abbrev lG:=@PySem.wpAny_isInstance
abbrev m8:=@of_decide_eq_false
abbrev m7:=@decide_eq_true_iff
abbrev ri:=@PySem.wpAny_typeNameOf_itemiter
abbrev rh:=@Nat.exists_eq_add_of_le
abbrev rg:=@PySem.wpAny_typeNameOf_keyiter
abbrev rf:=@Rat.intCast_le_intCast
abbrev m6:=@Nat.lt_succ_of_lt
abbrev lF:=@PySem.wpAny_specialOf
abbrev lE:=@PySem.wpAny_dictEpoch
abbrev m4:=@PySem.wpAny_setField_rec
abbrev q_:=@PySem.wpAny_callSpecial?_slot
abbrev q7:=@Array.getElem?_toList
abbrev m3:=@List.all_eq_true
abbrev qZ:=@PySem.wpAny_isOneOf_itemiter
abbrev lD:=@PySem.wpAny_fieldsOf
abbrev qY:=@PySem.Heap.get?_update_other
abbrev qX:=@PySem.Calls.callWith_builtin
abbrev m2:=@List.length_nil
abbrev qW:=@List.take_succ_cons
abbrev qV:=@List.map_congr_left
abbrev qU:=@List.filterMap_cons
abbrev qT:=@Array.length_toList
abbrev uQ:=@PyProof.Rows.callWith_type1
abbrev lC:=@Nat.le_of_lt
abbrev i1:=@PySem.W.mg_none_of
abbrev qS:=@Nat.eq_zero_or_pos
abbrev qR:=@List.zip_cons_cons
abbrev uP:=@List.perm_ext_iff_of_nodup
abbrev qQ:=@List.mem_mergeSort
abbrev qP:=@PySem.Calls.evalArgs_plain
abbrev uO:=@List.pairwise_iff_getElem
abbrev uN:=@List.getElem?_zip_eq_some
abbrev qO:=@not_false_eq_true
abbrev qN:=@Nat.le_of_succ_le
abbrev qM:=@Nat.gcd_mul_right
abbrev qL:=@List.filter_congr
abbrev qK:=@Int.gcd_dvd_right
abbrev qJ:=@Bool.not_eq_true'
abbrev mZ:=@Bool.xor_comm
abbrev mY:=@Bool.or_false
abbrev mX:=@Bool.and_true
abbrev qI:=@PySem.tupleKind_room_in1
abbrev jN:=@false_and
abbrev uM:=@PySem.F.plainAttrs_dict
abbrev uL:=@PySem.F.args_dict_get_3
abbrev qH:=@Nat.le_of_not_lt
abbrev qG:=@Nat.gcd_dvd_left
abbrev qF:=@Int.gcd_dvd_left
abbrev mW:=@decide_false
abbrev uK:=@PySem.F.entry_dict_get
abbrev mV:=@Nat.ne_of_gt
abbrev mU:=@Nat.mul_comm
abbrev mT:=@Nat.lt_trans
abbrev uJ:=@List.getElem?_set_self
abbrev uI:=@List.filter_eq_nil_iff
abbrev uH:=@Int.fmod_nonneg_of_pos
abbrev mS:=@Bool.not_not
abbrev qE:=@PySem.wpAny_Call_method
abbrev lB:=@PySem.sizeLine_eq
abbrev qD:=@Option.map_some
abbrev qC:=@PySem.F.slot_tuple_hash
abbrev qB:=@PySem.Calls.spliced_nil
abbrev qA:=@Bool.or_eq_true
abbrev mR:=@PySem.wpAny_newList
abbrev mQ:=@PySem.wpAny_attempt
abbrev uG:=@PyProof.Rows.boot_abs
abbrev jM:=@true_and
abbrev qz:=@Rat.mul_nonneg
abbrev uF:=@Nat.pow_le_pow_right
abbrev mP:=@Nat.dvd_gcd
abbrev uE:=@Nat.add_le_add_right
abbrev qw:=@List.mem_range
abbrev uD:=@List.getElem?_set_ne
abbrev qv:=@List.forIn_nil
abbrev mO:=@Int.mul_pos
abbrev qu:=@PySem.F.entry_max_loop
abbrev lA:=@PySem.wpAny_rule
abbrev uC:=@PySem.W.plainGet_of
abbrev uA:=@List.length_pos_iff
abbrev uy:=@List.getD_cons_succ
abbrev ux:=@List.Perm.nodup_iff
abbrev qr:=@PySem.wpAny_execs_nil
abbrev qp:=@PySem.pushCells_keeps
abbrev qo:=@Int.dvd_trans
abbrev qm:=@PySem.F.slot_tuple_eq
abbrev qk:=@Bool.and_comm
abbrev uw:=@PySem.wpAny_notOrdered_dict
abbrev uv:=@PySem.isSubtype_tuple_tuple
abbrev uu:=@PySem.W.callWith_K
abbrev ur:=@List.Nodup.sublist
abbrev uq:=@Int.fmod_lt_of_pos
abbrev uo:=@Array.forIn_toList
abbrev um:=@not_true_eq_false
abbrev uk:=@Option.isSome_map
abbrev uj:=@Nat.le_of_lt_succ
abbrev qj:=@Nat.le_of_eq
abbrev ui:=@Nat.gcd_dvd_right
abbrev uh:=@List.not_mem_nil
abbrev qi:=@Rat.mul_pos
abbrev Av:=@List.getLast?_eq_some_getLast
abbrev ug:=@PySem.wpAny_tupleItemsOf
abbrev Au:=@PySem.F.slot_dict_setdefault
abbrev uf:=@Nat.not_lt_zero
abbrev ue:=@List.filter_map
abbrev As:=@List.dropLast_concat_getLast
abbrev Ar:=@Int.gcd_pos_of_ne_zero_right
abbrev ud:=@PySem.wpAny_pyIter_slot
abbrev uc:=@PySem.wpAny_pyIter_list
abbrev qh:=@PySem.codeAny_mono
abbrev qe:=@PySem.call_meetsIn
abbrev Aq:=@Nat.div_eq_of_eq_mul_right
abbrev Ap:=@List.getElem?_append_right
abbrev Ao:=@Int.eq_of_mul_eq_mul_right
abbrev ua:=@Bool.not_false
abbrev An:=@Array.perm_iff_toList_perm
abbrev Am:=@Array.getElem?_eq_some_iff
abbrev Al:=@List.getLastD_eq_getLast?
abbrev Ak:=@PySem.F.args_dict_itemiterator_next_1
abbrev Aj:=@Array.getElem?_eq_getElem
abbrev Ai:=@PySem.F.args_tuple_add_2
abbrev Ah:=@Option.isSome_iff_exists
abbrev Ag:=@List.Perm.eq_of_pairwise
abbrev Af:=@Int.mul_fdiv_cancel_left
abbrev Ae:=@PySem.F.entry_dict_itemiterator_next
abbrev Ad:=@PySem.F.args_dict_keyiterator_next_1
abbrev p_:=@PySem.wpAny_of_eq
abbrev p9:=@PySem.wpAny_field
abbrev Ac:=@PySem.F.entry_tuple_add
abbrev Ab:=@PySem.F.entry_dict_keyiterator_next
abbrev t_:=@PySem.size_of_entries
abbrev p8:=@PyProof.Rows.listUpdate_at
abbrev Aa:=@PySem.W.cellsFrom_some
abbrev z_:=@PySem.F.slot_tuple_add
abbrev z9:=@PyProof.noPylong_small
abbrev z8:=@Option.map_eq_some_iff
abbrev t9:=@Nat.zero_add
abbrev z7:=@List.range_succ_eq_map
abbrev z3:=@PySem.F.slot_dict_keyiterator_iter
abbrev zZ:=@Array.getElem?_eq_none
abbrev zY:=@PySem.W.methodCall_KW
abbrev zX:=@PySem.F.type_dict_get
abbrev zW:=@List.perm_append_comm
abbrev zV:=@List.length_singleton
abbrev zU:=@List.length_mergeSort
abbrev zT:=@Int.mul_fdiv_add_fmod
abbrev t8:=@PySem.wpAny_setField
abbrev t7:=@PySem.wpAny_newTuple
abbrev p7:=@PySem.wpAny_call
abbrev p6:=@or_false
abbrev t6:=@Nat.one_mul
abbrev tZ:=@Int.neg_dvd
abbrev zS:=@PySem.Calls.Name_function_global
abbrev ly:=@PyProof.Rows.lex_true
abbrev zR:=@PySem.W.callWith_K0
abbrev zQ:=@Nat.mul_div_cancel'
abbrev zP:=@Nat.add_le_add_left
abbrev zO:=@List.mergeSort_perm
abbrev zN:=@List.flatMap_append
abbrev zM:=@Array.toList_append
theorem cO{b a R:Prop}(d:b)(c:a)(r:R):b/\a/\R:=⟨d,c,r⟩
theorem oX{c b a R:Prop}(f:c)(e:b)(d:a)(r:R):c/\b/\a/\R:=⟨f,e,d,r⟩
theorem ab{c:Sort _}{b R:c->Prop}(w1:c)(d:b w1)(r:R w1):∃a,b a/\R a:=⟨w1,d,r⟩
theorem aa{c:Sort _}{b R:c->Prop}{w1:c}(d:b w1)(r:R w1):∃a,b a/\R a:=⟨w1,d,r⟩
theorem a8{d:Sort _}{c b R:d->Prop}(w1:d)(f:c w1)(e:b w1)(r:R w1):∃a,c a/\b a/\R a:=⟨w1,f,e,r⟩
theorem cz{d:Sort _}{c b R:d->Prop}{w1:d}(f:c w1)(e:b w1)(r:R w1):∃a,c a/\b a/\R a:=⟨w1,f,e,r⟩
theorem br{f:Sort _}{e:Sort _}{d R:f->e->Prop}(w1:f)(a:e)(g:d w1 a)(r:R w1 a):∃c b,d c b/\R c b:=⟨w1,a,g,r⟩
theorem aO{g:Sort _}{f:Sort _}{e d R:g->f->Prop}(w1:g)(a:f)(i:e w1 a)(h:d w1 a)(r:R w1 a):∃c b,e c b/\d c b/\R c b:=⟨w1,a,i,h,r⟩
theorem bD{g:Sort _}{f:Sort _}{e d R:g->f->Prop}{w1:g}{a:f}(i:e w1 a)(h:d w1 a)(r:R w1 a):∃c b,e c b/\d c b/\R c b:=⟨w1,a,i,h,r⟩
theorem eK{h:Sort _}{g:Sort _}{f e d R:h->g->Prop}(w1:h)(a:g)(k:f w1 a)(j:e w1 a)(i:d w1 a)(r:R w1 a):∃c b,f c b/\e c b/\d c b/\R c b:=⟨w1,a,k,j,i,r⟩
theorem bW{h:Sort _}{g:Sort _}{f e d R:h->g->Prop}{w1:h}{a:g}(k:f w1 a)(j:e w1 a)(i:d w1 a)(r:R w1 a):∃c b,f c b/\e c b/\d c b/\R c b:=⟨w1,a,k,j,i,r⟩
theorem e8{i:Sort _}{h:Sort _}{g f e d R:i->h->Prop}(w1:i)(a:h)(m:g w1 a)(l:f w1 a)(k:e w1 a)(j:d w1 a)(r:R w1 a):∃c b,g c b/\f c b/\e c b/\d c b/\R c b:=⟨w1,a,m,l,k,j,r⟩
theorem eQ{k:Sort _}{j:Sort _}{i:Sort _}{h g f R:k->j->i->Prop}(w1:k)(b:j)(a:i)(n:h w1 b a)(m:g w1 b a)(l:f w1 b a)(r:R w1 b a):∃e d c,h e d c/\g e d c/\f e d c/\R e d c:=⟨w1,b,a,n,m,l,r⟩
theorem fh{l:Sort _}{k:Sort _}{j:Sort _}{i h g f R:l->k->j->Prop}(w1:l)(b:k)(a:j)(p:i w1 b a)(o:h w1 b a)(n:g w1 b a)(m:f w1 b a)(r:R w1 b a):∃e d c,i e d c/\h e d c/\g e d c/\f e d c/\R e d c:=⟨w1,b,a,p,o,n,m,r⟩
theorem aU{o:Sort _}{n:Sort _}{m:Sort _}{l:Sort _}{k j i h R:o->n->m->l->Prop}(w1:o)(c:n)(b:m)(a:l)(t:k w1 c b a)(s:j w1 c b a)(q:i w1 c b a)(p:h w1 c b a)(r:R w1 c b a):∃g f e d,k g f e d/\j g f e d/\i g f e d/\h g f e d/\R g f e d:=⟨w1,c,b,a,t,s,q,p,r⟩
theorem bU{p:Sort _}{o:Sort _}{n:Sort _}{m:Sort _}{l k j i h R:p->o->n->m->Prop}(w1:p)(c:o)(b:n)(a:m)(v:l w1 c b a)(u:k w1 c b a)(t:j w1 c b a)(s:i w1 c b a)(q:h w1 c b a)(r:R w1 c b a):∃g f e d,l g f e d/\k g f e d/\j g f e d/\i g f e d/\h g f e d/\R g f e d:=⟨w1,c,b,a,v,u,t,s,q,r⟩
theorem cI{t:Sort _}{s:Sort _}{q:Sort _}{p:Sort _}{o:Sort _}{n m l k j R:t->s->q->p->o->Prop}(w1:t)(d:s)(c:q)(b:p)(a:o)(y:n w1 d c b a)(x:m w1 d c b a)(w:l w1 d c b a)(v:k w1 d c b a)(u:j w1 d c b a)(r:R w1 d c b a):∃i h g f e,n i h g f e/\m i h g f e/\l i h g f e/\k i h g f e/\j i h g f e/\R i h g f e:=⟨w1,d,c,b,a,y,x,w,v,u,r⟩
theorem sZ{u:Sort _}{t:Sort _}{s:Sort _}{q:Sort _}{p:Sort _}{o n m l k j R:u->t->s->q->p->Prop}(w1:u)(d:t)(c:s)(b:q)(a:p)(A:o w1 d c b a)(z:n w1 d c b a)(y:m w1 d c b a)(x:l w1 d c b a)(w:k w1 d c b a)(v:j w1 d c b a)(r:R w1 d c b a):∃i h g f e,o i h g f e/\n i h g f e/\m i h g f e/\l i h g f e/\k i h g f e/\j i h g f e/\R i h g f e:=⟨w1,d,c,b,a,A,z,y,x,w,v,r⟩
theorem cE{a R C:Prop}(h:a/\R)(f:a->R->C):C:=by obtain⟨b,r⟩:=h;exact f b r
theorem fb{b a R C:Prop}(h:b/\a/\R)(f:b->a->R->C):C:=by obtain⟨d,c,r⟩:=h;exact f d c r
theorem sj{e d c b a R C:Prop}(h:e/\d/\c/\b/\a/\R)(f:e->d->c->b->a->R->C):C:=by obtain⟨l,k,j,i,g,r⟩:=h;exact f l k j i g r
theorem aA{b:Sort _}{ R:b->Prop}{C:Prop}(h:∃a,R a)(f:∀a,R a->C):C:=by obtain⟨a,r⟩:=h;exact f a r
theorem ae{d:Sort _}{b R:d->Prop}{C:Prop}(h:∃a,b a/\R a)(f:∀a,b a->R a->C):C:=by obtain⟨a,c,r⟩:=h;exact f a c r
theorem aH{g:Sort _}{c b R:g->Prop}{C:Prop}(h:∃a,c a/\b a/\R a)(f:∀a,c a->b a->R a->C):C:=by obtain⟨a,e,d,r⟩:=h;exact f a e d r
theorem dG{l:Sort _}{e d c b R:l->Prop}{C:Prop}(h:∃a,e a/\d a/\c a/\b a/\R a)(f:∀a,e a->d a->c a->b a->R a->C):C:=by obtain⟨a,k,j,i,g,r⟩:=h;exact f a k j i g r
theorem aN{d:Sort _}{c:Sort _}{ R:d->c->Prop}{C:Prop}(h:∃b a,R b a)(f:∀b a,R b a->C):C:=by obtain⟨b,a,r⟩:=h;exact f b a r
theorem bI{g:Sort _}{e:Sort _}{c R:g->e->Prop}{C:Prop}(h:∃b a,c b a/\R b a)(f:∀b a,c b a->R b a->C):C:=by obtain⟨b,a,d,r⟩:=h;exact f b a d r
theorem aF{j:Sort _}{i:Sort _}{d c R:j->i->Prop}{C:Prop}(h:∃b a,d b a/\c b a/\R b a)(f:∀b a,d b a->c b a->R b a->C):C:=by obtain⟨b,a,g,e,r⟩:=h;exact f b a g e r
theorem e_{l:Sort _}{k:Sort _}{e d c R:l->k->Prop}{C:Prop}(h:∃b a,e b a/\d b a/\c b a/\R b a)(f:∀b a,e b a->d b a->c b a->R b a->C):C:=by obtain⟨b,a,j,i,g,r⟩:=h;exact f b a j i g r
theorem hO{s:Sort _}{q:Sort _}{p:Sort _}{o:Sort _}{j i g e R:s->q->p->o->Prop}{C:Prop}(h:∃d c b a,j d c b a/\i d c b a/\g d c b a/\e d c b a/\R d c b a)(f:∀d c b a,j d c b a->i d c b a->g d c b a->e d c b a->R d c b a->C):C:=by obtain⟨d,c,b,a,n,m,l,k,r⟩:=h;exact f d c b a n m l k r
theorem e9{l:Sort _}{k:Sort _}{j:Sort _}{i:Sort _}{g:Sort _}{ R:l->k->j->i->g->Prop}{C:Prop}(h:∃e d c b a,R e d c b a)(f:∀e d c b a,R e d c b a->C):C:=by obtain⟨e,d,c,b,a,r⟩:=h;exact f e d c b a r
theorem Fs{A:Type}{Q:List A->Prop}(h:∀a,Q [a]):∀b:List A,b.length=1->Q b | [a],_=>h a
theorem ln2{A:Type}{Q:List A->Prop}(h:∀b a,Q [b,a]):∀c:List A,c.length=2->Q c | [b,a],_=>h b a
theorem N6{A:Type}{Q:List A->Prop}(h:∀c b a,Q [c,b,a]):∀d:List A,d.length=3->Q d | [c,b,a],_=>h c b a
theorem U'{A:Type}{Q:List A->Prop}(h:∀d c b a,Q [d,c,b,a]):∀e:List A,e.length=4->Q e | [d,c,b,a],_=>h d c b a
theorem U9{A:Type}{Q:List A->Prop}(h:∀e d c b a,Q [e,d,c,b,a]):∀f:List A,f.length=5->Q f | [e,d,c,b,a],_=>h e d c b a
namespace L2
open PySem PySem.Spec PyProof.Rows
variable{a b C:Addr}{u:Value}{P:Program}{w:World}{h base:Heap}{ch fp:List Addr}{N ps:List Str}{i k n:Nat}{x:Str}{M:Model}{A:Around}{E Q:Value->Shared->Prop}{e c tg:Expr}{s:Shared}{pos:Pos}{O:List (Addr×Obj)}{op:CmpOp}{K:PySem.W.Frag}{body:List Stmt}{pl:Sem Bool}{f:Value->Value->Sem Value}{us:List Value}{kw:List (Str×Value)}{mg:Str->Option Value}
abbrev Key:=Sum Int Str
def xE:Key->Value->Bool
 | .inl k,v=>Value.isInt k v
 | .inr x,v=>Value.isStrOf x v
noncomputable def R_(w:World):Key->Int
 | .inl k=>hashInt k
 | .inr x=>hashStr w x
theorem eU:∀{k:Key} {v:Value},xE k v=true->(∃i t,k=Sum.inl i/\v=Value.int i t)\/(∃x t,k=Sum.inr x/\v=Value.str x t)
 | .inl i,v,h=>by
  refine aA (Value.isInt_shape (k:=i) (v:=v) h) λt e=>?_;exact .inl (br i t rfl e)
 | .inr x,v,h=>by
  refine aA (Value.isStrOf_shape (x:=x) (v:=v) h) λt e=>?_;exact .inr (br x t rfl e)
theorem Fy(i:Int)(t:Tok):xE (.inl i) (.int i t)=true:=by simp[xE,Value.isInt]
theorem Fx(x:Str)(t:Tok):xE (.inr x) (.str x t)=true:=by simp[xE,Value.isStrOf]
theorem Nr(a b:Int):decide ((Sum.inl a:Key)=Sum.inl b)=(a==b):=by
 by_cases e:a=b
 ·subst e;simp
 ·have h:¬(Sum.inl a:Key)=Sum.inl b:=λq=>e (Sum.inl.inj q);rw[di h];exact(lQ.2 e).symm
theorem Nn(a b:Str):decide ((Sum.inr a:Key)=Sum.inr b)=decide (a=b):=by
 by_cases e:a=b
 ·subst e;simp
 ·have h:¬(Sum.inr a:Key)=Sum.inr b:=λq=>e (Sum.inr.inj q);rw[di h,di e]
theorem Nq(a:Int)(b:Str):decide ((Sum.inl a:Key)=Sum.inr b)=false:=di (λq=>nomatch q)
theorem Np(a:Str)(b:Int):decide ((Sum.inr a:Key)=Sum.inl b)=false:=di (λq=>nomatch q)
def d9(prog:Program)(w:World):PySem.KeyKind prog w Key where
 is:=xE
 hash:=R_ w
 inj:=λv a b l f=>by
  rcases eU l with⟨i,t,rfl,rfl⟩ | ⟨x,t,rfl,rfl⟩
  ·rcases eU f with⟨j,u,rfl,e⟩ | ⟨y,u,rfl,e⟩
   ·injection e with c _;rw[c]
   ·exact nomatch e
  ·rcases eU f with⟨j,u,rfl,e⟩ | ⟨y,u,rfl,e⟩
   ·exact nomatch e
   ·injection e with c _;rw[c]
 byValue:=λk v h=>by
  rcases eU h with⟨i,t,rfl,rfl⟩ | ⟨x,t,rfl,rfl⟩ <;> rfl
 pyHash:=λd h=>by
  rcases eU d with⟨i,t,rfl,rfl⟩ | ⟨x,t,rfl,rfl⟩
  ·exact wpAny_pyHash_int h
  ·exact wpAny_pyHash_str h
 eqBool:=λg d h=>by
  rcases eU g with⟨i,t,rfl,rfl⟩ | ⟨x,t,rfl,rfl⟩
  ·rcases eU d with⟨j,u,rfl,rfl⟩ | ⟨y,u,rfl,rfl⟩
   ·rw[Nr]at h;exact wpAny_eqBool_int h
   ·rw[Nq]at h;exact SeqAt.EqAt.int_str i t y u _ _ _ _ h
  ·rcases eU d with⟨j,u,rfl,rfl⟩ | ⟨y,u,rfl,rfl⟩
   ·rw[Np]at h;exact SeqAt.EqAt.str_int x t j u _ _ _ _ h
   ·rw[Nn]at h;exact wpAny_eqBool_str h
 «strs»:=λk x t v h=>by
  rcases eU h with⟨i,u,rfl,e⟩ | ⟨y,u,rfl,e⟩
  ·exact nomatch e
  ·injection e with c _;subst c;cases v <;> rfl
theorem Bp(prog:Program)(w:World)(i:Int)(t:Tok):(d9 prog w).is (.inl i) (.int i t)=true:=Fy i t
theorem Bo(prog:Program)(w:World)(x:Str)(t:Tok):(d9 prog w).is (.inr x) (.str x t)=true:=Fx x t
inductive V where
 | gH | bl (b:Bool) | int (i:Int) | str (x:Str) | Dy (b:Array UInt8) | Qg (b:UInt64) | ref (a:Addr) | ty (n:String)
 deriving DecidableEq
variable{v:V}{vs:List V}
def bY:V->Value->Prop
 | .gH,u=>u=Value.none
 | .bl b,u=>u=Value.bool b
 | .int i,u=>∃t,u=Value.int i t
 | .str x,u=>∃t,u=Value.str x t
 | .Dy b,u=>∃t,u=Value.bytes b t
 | .Qg b,u=>∃t,u=Value.float b t
 | .ref a,u=>u=Value.ref a
 | .ty n,u=>u=Value.type n
abbrev Vals:List V->List Value->Prop:=Paired bY
theorem Vals.length{xs:List V}{us:List Value}(r:Vals xs us):xs.length=us.length:=ba r
theorem Vals.get:∀{xs:List V} {us:List Value} {i:Nat} {x:V},Vals xs us->xs[i]?=some x->∃u,us[i]?=some u/\bY x u
 | _,_,_,_,.nil,e=>by simp at e
 | _,_,0,_,.cons r _,e=>by simp at e;subst e;exact(aa rfl r)
 | _,_,i+1,x,.cons _ t,e=>by
  refine ae (Vals.get (i:=i) (x:=x) t (by simpa using e)) λu h1 h2=>?_;exact(ab u (by simpa using h1) h2)
theorem Vals.set{x:V}{u:Value}(r:bY x u):∀{xs:List V} {us:List Value} (i:Nat),Vals xs us->Vals (xs.set i x) (us.set i u)
 | _,_,_,.nil=>.nil
 | _,_,0,.cons _ t=>.cons r t
 | _,_,i+1,.cons q t=>.cons q (Vals.set r i t)
theorem Vals.append:∀{xs ys:List V} {us a:List Value},Vals xs us->Vals ys a->Vals (xs++ys) (us++a)
 | _,_,_,_,.nil,s=>s
 | _,_,_,_,.cons r t,s=>.cons r (Vals.append t s)
theorem Vals.take:∀{xs:List V} {us:List Value} (n:Nat),Vals xs us->Vals (xs.take n) (us.take n)
 | _,_,0,_=>.nil
 | _,_,_+1,.nil=>.nil
 | _,_,n+1,.cons r t=>.cons r (Vals.take n t)
theorem Vals.drop:∀{xs:List V} {us:List Value} (n:Nat),Vals xs us->Vals (xs.drop n) (us.drop n)
 | _,_,0,r=>r
 | _,_,_+1,.nil=>.nil
 | _,_,n+1,.cons _ t=>Vals.drop n t
def mH:Option V->Option Value->Prop
 | some v,some u=>bY v u
 | none,none=>True
 | _,_=>False
def KV{κ:Type}:List (κ×V)->List (κ×Value)->Prop:=Paired λp q=>p.1=q.1/\bY p.2 q.2
def kV:Key->V
 | .inl i=>.int i
 | .inr x=>.str x
inductive HO where
 | aR (xs:List V)
 | bG (xs:List V)
 | dK (cH:List (Key×V)) | dT (cH:List (List Key×V))
 | set (S:Int->Bool) (n:Nat)
 | ins (C dx:Addr) (fs:List (Str×V))
 | own (x:Addr)
 | xd (fs:List (Str×V))
 | met (f x:Addr)
 | RT (lo hi:Int)
 | oI (o:Obj) (u:HO)
 | lq (ps:Array Value)
 | ext (φ:Heap->Prop)
variable{o:HO}
abbrev Hp:=Addr->Option HO
variable{H:Hp}
def aX(H:Hp)(a:Addr)(o:HO):Hp:=λb=>if b=a then some o else H b
theorem ah:aX H a o a=some o:=by unfold aX;rw[ak rfl]
theorem ao(h:b≠a):aX H a o b=H b:=by unfold aX;rw[ai h]
theorem x9{u:HO}:aX (aX H a o) a u=aX H a u:=by
 funext b;unfold aX;split <;> rfl
theorem a3{u:HO}(h:H a=some o)(h':H b=some u)(d:o≠u):a≠b:=by
 intro e;subst e;rw[h]at h';exact d (bN h')
theorem aQ(h:H a=some o)(h':H b=none):a≠b:=by
 intro e;subst e;rw[h]at h';cases h'
section
variable(P:Program)(w:World)
def dR(H:Hp)(h:Heap)(a:Addr):HO->Prop
 | .aR xs=>xs.length<=sizeLine/\∃its n,Vals xs its/\h.get? a=some { cls:=.type "list",data:=.seq its.toArray n }
 | .bG xs=>xs.length<=sizeLine/\∃its:List Value,Vals xs its/\IsTup h a its.toArray
 | .dK cH=>cH.length<=sizeLine/\(a==sysModules)=false/\∃vs,KV cH vs/\h.DictOf (d9 P w) a vs
 | .dT cH=>cH.length<=sizeLine/\(a==sysModules)=false/\∃xs:List (List Key×Addr×Value),
   Paired (λp q=>p.1=q.1/\H q.2.1=some (.bG (p.1.map kV))/\bY p.2 q.2.2) cH xs/\
   ∃o es ep,h.get? a=some o/\o.ExactDict/\o.data=.dict es ep/\es.toList=xs.map (entryOfKey (tupleKind (d9 P w)))/\(xs.map (·.1)).Nodup
 | .set S n=>h.SetOf (intKind P w) a S n
 | .ins C dx fs=>H dx=some (.own a)/\fs.length<=1000/\dx≠a/\h.get? a=some (PySem.W.instObj C dx)/\
   ∃mA,h.Ns1 dx mA/\(∀f,mH (fs.lookup f) (mA f))/\PySem.Within mA (fs.map (·.1))
 | .own _=>∃o,h.get? a=some o
 | .xd fs=>∃mA,h.Ns1 a mA/\∀f,mH (fs.lookup f) (mA f)
 | .RT lo hi=>∃t u v,h.get? a=some { cls:=.type "range",data:=.fields #[.int lo t,.int hi u,.int 1 v] }
 | .oI o u=>h.get? a=some o/\dR H h a u
 | .lq ps=>h.get? a=some { cls:=.none,data:=.fields ps }
 | .met f x=>h.get? a=some (PySem.W.methodObj (.ref f) (.ref x))
 | .ext b=>b h/\(∃o,h.get? a=some o)/\∀h1 h2:Heap,b h1->(∀o,h1.get? a=some o->h2.get? a=some o)->b h2
def mN(H:Hp)(h:Heap):Prop:=∀a o,H a=some o->dR P w H h a o
end
section
variable{P:Program}{w:World}{H H':Hp}{h h':Heap}{a:Addr}{o:HO}
theorem dR.lt(x:dR P w H h a o):a<h.objs.size:=by
 cases o with
 | aR xs=>refine cE x λ_ b=>bI b λ_ _ _ e=>?_;exact bo e
 | bG xs=>refine cE x λ_ b=>ae b λ_ _ p=>?_;exact p.lt
 | dK cH=>refine fb x λ_ _ b=>ae b λ_ _ b=>aN b λo _ b=>ae b λ_ e _=>?_;exact bo e
 | dT cH=>refine fb x λ_ _ b=>ae b λ_ _ b=>aN b λo _ b=>ae b λ_ e _=>?_;exact bo e
 | set S n=>refine aN x λo _ b=>bI b λ_ _ e _=>?_;exact bo e
 | ins C dx fs=>refine fb x λ_ _ b=>fb b λ_ e _=>?_;exact bo e
 | own y=>refine aA x λ_ e=>?_;exact bo e
 | xd fs=>obtain⟨_,⟨_,_,_,e,_⟩,_⟩:=x;exact bo e
 | RT lo hi=>refine aN x λ_ _ b=>aA b λ_ e=>?_;exact bo e
 | oI d u=>refine cE x λe _=>?_;exact bo e
 | lq ps=>exact bo (show h.get? a=some _ from x)
 | met f y=>exact bo (show h.get? a=some _ from x)
 | ext c=>obtain⟨_,⟨_,e⟩,_⟩:=x;exact bo e
theorem Paired.fx{α e:Type}{F G:α->e->Prop}:∀{d:List α} {c:List e},Paired F d c->(∀a b,F a b->G a b)->Paired G d c
 | _,_,.nil,_=>.nil
 | _,_,.cons r t,f=>.cons (f _ _ r) (Paired.fx t f)
theorem dR.uW(x:dR P w H h a o)(k:∀b u,(b=a\/H b=some (.own a))->h.get? b=some u->h'.get? b=some u)(s:∀b,H b=some (.own a)->H' b=some (.own a))(m:∀b xs,H b=some (.bG xs)->H' b=some (.bG xs)):dR P w H' h' a o:=by
 induction o with
 | aR xs=>refine cE x λz g=>bI g λits n r e=>?_;exact(⟨z,br its n r <| k _ _ (.inl rfl) e⟩)
 | bG xs=>refine cE x λz g=>ae g λits r g=>ae g λi e c=>?_;exact(⟨z,ab its r <| ab i (k _ _ (.inl rfl) e) c⟩)
 | dK cH=>refine fb x λz y g=>ae g λvs r g=>aN g λi es g=>ae g λep e c=>?_;exact(cO z y <| ab vs r ⟨i,es,ep,k _ _ (.inl rfl) e,c⟩)
 | dT cH=>
  refine fb x λz y g=>ae g λxs r g=>aN g λi es g=>ae g λep e c=>?_;exact(cO z y <| ab xs (Paired.fx r λp q z=>(cO z.1 (m _ _ z.2.1) z.2.2)) ⟨i,es,ep,k _ _ (.inl rfl) e,c⟩)
 | set S n=>refine aN x λi es g=>bI g λep t e c=>?_;exact⟨i,es,ep,t,k _ _ (.inl rfl) e,c⟩
 | ins C dx fs=>
  obtain⟨d,z,j,e,mA,⟨od,es,ep,A,c⟩,r⟩:=x;exact(⟨s _ d,z,j,k _ _ (.inl rfl) e,ab mA ⟨od,es,ep,k _ _ (.inr d) A,c⟩ r⟩)
 | own y=>refine aA x λi e=>?_;exact⟨i,k _ _ (.inl rfl) e⟩
 | xd fs=>obtain⟨mA,⟨od,es,ep,e,c⟩,r⟩:=x;exact(ab mA ⟨od,es,ep,k _ _ (.inl rfl) e,c⟩ r)
 | RT lo hi=>refine aN x λt u g=>aA g λv e=>?_;exact⟨t,u,v,k _ _ (.inl rfl) e⟩
 | oI i u l=>refine cE x λe q=>?_;exact⟨k _ _ (.inl rfl) e,l q⟩
 | lq ps=>
  have e:h.get? a=some { cls:=.none,data:=.fields ps }:=x;show h'.get? a=some { cls:=.none,data:=.fields ps };exact k a _ (.inl rfl) e
 | met f y=>
  have e:h.get? a=some (PySem.W.methodObj (.ref f) (.ref y)):=x;show h'.get? a=some (PySem.W.methodObj (.ref f) (.ref y));exact k a _ (.inl rfl) e
 | ext B=>obtain⟨p,⟨o,e⟩,st⟩:=x;exact(cO (st _ _ p λo q=>k _ _ (.inl rfl) q) ⟨o,k _ _ (.inl rfl) e⟩ st)
theorem mN.lt(x:mN P w H h)(e:H a=some o):a<h.objs.size:=(x a o e).lt
theorem mN.fresh(x:mN P w H h)(e:h.objs.size<=a):H a=none:=by
 cases q:H a with
 | none=>rfl
 | some u=>exact absurd (cK (x.lt q) e) (h8 _)
theorem mN.kept(x:mN P w H h)(k:∀b u,h.get? b=some u->h'.get? b=some u):mN P w H h':=λa o e=>
 (x a o e).uW (λb u _ q=>k b u q) (λ_ q=>q) λ_ _ q=>q
theorem mN.laid(x:mN P w H h)(k:∀b u,h.get? b=some u->h'.get? b=some u)(i:h.objs.size<=a)(d:dR P w (aX H a o) h' a o):mN P w (aX H a o) h':=λb u e=>by
 have f:=x.fresh i
 by_cases g:b=a
 ·subst g;rw[ah]at e;cases e;exact d
 ·rw[ao g]at e;exact(x b u e).uW (λc v _ q=>k c v q) (λc q=>by rw[ao (aQ q f)];exact q) λc xs q=>by rw[ao (aQ q f)];exact q
end
def Rd(H:Hp)(a:Addr)(u:HO):Prop:=H a=some u\/∃o,H a=some (.oI o u)
theorem Rd.of{u:HO}(h:H a=some u):Rd H a u:=.inl h
theorem Rd.ok{u:HO}(r:Rd H a u)(x:mN P w H h):dR P w H h a u:=by
 rcases r with r | ⟨o,r⟩
 ·exact x a u r
 ·refine cE (x a _ r) λ_ q=>?_;exact q
def LU:Option HO->Prop
 | some (.aR _)=>True
 | some (.dK _)=>True
 | some (.dT _)=>True
 | some (.set _ _)=>True
 | some (.ins _ _ _)=>True
 | some (.ext _)=>True
 | _=>False
section
variable{P:Program}{w:World}{H:Hp}{h h':Heap}{x e:Addr}{o':HO}
theorem mN.write(n:mN P w H h)(mu:LU (H x))(m:e=x\/H e=some (.own x))(k:∀b u,b≠e->h.get? b=some u->h'.get? b=some u)(j:∃u,h'.get? e=some u)(i:dR P w (aX H x o') h' x o'):mN P w (aX H x o') h':=λb u q=>by
 have d:∀c y,H c=some (.own y)->c≠x:=λc y r z=>by subst z;rw[r]at mu;exact mu
 have f:∀c xs,H c=some (.bG xs)->c≠x:=λc xs r z=>by subst z;rw[r]at mu;exact mu
 by_cases g:b=x
 ·subst g;rw[ah]at q;cases q;exact i
 ·rw[ao g]at q
  by_cases a:b=e
  ·have l:H b=some (.own x):=by
    rcases m with z | z
    ·exact absurd (a.trans z) g
    ·rw[a];exact z
   rw[q]at l;cases l;refine aA j λv o=>?_;exact⟨v,by rw[a];exact o⟩
  ·refine(n b u q).uW (λc v hc r=>k c v ?_ r) (λc r=>by rw[ao (d c b r)];exact r) λc xs r=>by rw[ao (f c xs r)];exact r
   rcases hc with rfl | hc
   ·exact a
   ·rintro rfl;rcases m with z | z
    ·exact d c b hc z
    ·rw[hc]at z;cases z;exact g rfl
end
structure Un(fs ex:List Addr)(H H':Hp)(h h':Heap):Prop where
 keep:∀b o,h.get? b=some o->H b=none->b∉fs->b∉ex->h'.get? b=some o
 slot:∀b o,h.get? b=some o->H b=none->b∈fs->b∉ex->∃sl,h'.get? b=some { o with slots:=sl }
 free:∀b o,h.get? b=some o->H b=none->b∉ex->H' b=none
 there:∀b o,h.get? b=some o->b∉ex->∃o',h'.get? b=some o'
 gY:∀b xs,H b=some (.bG xs)->H' b=some (.bG xs)
 zf:∀b o u,H b=some (.oI o u)->H' b=some (.oI o u)
 AF:∀b ps,H b=some (.lq ps)->∃more,H' b=some (.lq (ps++more))
section
variable{fs Wy ex Y1:List Addr}{H H1 H2:Hp}{h h1 h2 h':Heap}{a x e:Addr}{o:HO}
theorem Un.any(u:Un fs ex H H1 h h1){a:Obj}(q:h.get? b=some a)(n:H b=none)(c:b∉ex):∃sl,h1.get? b=some { a with slots:=sl }:=by
 by_cases d:b∈fs
 ·exact u.slot b a q n d c
 ·exact⟨a.slots,u.keep b a q n d c⟩
theorem Un.kept(k:∀b u,h.get? b=some u->h'.get? b=some u):Un fs ex H H h h':=
 ⟨λb a q _ _ _=>k b a q,λb a q _ _ _=>⟨a.slots,k b a q⟩,λ_ _ _ n _=>n,λb a q _=>⟨a,k b a q⟩,λ_ _ q=>q,λ_ _ _ q=>q,λ_ ps q=>⟨#[],by rw[q];simp⟩⟩
theorem Un.refl:Un fs ex H H h h:=Un.kept λ_ _ q=>q
theorem Un.laid(k:∀b u,h.get? b=some u->h'.get? b=some u)(d:h.objs.size<=a)(c:H a=none):Un fs ex H (aX H a o) h h' where
 keep:=λb u q _ _ _=>k b u q
 slot:=λb u q _ _ _=>⟨u.slots,k b u q⟩
 free:=λb u q n _=>by rw[ao (b8 (cK (bo q) d))];exact n
 there:=λb u q _=>⟨u,k b u q⟩
 gY:=λb xs q=>by rw[ao (aQ q c)];exact q
 zf:=λb u xs q=>by rw[ao (aQ q c)];exact q
 AF:=λb ps q=>⟨#[],by rw[ao (aQ q c),q];simp⟩
theorem Un.write(mu:LU (H x))(j:e=x\/H e=some (.own x))(k:∀b u,b≠e->h.get? b=some u->h'.get? b=some u)(d:∃u,h'.get? e=some u):Un fs ex H (aX H x o) h h':=by
 have f:∀b,H b=none->b≠x:=λb n z=>by subst z;rw[n]at mu;exact mu
 have g:∀b,H b=none->b≠e:=λb n z=>by
  subst z;rcases j with r | r
  ·exact f b n r
  ·rw[n]at r;cases r
 have c:∀b u,H b=some u->¬LU (some u)->b≠x:=λb u q i z=>by subst z;rw[q]at mu;exact i mu
 refine⟨λb u q n _ _=>k b u (g b n) q,λb u q n _ _=>⟨u.slots,k b u (g b n) q⟩,λb u q n _=>by rw[ao (f b n)];exact n,λb u q _=>?_,
  λb xs q=>by rw[ao (c b _ q λz=>z)];exact q,λb u xs q=>by rw[ao (c b _ q λz=>z)];exact q,λb ps q=>⟨#[],by rw[ao (c b _ q λz=>z),q];simp⟩⟩
 by_cases a:b=e
 ·subst a;exact d
 ·exact⟨u,k b u a q⟩
end
noncomputable def QB(h:Heap)(H:Hp):List Addr:=(List.range h.objs.size).filter λa=>(H a).isSome
def zb(h:Heap)(H:Hp):Heap:=PySem.W.hideAll h (QB h H)
theorem FD(h:Heap)(H:Hp):(zb h H).objs.size=h.objs.size:=PySem.W.hideAll_size _ _
theorem vM{o:Obj}(e:h.get? b=some o)(n:H b=none):(zb h H).get? b=some o:=
 PySem.W.hideAll_get _ e λa=>by
  have q:(H b).isSome=true:=(bh.1 a).2;rw[n]at q;simp at q
theorem Kd{o:Obj}(e:(zb h H).get? b=some o):h.get? b=some o/\H b=none:=by
 have a:h.get? b=some o:=PySem.W.of_hideAll (QB h H) e;refine⟨a,?_⟩;cases q:H b with
 | none=>rfl
 | some x=>
  have c:b∈QB h H:=bh.2 ⟨qw.2 (bo a),by simp[q]⟩;have z:(zb h H).get? b=none:=PySem.W.hideAll_none (QB h H) c;rw[z]at e;cases e
structure Mod(K:PySem.W.Frag)(mg:Str->Option Value)(base:Heap):Prop where
 PF:K.In base
 glob:base.Ns mainGlobals mg
 blt:∃mb,base.Ns builtinsNs mb/\∀x:Str,x≠"__name__"->mb x=bootBuiltins x
 nolimit:base.NoLimit
structure Cx where
 prog:Program
 w:World
 K:PySem.W.Frag
 mg:Str->Option Value
 base:Heap
 A:Around
 N:List Str
 vb:Shared
 LZ:Hp
 env:Env
 dF:List Env
 stack:List Env
 ex:List Addr
 fn:Str->Bool
 calm:Bool
 pn:List (Addr×Obj)
 xe:Value->Shared->Prop
variable{X:Cx}
noncomputable def Iz(l:List Env):List Addr:=l.filterMap (·.frame)
abbrev Cx.fs(X:Cx):List Addr:=Iz X.dF
def Oc(a:Scope)(x:Str):Prop:=a.names.lookup x=some .local\/a.names.lookup x=some .cell\/a.names.lookup x=some .free
def Loc(a:Scope)(x:Str):Prop:=a.names.lookup x=some .local\/a.names.lookup x=some .cell
def Look(env:Env)(h:Heap)(m:Str->Option Value)(x:Str)(u:Value):Prop:=
 (env.kindOf x=some .local/\m x=some u)\/((env.kindOf x=some .cell\/env.kindOf x=some .free)/\∃c,env.cells.lookup x=some c/\h.IsCell c (some u))
structure Cx.Ok(X:Cx):Prop where
 mod:Mod X.K X.mg X.base
 kind:X.env.scope.kind=.function
 glob:X.env.globals=mainGlobals
 blt:X.env.builtins=builtinsNs
 above:X.vb.heap.objs.size<=X.env.locals
 inj:∀x y c,X.env.cells.lookup x=some c->X.env.cells.lookup y=some c->x=y
 has:∀x,(X.env.kindOf x=some .cell\/X.env.kindOf x=some .free)->∃c,X.env.cells.lookup x=some c
 K2:∀x c,X.fn x=true->X.env.cells.lookup x=some c->X.vb.heap.objs.size<=c
 hd:X.calm=true->X.A.handled=none
 frames:X.A.frames=some X.stack
 Ll:X.stack=X.dF\/(X.stack=X.env::X.dF/\X.env.frame=some X.env.locals)
 LH:∀b∈X.ex,b≠X.env.locals/\∀x c,X.env.cells.lookup x=some c->c≠b
 bs:∀b o,X.base.get? b=some o->X.vb.heap.get? b=some o/\X.LZ b=none
 Dz:X.base.objs.size<=X.vb.heap.objs.size
 yM:∀b o,X.base.get? b=some o->b∉X.ex
 zh:∀b∈X.ex,b∉X.fs
 oi:X.vb.heap.FunFrames X.base X.dF
 Gb:∀b∈X.fs,X.LZ b=none
structure Inv(X:Cx)(O:List (Addr×Obj))(σ:List (Option V))(H:Hp)(s:Shared):Prop where
 ok:X.Ok
 os:s.os=X.vb.os
 bare:AllBare s.gens
 base:Un X.fs X.ex X.LZ H X.vb.heap s.heap
 loc:∃m,s.heap.Ns X.env.locals m/\∀(i:Nat) (x:Str) (v:V),X.N[i]?=some x->σ[i]?=some (some v)->Oc X.env.scope x->∃u,bY v u/\Look X.env s.heap m x u
 cell:∀x c,X.env.cells.lookup x=some c->∃v,s.heap.IsCell c v
 free:H X.env.locals=none
 iA:∀x c,X.env.cells.lookup x=some c->H c=none
 pin:∀p∈X.pn++O,s.heap.get? p.1=some p.2/\H p.1=none/\p.1≠X.env.locals/\p.1∉X.fs/\∀v,p.2.data≠.cell v
 dS:mN X.prog X.w H s.heap
 len:σ.length=X.N.length
section
variable{X:Cx}{O:List (Addr×Obj)}{σ:List (Option V)}{H H':Hp}{s:Shared}{h':Heap}
theorem Cx.Ok.R4(a:X.Ok){o:Obj}(e:X.base.get? b=some o):b∉X.fs:=λc=>by
 have:=(a.oi.mem c).1;rw[e]at this;cases this
theorem Inv.bs(I:Inv X O σ H s):∀b o,X.base.get? b=some o->s.heap.get? b=some o/\H b=none:=λb o e=>
 ⟨I.base.keep b o (I.ok.bs b o e).1 (I.ok.bs b o e).2 (I.ok.R4 e) (I.ok.yM b o e),I.base.free b o (I.ok.bs b o e).1 (I.ok.bs b o e).2 (I.ok.yM b o e)⟩
theorem Inv.bk(I:Inv X O σ H s):∀b o,X.base.get? b=some o->s.heap.get? b=some o:=λb o e=>(I.bs b o e).1
theorem Inv.mod(I:Inv X O σ H s):Mod X.K X.mg X.base:=I.ok.mod
theorem Inv.Cm(I:Inv X O σ H s):X.K.In s.heap:=I.ok.mod.PF.keeps I.bk
theorem Inv.fr(I:Inv X O σ H s):∃m,Fr X.base X.env.locals s.heap m:=
 let ⟨m,a,_⟩:=I.loc
 ⟨m,a,I.bk,fG I.ok.Dz I.ok.above⟩
theorem Inv.lt(I:Inv X O σ H s):X.env.locals<s.heap.objs.size:=let ⟨_,a,_⟩:=I.loc;a.lt
theorem Inv.sz(I:Inv X O σ H s):X.vb.heap.objs.size<=s.heap.objs.size:=fG I.ok.above (lC I.lt)
theorem Inv.R3(I:Inv X O σ H s)(h:s.heap.objs.size<=a):a∉X.fs:=λd=>by
 refine cE (I.ok.oi.mem d) λ_ b=>ae b λo c _=>?_;exact absurd (cK (bo c) (fG I.sz h)) (h8 _)
theorem Inv.SV(I:Inv X O σ H s):∀x c,X.env.cells.lookup x=some c->c≠X.env.locals:=λx c e z=>by
 refine bI (I.cell x c e) λv o d f=>?_;obtain⟨m,⟨o',es,ep,a,b,_⟩,_⟩:=I.loc;rw[z,a]at d;cases d;rw[b]at f;cases f
theorem Inv.oi(I:Inv X O σ H s):s.heap.FunFrames X.base X.dF:=by
 have all:∀l,(∀b∈Iz l,b∈X.fs)->X.vb.heap.FunFrames X.base l->s.heap.FunFrames X.base l:=by
  intro l
  induction l with
  | nil=>intro _ _;trivial
  | cons env r g=>
   intro f k;obtain⟨m,⟨L,o,a,j,i,n⟩,h⟩:=k;have d:L∈X.fs:=f L (by unfold Iz;rw[qU,a];exact iU);refine aA (I.base.slot L o i (I.ok.Gb L d) d λz=>I.ok.zh L z d) λsl e=>?_;exact(cO m (eK L _ a j e n) <| g (λb c=>f b (by unfold Iz;rw[qU,a];exact cN _ c)) h)
 exact all X.dF (λ_ c=>c) I.ok.oi
theorem Inv.stack(I:Inv X O σ H s):s.heap.FunFrames X.base X.stack:=by
 rcases I.ok.Ll with e | ⟨e,b⟩
 ·rw[e];exact I.oi
 ·rw[e];refine ae I.loc λm a _=>?_;refine .cons (by rw[I.ok.kind];decide) b a ?_ I.oi;exact Heap.get?_none_of_le (fG I.ok.Dz I.ok.above)
theorem Inv.Cs(I:Inv X O σ H s):∀b∈Iz X.stack,b∈X.env.locals::X.fs:=λb a=>by
 rcases I.ok.Ll with e | ⟨e,c⟩
 ·rw[e]at a;exact cN _ a
 ·rw[e]at a;unfold Iz at a;rw[qU,c]at a;exact a
theorem Inv.DV(I:Inv X O σ H s):∀b∈Iz X.stack,H b=none:=λb a=>by
 rcases aY.1 (I.Cs b a) with e | a
 ·rw[e];exact I.free
 ·refine cE (I.ok.oi.mem a) λ_ c=>ae c λo d _=>?_;exact I.base.free b o d (I.ok.Gb b a) λz=>I.ok.zh b z a
theorem Inv.step{g':Array GenState}{R:Nat}{d':Drawn}(I:Inv X O σ H s)(h:∀b∈ch,(b∈X.ex\/X.vb.heap.objs.size<=b)/\b≠X.env.locals/\(∀x c,X.env.cells.lookup x=some c->c≠b)/\∀p∈X.pn++O,p.1≠b)(g:∀b o,b≠X.env.locals->b∉X.fs->b∉ch->s.heap.get? b=some o->H b=none->h'.get? b=some o)(slot:∀b o,b≠X.env.locals->b∈X.fs->b∉ch->s.heap.get? b=some o->H b=none->∃sl,h'.get? b=some { o with slots:=sl })(free:∀b o,b∉ch->s.heap.get? b=some o->H b=none->H' b=none)(w:∀b o,b∉ch->s.heap.get? b=some o->∃o',h'.get? b=some o')(B:∀b xs,H b=some (.bG xs)->H' b=some (.bG xs))(F:∀b o u,H b=some (.oI o u)->H' b=some (.oI o u))(C:∀b ps,H b=some (.lq ps)->∃E,H' b=some (.lq (ps++E)))(S:∀m,s.heap.Ns X.env.locals m->h'.Ns X.env.locals m)(L:mN X.prog X.w H' h')(Y:AllBare g'):
  Inv X O σ H' { s with heap:=h',gens:=g',drawn:=d',toks:=R }:=by
 have D:∀b o,X.vb.heap.get? b=some o->b≠X.env.locals:=λb o e=>b8 (cK (bo e) I.ok.above);have j:∀b o,X.vb.heap.get? b=some o->b∉X.ex->b∉ch:=λb o e a y=>by
  rcases(h b y).1 with z | z
  ·exact a z
  ·exact absurd (cK (bo e) z) (h8 _)
 have cellK:∀x c,X.env.cells.lookup x=some c->∀v,s.heap.IsCell c v->h'.IsCell c v:=λx c e v J=>ae J λo A M=>by
  have f:c∉ch:=λz=>(h c z).2.2.1 x c e rfl
  by_cases hc:c∈X.fs
  ·refine aA (slot c o (I.SV x c e) hc f A (I.iA x c e)) λsl q=>?_;exact(aa q M)
  ·exact(ab o (g c o (I.SV x c e) hc f A (I.iA x c e)) M)
 refine⟨I.ok,I.os,Y,⟨λb o e n y a=>?_,λb o e n y a=>?_,λb o e n a=>?_,λb o e a=>?_,λb xs e=>B b xs (I.base.gY b xs e),λb o xs e=>F b o xs (I.base.zf b o xs e),λb ps e=>?_⟩,?_,λx c e=>?_,?_,λx c e=>?_,λp Q=>?_,L,I.len⟩
 ·exact g b o (D b o e) y (j b o e a) (I.base.keep b o e n y a) (I.base.free b o e n a)
 ·refine aA (I.base.slot b o e n y a) λsl t=>?_;refine aA (slot b _ (D b o e) y (j b o e a) t (I.base.free b o e n a)) λK G=>?_;exact⟨K,G⟩
 ·refine aA (I.base.there b o e a) λo' t=>?_;exact free b o' (j b o e a) t (I.base.free b o e n a)
 ·refine aA (I.base.there b o e a) λo' t=>?_;exact w b o' (j b o e a) t
 ·refine aA (I.base.AF b ps e) λU t=>?_;refine aA (C b _ t) λT G=>?_;exact⟨U++T,by rw[G,Array.append_assoc]⟩
 ·refine ae I.loc λm V W=>?_;refine(ab m (S m V) <| λi x v t G Z=>?_);refine ae (W i x v t G Z) λu r l=>?_;refine(ab u r ?_);rcases l with l | ⟨k,c,e,z⟩
  ·exact .inl l
  ·exact .inr (⟨k,ab c e <| cellK x c e _ z⟩)
 ·refine aA (I.cell x c e) λv z=>?_;exact⟨v,cellK x c e v z⟩
 ·obtain⟨m,⟨o,_,_,A,_⟩,_⟩:=I.loc;exact free _ o (λz=>(h _ z).2.1 rfl) A I.free
 ·refine bI (I.cell x c e) λv o A M=>?_;exact free c o (λz=>(h c z).2.2.1 x c e rfl) A (I.iA x c e)
 ·refine fb (I.pin p Q) λe n J=>fb J λP N d=>?_;have f:p.1∉ch:=λz=>(h p.1 z).2.2.2 p Q rfl;exact⟨g p.1 p.2 P N f e n,free p.1 p.2 f e n,P,N,d⟩
theorem Inv.un{t':Nat}(I:Inv X O σ H s)(u:Un X.fs [] H H' s.heap h')(c:mN X.prog X.w H' h'):Inv X O σ H' { s with heap:=h',toks:=t' }:=by
 obtain⟨m,⟨o,es,ep,h,r⟩,_⟩:=id I.loc;refine aA (u.any h I.free (by simp)) λsl l=>?_;exact I.step (g':=s.gens) (d':=s.drawn) (ch:=[]) (λ_ z=>nomatch z) (λb o _ d _ e n=>u.keep b o e n d (by simp)) (λb o _ d _ e n=>u.slot b o e n d (by simp)) (λb o _ e n=>u.free b o e n (by simp)) (λb o _ e=>u.there b o e (by simp)) u.gY u.zf u.AF (λp k=>by
  refine aN k λo' f i=>ae i λg a j=>?_;rw[h]at a;cases a;exact⟨_,f,g,l,j⟩) c I.bare
theorem Inv.call{g':Array GenState}{t':Nat}{d':Drawn}(I:Inv X O σ H s)(u:Un (Iz X.stack) ch H H' s.heap h')(f:mN X.prog X.w H' h')(t:AllBare g')(d:∀b∈ch,(b∈X.ex\/X.vb.heap.objs.size<=b)/\b≠X.env.locals/\(∀x c,X.env.cells.lookup x=some c->c≠b)/\∀p∈X.pn++O,p.1≠b):
  Inv X O σ H' { s with heap:=h',gens:=g',drawn:=d',toks:=t' }:=by
 obtain⟨m,⟨o,es,ep,j,r⟩,_⟩:=id I.loc;refine aA (u.any j I.free λz=>(d _ z).2.1 rfl) λsl g=>?_;exact I.step (ch:=ch) d (λb o g v hc e n=>u.keep b o e n (λz=>(aY.1 (I.Cs b z)).elim g v) hc) (λb o _ _ hc e n=>u.any e n hc) (λb o hc e n=>u.free b o e n hc) (λb o hc e=>u.there b o e hc) u.gY u.zf u.AF (λw q=>by
  refine aN q λo' h k=>ae k λi a l=>?_;rw[j]at a;cases a;exact⟨_,h,i,g,l⟩) f t
theorem Inv.turned{t':Nat}{a:Addr}(I:Inv X O σ H s)(k:∀b o,b≠a->s.heap.get? b=some o->h'.get? b=some o)(i:H a=none)(f:a≠X.env.locals)(h1:a∈X.ex\/X.vb.heap.objs.size<=a)(h2:∀x c,X.env.cells.lookup x=some c->c≠a)(t:∀p∈X.pn++O,p.1≠a):Inv X O σ H { s with heap:=h',toks:=t' }:=by
 have d:∀b u,H b=some u->b≠a:=λb u e z=>by rw[z,i]at e;cases e
 refine I.step (g':=s.gens) (d':=s.drawn) (ch:=[a]) (λb l=>?_) (λb o _ _ hc e _=>k b o (λz=>hc (by simp[z])) e) (λb o _ _ hc e _=>⟨o.slots,k b o (λz=>hc (by simp[z])) e⟩) (λ_ _ _ _ n=>n)
  (λb o hc e=>⟨o,k b o (λz=>hc (by simp[z])) e⟩) (λ_ _ e=>e) (λ_ _ _ e=>e) (λb ps e=>⟨#[],by rw[e];simp⟩) (λm j=>?_) (λb u e=>?_) I.bare
 ·have e:b=a:=by simpa using l
  subst e;exact(oX h1 f h2 t)
 ·refine aN j λo es g=>ae g λep h r=>?_;exact⟨o,es,ep,k _ o (bu f) h,r⟩
 ·refine(I.dS b u e).uW (λc v hc q=>k c v ?_ q) (λ_ q=>q) λ_ _ q=>q;rcases hc with z | z
  ·rw[z];exact d b u e
  ·exact d c _ z
theorem Inv.tok(I:Inv X O σ H s)(t:Nat):Inv X O σ H { s with toks:=t }:=I.un (h':=s.heap) (t':=t) Un.refl I.dS
theorem Inv.kept{t':Nat}(I:Inv X O σ H s)(k:∀b u,s.heap.get? b=some u->h'.get? b=some u):Inv X O σ H { s with heap:=h',toks:=t' }:=I.un (Un.kept k) (I.dS.kept k)
theorem Inv.laid{a:Addr}{o:HO}{t':Nat}(I:Inv X O σ H s)(k:∀b u,s.heap.get? b=some u->h'.get? b=some u)(d:s.heap.objs.size<=a)(c:dR X.prog X.w (aX H a o) h' a o):
  Inv X O σ (aX H a o) { s with heap:=h',toks:=t' }:=I.un (Un.laid k d (I.dS.fresh d)) (I.dS.laid k d c)
theorem Inv.write{x e:Addr}{o:HO}{t':Nat}(I:Inv X O σ H s)(mu:LU (H x))(d:e=x\/H e=some (.own x))(k:∀b u,b≠e->s.heap.get? b=some u->h'.get? b=some u)(a:∃u,h'.get? e=some u)(c:dR X.prog X.w (aX H x o) h' x o):Inv X O σ (aX H x o) { s with heap:=h',toks:=t' }:=I.un (Un.write mu d k a) (I.dS.write mu d k a c)
theorem Inv.weak{a:List (Option V)}(I:Inv X O σ H s)(d:a.length=σ.length)(w:∀(i:Nat) v,a[i]?=some (some v)->σ[i]?=some (some v)):Inv X O a H s:=
 ⟨I.ok,I.os,I.bare,I.base,let ⟨m,c,b⟩:=I.loc;(ab m c <| λi x v g f e=>b i x v g (w i v f) e),I.cell,I.free,I.iA,I.pin,I.dS,d.trans I.len⟩
theorem Inv.Ec{a:List (Addr×Obj)}(I:Inv X O σ H s)(h:∀p∈a,s.heap.get? p.1=some p.2/\H p.1=none/\p.1≠X.env.locals/\p.1∉X.fs/\∀v,p.2.data≠.cell v):Inv X a σ H s:=
 ⟨I.ok,I.os,I.bare,I.base,I.loc,I.cell,I.free,I.iA,λp b=>(cJ.1 b).elim (λz=>I.pin p (kD _ z)) (h p),I.dS,I.len⟩
theorem vt(c:N.Nodup){j:Nat}(a:N[i]?=some x)(b:N[j]?=some x):i=j:=by
 refine aA (bF.1 a) λh1 e=>?_;refine aA (bF.1 b) λh2 d=>?_;exact(List.getElem_inj c).1 (e.trans d.symm)
theorem wX{Q:Unit->Shared->Prop}(I:Inv X O σ H s)(hN:X.N.Nodup)(hi:X.N[i]?=some x)(t:Loc X.env.scope x)(r:bY v u)(h:∀s',Inv X O (σ.set i (some v)) H s'->(∃a,Heap.SameBut a s.heap s'.heap/\(a=X.env.locals\/X.env.cells.lookup x=some a))->Q () s')(hf:X.fn x=true\/X.env.scope.names.lookup x=some .local:=by first | exact .inl rfl | exact .inr rfl | assumption):wpAny M A (storeName X.env x u) Q E s:=by
 refine ae (id I.loc) λm hn hl=>?_;have P:(X.env.scope.kind==.class || (X.env.scope.kind==.module&&X.env.locals !=X.env.globals))=false:=by rw[I.ok.kind];rfl
 have C:i < σ.length:=by rw[I.len];exact(bF.1 hi).1
 have J:=I.SV;have g:∀{a:Addr} {h':Heap},(∃o,s.heap.get? a=some o/\H a=none)->Heap.SameBut a s.heap h'->mN X.prog X.w H h':=fun{a h'} ha f b ob e=>by
  refine ae ha λ_ _ w=>?_;refine(I.dS b ob e).uW (λc T hc q=>(f.2 c ?_).trans q) (λ_ q=>q) λ_ _ q=>q;rintro rfl;rcases hc with rfl | hc
  ·rw[w]at e;cases e
  ·rw[w]at hc;cases hc
 rcases t with hk | hk
 ·refine wpAny_storeName_local hk hn (λh' VL f=>?_) P;refine aN (id hn) λoL _ K=>ae K λ_ VH _=>?_;refine h _ ⟨I.ok,I.os,I.bare,⟨λb o e n G t=>?_,λb o e n G t=>?_,I.base.free,λb o e t=>?_,I.base.gY,I.base.zf,I.base.AF⟩,(aa VL <| λj y W l B e3=>?_),λy c e=>?_,I.free,I.iA,λp hp=>?_,g (ab oL VH I.free) f,by simpa using I.len⟩ (aa f <| .inl rfl)
  ·exact(f.2 b (b8 (cK (bo e) I.ok.above))).trans (I.base.keep b o e n G t)
  ·refine aA (I.base.slot b o e n G t) λsl l=>?_;exact⟨sl,(f.2 b (b8 (cK (bo e) I.ok.above))).trans l⟩
  ·refine aA (I.base.there b o e t) λo' l=>?_;exact⟨o',(f.2 b (b8 (cK (bo e) I.ok.above))).trans l⟩
  ·by_cases D:j=i
   ·subst D;rw[hi]at l;cases l;rw[uJ C]at B;cases B;exact(ab u r <| .inl ⟨hk,by simp⟩)
   ·rw[uD (bu D)]at B;refine ae (hl j y W l B e3) λY Z q=>?_;refine(ab Y Z ?_);rcases q with⟨k,e⟩ | ⟨k,c,e,z⟩
    ·refine .inl ⟨k,?_⟩;have:y≠x:=λe=>D (vt hN l (e▸hi));simp[this,e]
    ·exact .inr (⟨k,ab c e <| z.sameBut f (J y c e)⟩)
  ·refine aA (I.cell y c e) λT z=>?_;exact⟨T,z.sameBut f (J y c e)⟩
  ·refine fb (I.pin p hp) λe n K=>fb K λU nf d=>?_;exact⟨(f.2 p.1 U).trans e,n,U,nf,d⟩
 ·have F:X.fn x=true:=by
   rcases hf with z | z
   ·exact z
   ·rw[z]at hk;cases hk
  refine aA (I.ok.has x (.inl hk)) λc hc=>?_;refine aA (I.cell x c hc) λT z=>?_;refine wpAny_storeName_cell I.ok.kind hk hc z (λh' S f=>?_);refine ae (id z) λoc N L=>?_;refine h { s with heap:=h' } ⟨I.ok,I.os,I.bare,⟨λb o e n G t=>?_,λb o e n G t=>?_,I.base.free,λb o e t=>?_,I.base.gY,I.base.zf,I.base.AF⟩,(ab m (hn.sameBut f (bu (J x c hc))) <| λj y W l B e3=>?_),λy V e=>?_,I.free,I.iA,λp hp=>?_,g (ab oc N <| I.iA x c hc) f,by simpa using I.len⟩ (ab c f <| .inr hc)
  ·exact(f.2 b (b8 (cK (bo e) (I.ok.K2 x c F hc)))).trans (I.base.keep b o e n G t)
  ·refine aA (I.base.slot b o e n G t) λsl l=>?_;exact⟨sl,(f.2 b (b8 (cK (bo e) (I.ok.K2 x c F hc)))).trans l⟩
  ·refine aA (I.base.there b o e t) λo' l=>?_;exact⟨o',(f.2 b (b8 (cK (bo e) (I.ok.K2 x c F hc)))).trans l⟩
  ·by_cases D:j=i
   ·subst D;rw[hi]at l;cases l;rw[uJ C]at B;cases B;exact(ab u r <| .inr (⟨.inl hk,ab c hc S⟩))
   ·rw[uD (bu D)]at B;refine ae (hl j y W l B e3) λY Z q=>?_;refine(ab Y Z ?_);rcases q with q | ⟨k,V,e,z'⟩
    ·exact .inl q
    ·refine .inr (⟨k,ab V e <| z'.sameBut f ?_⟩);rintro rfl;exact D (vt hN l (I.ok.inj _ _ _ e hc▸hi))
  ·by_cases R:V=c
   ·subst R;exact⟨_,S⟩
   ·refine aA (I.cell y V e) λw2 z2=>?_;exact⟨w2,z2.sameBut f R⟩
  ·refine fb (I.pin p hp) λe n K=>fb K λU nf d=>?_;refine⟨(f.2 p.1 ?_).trans e,n,U,nf,d⟩;intro q;rw[q,N]at e;have q':oc=p.2:=bN e;exact d T (by rw[<-q'];exact L)
theorem uV{Q:Unit->Shared->Prop}(I:Inv X O σ H s)(c:X.N.Nodup)(hi:X.N[i]?=some x)(a:Loc X.env.scope x)(r:bY v u)(h:∀s',Inv X O (σ.set i (some v)) H s'->Q () s')(b:X.fn x=true\/X.env.scope.names.lookup x=some .local:=by first | exact .inl rfl | exact .inr rfl | assumption):wpAny M A (storeName X.env x u) Q E s:=
 wX I c hi a r (λs' d _=>h s' d) b
theorem Inv.Ql{s':Shared}(I:Inv X O σ H s)(i:s'.os=s.os)(u:Un (Iz X.stack) ch H H' s.heap s'.heap)(a:mN X.prog X.w H' s'.heap)(j:AllBare s'.gens)(d:∀b∈ch,(b∈X.ex\/X.vb.heap.objs.size<=b)/\b≠X.env.locals/\(∀x c,X.env.cells.lookup x=some c->c≠b)/\∀p∈X.pn++O,p.1≠b):Inv X O σ H' s':=by
 obtain⟨h',g,h,f,o'⟩:=s';have e:o'=s.os:=i;subst e;exact I.call (g':=g) (t':=f) (d':=h) u a j d
end
abbrev XK:=Value->Option Addr->Hp->Prop
abbrev St:=List (Option V)
variable{σ:St}
abbrev VK:=V->Hp->Prop
abbrev TE:=St->Hp->VK->Prop
variable{te:TE}
abbrev TT:=St->Hp->(Bool->Hp->Prop)->Prop
abbrev TA:=St->Hp->(List V->Hp->Prop)->Prop
structure Ends where
 nx:St->Hp->Prop
 rt:VK
 bk:St->Hp->Prop:=λ_ _=>False
 ct:St->Hp->Prop:=λ_ _=>False
variable{D:Ends}
abbrev TS:=Ends->St->Hp->Prop
variable{tb:TS}
def EP(X:Cx)(O:List (Addr×Obj))(σ:St)(Q:VK)(u:Value)(s':Shared):Prop:=∃v H',Inv X O σ H' s'/\bY v u/\Q v H'
def TP(X:Cx)(O:List (Addr×Obj))(σ:St)(Q:Bool->Hp->Prop)(b:Bool)(s':Shared):Prop:=∃H',Inv X O σ H' s'/\Q b H'
def AP(X:Cx)(O:List (Addr×Obj))(σ:St)(Q:List V->Hp->Prop)(us:List Value)(s':Shared):Prop:=∃vs H',Inv X O σ H' s'/\Vals vs us/\Q vs H'
def SP(X:Cx)(O:List (Addr×Obj))(D:Ends)(f:Flow)(s':Shared):Prop:=
 match f with
 | .next=>∃a H',Inv X O a H' s'/\D.nx a H'
 | .brk=>∃a H',Inv X O a H' s'/\D.bk a H'
 | .cont=>∃a H',Inv X O a H' s'/\D.ct a H'
 | .ret u=>∃v a H',Inv X O a H' s'/\bY v u/\D.rt v H'
def PE(X:Cx)(e:Expr)(t:TE):Prop:=
 ∀O s σ H Q,Inv X O σ H s->t σ H Q->wpAny (model X.prog X.w) X.A (eval e X.env) (EP X O σ Q) X.xe s
def PT(X:Cx)(e:Expr)(t:TT):Prop:=
 ∀O s σ H Q,Inv X O σ H s->t σ H Q->wpAny (model X.prog X.w) X.A (isTrue e X.env (eval e X.env)) (TP X O σ Q) X.xe s
def PW(X:Cx)(e:Expr)(t:TT):Prop:=
 ∀whole O s σ H Q,Inv X O σ H s->t σ H Q->wpAny (model X.prog X.w) X.A (isTrue e X.env whole) (TP X O σ Q) X.xe s
theorem PW.pt{t:TT}(h:PW X e t):PT X e t:=h _
def PA(X:Cx)(es:List Expr)(t:TA):Prop:=
 ∀pos O s σ H Q,Inv X O σ H s->t σ H Q->wpAny (model X.prog X.w) X.A (spliced (backTo pos (starEach es X.env))) (AP X O σ Q) X.xe s
def PS(X:Cx)(st:Stmt)(t:TS):Prop:=
 ∀O s σ H D,Inv X O σ H s->t D σ H->wpAny (model X.prog X.w) X.A (exec st X.env) (SP X O D) X.xe s
def EO(X:Cx)(st:List Stmt)(t:TS):Prop:=
 ∀O s σ H D,Inv X O σ H s->t D σ H->wpAny (model X.prog X.w) X.A (execs st X.env) (SP X O D) X.xe s
theorem dY{α:Type}{t:Sem α}{Q b:α->Shared->Prop}(h:wpAny M A t Q E s)(c:∀a s,Q a s->b a s):wpAny M A t b E s:=d7 h c λ_ _ x=>x
section
variable{X:Cx}
def nJ(i:Nat):TE:=fun σ H Q=>∃v,σ[i]?=some (some v)/\Q v H
def tC(v:V):TE:=λ_ H Q=>Q v H
theorem MR(o:X.N[i]?=some x)(g:Oc X.env.scope x)(d:(x==("__debug__":Str))=false:=by decide)(f:(x==("__classdict__":Str))=false:=by decide):PE X (.Name x pos) (nJ i):=by
 intro O s σ H Q I h;refine ae h λv e h=>?_;refine ae I.loc λm j n=>?_;refine ae (n i x v o e g) λu r l=>?_;have b:EP X O σ Q u s:=(aO v H I r h)
 rcases l with⟨hk,k⟩ | ⟨hk,c,hc,a⟩
 ·exact wpAny_Name (wpAny_loadName_local I.ok.kind hk j k b) d
 ·rcases hk with hk | hk
  ·exact wpAny_Name (wpAny_loadName_cell I.ok.kind hk hc a b) d
  ·exact wpAny_Name (wpAny_loadName_free I.ok.kind hk hc a b f) d
theorem aq{i j pos}:PE X (.Constant (.int i) j pos) (tC (.int i)):=λ_ _ _ H _ I h=>wpAny_Constant_int (aO (.int i) H (I.tok _) ⟨_,rfl⟩ h)
theorem Ef{b j pos}:PE X (.Constant (.bool b) j pos) (tC (.bl b)):=λ_ _ _ H _ I h=>Constant_bool (aO (.bl b) H I rfl h)
theorem Hq{j pos}:PE X (.Constant .none j pos) (tC .gH):=λ_ _ _ H _ I h=>Constant_none (aO (.gH) H I rfl h)
def Gl(X:Cx)(x:Str):Prop:=X.env.kindOf x=some .globalImplicit
theorem rP(I:Inv X O σ H s)(b:Gl X x)(a:X.mg x=some u)(h:Q u s)(c:(x==("__debug__":Str))=false:=by decide):wpAny (model X.prog X.w) X.A (eval (.Name x pos) X.env) Q E s:=
 zS I.ok.kind b (Calls.loadGlobal_global (by rw[I.ok.glob];exact I.mod.glob.keeps I.bk) a h) c
theorem sI(I:Inv X O σ H s)(d:Gl X x)(c:X.mg x=none)(a:bootBuiltins x=some u)(h:Q u s)(b:x≠"__name__":=by decide)(e:(x==("__debug__":Str))=false:=by decide):wpAny (model X.prog X.w) X.A (eval (.Name x pos) X.env) Q E s:=by
 refine ae I.mod.blt λf h1 h2=>?_;exact zS I.ok.kind d (Calls.loadGlobal_builtin (by rw[I.ok.glob];exact I.mod.glob.keeps I.bk) c (by rw[I.ok.blt];exact h1.keeps I.bk) ((h2 x b).trans a) h) e
theorem Ee(b:Gl X x)(a:X.mg x=some u)(r:bY v u)(c:(x==("__debug__":Str))=false:=by decide):PE X (.Name x pos) (tC v):=
 λ_ _ _ H _ I h=>rP I b a (aO v H I r h) c
variable{a b:Expr}{ta tb:TE}{pos:Pos}
def PC(X:Cx)(op:CmpOp)(a b:Expr)(t:TE):Prop:=
 ∀O s σ H Q,Inv X O σ H s->t σ H Q->
  wpAny (model X.prog X.w) X.A (eval a X.env) (λv d=>wpAny (model X.prog X.w) X.A (eval b X.env) (λu c=>wpAny (model X.prog X.w) X.A (compareOp op v u) (EP X O σ Q) X.xe c) X.xe d) X.xe s
theorem Bk(b:Expr)(h:op≠.In)(h2:op≠.NotIn):behindInMarks op b=false:=by
 cases b <;> try rfl
 cases op <;> first | exact absurd rfl h | exact absurd rfl h2 | exact(cq (·&&_) (i4 _) :)
def Rv(ta:TE):TE:=fun σ H Q=>ta σ H λx H1=>Q (.bl (decide (x=.gH))) H1
theorem bY.HF{x:V}{v:Value}(r:bY x v):(v==Value.none)=decide (x=.gH):=by
 cases x with
 | gH=>cases r;rfl
 | bl _=>cases r;rfl
 | int _=>refine aA r λt a=>?_;subst a;rfl
 | str _=>refine aA r λt a=>?_;subst a;rfl
 | Dy _=>refine aA r λt a=>?_;subst a;rfl
 | Qg _=>refine aA r λt a=>?_;subst a;rfl
 | ref _=>cases r;rfl
 | ty _=>cases r;rfl
theorem MV{j pos'}(e:PE X a ta):PC X .Is a (.Constant .none j pos') (Rv ta):=by
 intro O s σ H Q I h;refine dY (e O s σ H _ I h) λv g b=>aF b λx H1 f c d=>?_;exact Constant_none (is_none_gen (aO (.bl _) H1 f (by rw[c.HF];rfl) d))
def tB(t:TE):TT:=fun σ H Q=>t σ H λx H1=>∃c,x=.bl c/\Q c H1
theorem Hg{t:TE}(h:PC X op a b t)(h1:behindInMarks op b=false:=by first | exact Bk _ (by decide) (by decide) | rfl):PT X (.Compare a [op] [b] pos) (tB t):=by
 intro O s σ H Q I hw;refine wpAny_isTrue_Compare1 (dY (h O s σ H _ I hw) λv m h1=>dY h1 λu l h2=>dY h2 λc k f=>aF f λx H1 j g i=>?_) h1;refine ae i λd e q=>?_;subst e;cases g;exact gU (ab H1 j q)
theorem fW{t:TE}(h:PE X e t)(g:∀whole,isTrue e X.env whole=(do let v <-whole;standAt e.pos;holding [v] (truthy v)):=by intro _;rfl):PT X e (tB t):=by
 intro O s σ H Q I hw;refine isTrue_plain (dY (h O s σ H _ I hw) λv j b=>aF b λx H1 i c f=>?_) (g _);refine ae f λd a q=>?_;subst a;cases c;exact gU (ab H1 i q)
variable{tA QD:TT}{rest:List Expr}
def Ox(t u:TT):TT:=fun σ H Q=>t σ H λc H1=>if c=true then u σ H1 Q else Q false H1
def Uo(t u:TT):TT:=fun σ H Q=>t σ H λc H1=>if c=true then Q true H1 else u σ H1 Q
def Om(t:TT):TT:=fun σ H Q=>t σ H λc H1=>Q (!c) H1
theorem tR(b:PT X a tA):PW X (.BoolOp .And [a] pos) tA:=by
 intro d O s σ H Q I h;refine isTrue_and (dY (b O s σ H Q I h) λc f e=>?_);cases c with
 | true=>exact isTrue_and_nil e
 | false=>exact e
theorem Ha(b:PT X a tA):PW X (.BoolOp .Or [a] pos) tA:=by
 intro d O s σ H Q I h;refine isTrue_or (dY (b O s σ H Q I h) λc f e=>?_);cases c with
 | false=>exact isTrue_or_nil e
 | true=>exact e
theorem yu(k:PT X a tA)(j:PW X (.BoolOp .And (b::rest) pos) QD):PW X (.BoolOp .And (a::b::rest) pos) (Ox tA QD):=by
 intro g O s σ H Q I h;refine isTrue_and (dY (k O s σ H _ I h) λc i f=>ae f λH1 e d=>?_);cases c with
 | true=>exact j g O i σ H1 Q e d
 | false=>exact(ab H1 e d)
theorem Ls(k:PT X a tA)(j:PW X (.BoolOp .Or (b::rest) pos) QD):PW X (.BoolOp .Or (a::b::rest) pos) (Uo tA QD):=by
 intro g O s σ H Q I h;refine isTrue_or (dY (k O s σ H _ I h) λc i f=>ae f λH1 e d=>?_);cases c with
 | true=>exact(ab H1 e d)
 | false=>exact j g O i σ H1 Q e d
theorem mn(b:PT X a tA):PT X (.UnaryOp .Not a pos) (Om tA):=by
 intro O s σ H Q I h;exact isTrue_not (b O s σ H (λc H1=>Q (!c) H1) I h)
def Ow(ta tb:TE):TE:=fun σ H Q=>ta σ H λx H1=>∃c,x=.bl c/\if c=true then tb σ H1 Q else Q (.bl false) H1
theorem CK{op}{t:TE}(h:PE X a t):PE X (.BoolOp op [a] pos) t:=λO s σ H Q I hw=>BoolOp_one (h O s σ H Q I hw)
theorem yF(k:PE X a ta)(j:PE X (.BoolOp .And (b::rest) pos) tb):PE X (.BoolOp .And (a::b::rest) pos) (Ow ta tb):=by
 intro O s σ H Q I h;refine BoolOp_and (dY (k O s σ H _ I h) λv g f=>aF f λx H1 e i d=>?_);obtain⟨c,rfl,d⟩:=d;cases i;refine gU ?_;cases c with
 | true=>exact j O g σ H1 Q e d
 | false=>exact⟨.bl false,H1,e,rfl,d⟩
def Up(t:TT)(ta tb:TE):TE:=fun σ H Q=>t σ H λc H1=>if c=true then ta σ H1 Q else tb σ H1 Q
theorem Ba(hc:PT X c tA)(k:PE X a ta)(j:PE X b tb):PE X (.IfExp c a b pos) (Up tA ta tb):=by
 intro O s σ H Q I h;refine wpAny_IfExp (dY (hc O s σ H _ I h) λd e i=>ae i λH1 g f=>?_);cases d with
 | true=>exact k O e σ H1 Q g f
 | false=>exact j O e σ H1 Q g f
end
def dM(K:PySem.W.Frag)(H:Hp)(a:Addr)(xs:List V):Prop:=
 Rd H a (.aR xs)\/
  ∃o its n,K.lookup a=some o/\o.cls=.type "list"/\o.dict=none/\o.data=.seq its n/\its.size<=sizeLine/\Vals xs its.toList
def dU(K:PySem.W.Frag)(H:Hp)(a:Addr)(xs:List V):Prop:=
 Rd H a (.bG xs)\/
  ∃o its n,K.lookup a=some o/\o.cls=.type "tuple"/\o.data=.seq its n/\its.size<=sizeLine/\Vals xs its.toList
noncomputable def S2:Value->Option V
 | .none=>some .gH
 | .bool b=>some (.bl b)
 | .int i _=>some (.int i)
 | .str x _=>some (.str x)
 | .bytes b _=>some (.Dy b)
 | .float b _=>some (.Qg b)
 | .ref a=>some (.ref a)
 | .type n=>some (.ty n)
 | _=>none
theorem bY.abs{x:V}(r:bY x u):S2 u=some x:=by
 cases x with
 | gH=>cases r;rfl
 | bl _=>cases r;rfl
 | int _=>refine aA r λt a=>?_;subst a;rfl
 | str _=>refine aA r λt a=>?_;subst a;rfl
 | Dy _=>refine aA r λt a=>?_;subst a;rfl
 | Qg _=>refine aA r λt a=>?_;subst a;rfl
 | ref _=>cases r;rfl
 | ty _=>cases r;rfl
theorem bY.inj{x y:V}{u:Value}(r:bY x u)(q:bY y u):x=y:=bN (r.abs.symm.trans q.abs)
theorem Vals.inj:∀{xs ys:List V} {us:List Value},Vals xs us->Vals ys us->xs=ys
 | _,_,_,.nil,.nil=>rfl
 | _,_,_,.cons r t,.cons a t'=>by rw[r.inj a,Vals.inj t t']
section
variable{X:Cx}{O:List (Addr×Obj)}{σ:St}{H:Hp}{s:Shared}{a:Addr}{xs ys:List V}
theorem dM.of(h:H a=some (.aR xs)):dM K H a xs:=.inl (.inl h)
theorem dU.of(h:H a=some (.bG xs)):dU K H a xs:=.inl (.inl h)
theorem Inv.list(I:Inv X O σ H s)(h:dM X.K H a xs):∃its:List Value,Vals xs its/\PlainL s.heap a its.toArray/\xs.length<=sizeLine:=by
 rcases h with h | ⟨o,its,n,d,hc,f,c,g,r⟩
 ·refine cE (h.ok I.dS) λz b=>bI b λits n r e=>?_;exact(a8 its r (eK _ n e rfl rfl rfl) z)
 ·refine(a8 its.toList r (eK o n (I.Cm a o d) hc f <| by simpa using c) ?_);have e:=r.length;simp only[qT]at e;omega
theorem Inv.tuple(I:Inv X O σ H s)(h:dU X.K H a xs):∃its:List Value,Vals xs its/\IsTup s.heap a its.toArray/\xs.length<=sizeLine:=by
 rcases h with h | ⟨o,its,n,d,hc,c,f,r⟩
 ·refine cE (h.ok I.dS) λz b=>ae b λits r p=>?_;exact(a8 its r p z)
 ·refine(a8 its.toList r (a8 o (I.Cm a o d) hc ⟨n,by simpa using c⟩) ?_);have e:=r.length;simp only[qT]at e;omega
theorem Inv.HW(I:Inv X O σ H s)(h:dM X.K H a xs)(h':dM X.K H a ys):xs=ys:=by
 obtain⟨its,r,⟨o,n,e,_,_,d⟩,_⟩:=I.list h;obtain⟨b,g,⟨o',j,c,_,_,f⟩,_⟩:=I.list h';rw[e]at c;cases c;rw[d]at f;injection f with i _;have:its=b:=by simpa using cq Array.toList i
 subst this;exact r.inj g
end
abbrev Cx.wB(X:Cx)(E:Value->Shared->Prop):Cx:={ X with xe:=E }
abbrev Cx.Ly(X:Cx):Cx:=X.wB λ_ _=>False
theorem Cx.Ok.wB{X:Cx}(a:X.Ok)(E:Value->Shared->Prop):(X.wB E).Ok:=
 ⟨a.mod,a.kind,a.glob,a.blt,a.above,a.inj,a.has,a.K2,a.hd,a.frames,a.Ll,a.LH,a.bs,a.Dz,a.yM,a.zh,a.oi,a.Gb⟩
theorem Cx.Ok.nI(a:(X.wB E).Ok):X.Ok:=
 ⟨a.mod,a.kind,a.glob,a.blt,a.above,a.inj,a.has,a.K2,a.hd,a.frames,a.Ll,a.LH,a.bs,a.Dz,a.yM,a.zh,a.oi,a.Gb⟩
section
variable{X:Cx}{O:List (Addr×Obj)}{σ:St}{H:Hp}{s:Shared}{E:Value->Shared->Prop}
theorem Inv.wB(I:Inv X O σ H s)(E:Value->Shared->Prop):Inv (X.wB E) O σ H s:=⟨I.ok.wB E,I.os,I.bare,I.base,I.loc,I.cell,I.free,I.iA,I.pin,I.dS,I.len⟩
theorem Inv.nI(I:Inv (X.wB E) O σ H s):Inv X O σ H s:=⟨I.ok.nI,I.os,I.bare,I.base,I.loc,I.cell,I.free,I.iA,I.pin,I.dS,I.len⟩
theorem SP.nI{D:Ends}{f:Flow}{s':Shared}(h:SP (X.wB E) O D f s'):SP X O D f s':=by
 cases f with
 | next=>refine bI h λa H' I q=>?_;exact(br a H' I.nI q)
 | brk=>refine bI h λa H' I q=>?_;exact(br a H' I.nI q)
 | cont=>refine bI h λa H' I q=>?_;exact(br a H' I.nI q)
 | ret u=>refine aN h λv a b=>aH b λH' I r q=>?_;exact⟨v,a,H',I.nI,r,q⟩
theorem EO.Ly{st:List Stmt}{t:TS}(h:EO X.Ly st t):EO X st t:=λO s σ H D I hw=>
 d7 (h O s σ H D (I.wB _) hw) (λ_ _ q=>q.nI) λ_ _ z=>False.elim z
end
section
variable{X:Cx}{st:Stmt}{rest:List Stmt}{t u:TS}{e:Expr}{te:TE}{pos:Pos}
def Lh:TS:=λD σ H=>D.nx σ H
def Rt(t u:TS):TS:=λD σ H=>t { D with nx:=u D } σ H
theorem cv:EO X [] Lh:=λ_ _ σ H _ I h=>qr (br σ H I h)
theorem aj(h1:PS X st t)(h2:EO X rest u):EO X (st::rest) (Rt t u):=by
 intro O s σ H D I h;refine wpAny_execs_cons (dY (h1 O s σ H { D with nx:=u D } I h) λf b q=>?_);cases f with
 | next=>
  refine bI q λa H' c q=>?_;exact h2 O b a H' D c q
 | ret v=>exact q
 | brk=>exact q
 | cont=>exact q
theorem aB(h1:PS X st t):EO X [st] t:=by
 intro O s σ H D I h;refine wpAny_execs_cons (dY (h1 O s σ H D I h) λf a q=>?_);cases f with
 | next=>exact qr q
 | ret v=>exact q
 | brk=>exact q
 | cont=>exact q
theorem Inv.quiet(I:Inv X O σ H s):interactive X.env=false:=by simp[interactive,I.ok.kind]
def Lk(te:TE):TS:=λD σ H=>te σ H λ_ H1=>D.nx σ H1
theorem fJ(d:PE X e te)(c:swapsWith e none pos.line X.env=pure false:=by rfl):PS X (.Expr e pos) (Lk te):=by
 intro O s σ H D I h;exact wpAny_Expr_any (dY (d O s σ H _ I h) λv g a=>aF a λx H1 f i b=>(br σ H1 f b)) I.quiet c
def Oj(te:TE):TS:=λD σ H=>te σ H D.rt
theorem bg(d:PE X e te):PS X (.Return (some e) pos) (Oj te):=by
 intro O s σ H D I h;exact wpAny_Return_some (dY (d O s σ H _ I h) λv g a=>aF a λx H1 f b c=>⟨x,σ,H1,f,b,c⟩)
def Ot(c:TT)(t u:TS):TS:=λD σ H=>c σ H λb H1=>if b=true then t D σ H1 else u D σ H1
theorem eR{a b:List Stmt}{tc:TT}(hc:PT X c tc)(k:EO X a t)(j:EO X b u):PS X (.If c a b pos) (Ot tc t u):=by
 intro O s σ H D I h;refine wpAny_If (dY (hc O s σ H _ I h) λd e i=>ae i λH1 g f=>?_);cases d with
 | true=>exact k O e σ H1 D g f
 | false=>exact j O e σ H1 D g f
end
abbrev TG:=V->St->Hp->(St->Hp->Prop)->Prop
variable{g:TG}
abbrev NZ:=List V->St->Hp->(St->Hp->Prop)->Prop
def PG(X:Cx)(a:Expr)(t:TG):Prop:=
 ∀O s σ H v u Q,Inv X O σ H s->bY v u->t v σ H Q->
  wpAny (model X.prog X.w) X.A (assign a X.env u) (λ_ s'=>∃b H',Inv X O b H' s'/\Q b H') X.xe s
def QW(X:Cx)(b:List Expr)(t:NZ):Prop:=
 ∀O s σ H vs us Q,Inv X O σ H s->Vals vs us->t vs σ H Q->
  wpAny (model X.prog X.w) X.A (assignInOrder ((assignEach b X.env).map (·.2)) us) (λ_ s'=>∃a H',Inv X O a H' s'/\Q a H') X.xe s
abbrev NY:=V->V->V->Hp->(Hp->Prop)->Prop
def Qt(X:Cx)(t:NY):Prop:=
 ∀O s σ H o i v a iv u Q,Inv X O σ H s->bY o a->bY i iv->bY v u->t o i v H Q->
  wpAny (model X.prog X.w) X.A (setItem a iv u) (λ_ s'=>∃H',Inv X O σ H' s'/\Q H') X.xe s
abbrev QT:=V->V->Hp->VK->Prop
def S6(X:Cx)(op:Operator)(t:QT):Prop:=
 ∀O s σ H x y v u Q,Inv X O σ H s->bY x v->bY y u->t x y H Q->
  wpAny (model X.prog X.w) X.A (inplaceOp op v u) (EP X O σ Q) X.xe s
section
variable{X:Cx}{pos:Pos}
def Ew(i:Nat):TG:=λv σ H Q=>Q (σ.set i (some v)) H
theorem c6(c:X.N.Nodup)(hi:X.N[i]?=some x)(a:Loc X.env.scope x)(b:X.fn x=true\/X.env.scope.names.lookup x=some .local:=by first | exact .inl rfl | exact .inr rfl | assumption):PG X (.Name x pos) (Ew i):=by
 intro O s σ H v u Q I r h;exact wpAny_assign_Name (uV I c hi a r (λs' d=>(br _ H d h)) b)
def Sy:NZ:=λvs σ H Q=>vs=[]/\Q σ H
def Qe(t:TG)(u:NZ):NZ:=λvs σ H Q=>∃v r,vs=v::r/\t v σ H λa H'=>u r a H' Q
theorem Ed:QW X [] Sy:=by
 intro O s σ H vs us Q I r h;obtain⟨e,h⟩:=h;subst e;cases r;exact assignInOrder_nil ⟨σ,H,I,h⟩
theorem nO{es:List Expr}{t:TG}{u:NZ}(h1:PG X e t)(h2:QW X es u)(g:(assignEach (e::es) X.env).map (·.2)=assign e X.env::(assignEach es X.env).map (·.2):=by rfl):QW X (e::es) (Qe t u):=by
 intro O s σ H vs us Q I r h;obtain⟨v,k,i,h⟩:=h;subst i;cases r with
 | cons r d=>
  rw[g];refine assignInOrder_cons (dY (h1 O s σ H _ _ _ I r h) λ_ c b=>bI b λa H1 j f=>?_);exact h2 O c a H1 _ _ Q j d f
def Sw(K:PySem.W.Frag)(n:Nat)(t:NZ):TG:=λv σ H Q=>∃a xs,v=.ref a/\dU K H a xs/\xs.length=n/\t xs σ H Q
theorem Hl{es:List Expr}{t:NZ}(hc:X.calm=true)(h:QW X es t)(j:(assignEach es X.env).length=n:=by rfl)(c:(assignEach es X.env).findIdx? (·.1)=none:=by rfl):PG X (.Tuple es k pos) (Sw X.K n t):=by
 intro O s σ H v u Q I r hw;obtain⟨a,xs,m,i,l,hw⟩:=hw;subst m;cases r;obtain⟨its,d,g,w⟩:=I.tuple i;refine assign_Tuple_tuple (I.ok.hd hc) g (by simp[j,<-l,d.length]) c λh' f=>?_;have p:Inv X O σ H { s with heap:=h' }:=I.kept (t':=s.toks) λb o e=>f b o (b8 (bo e)) e;exact h O _ σ H xs _ Q p (by simpa using d) hw
def Sx(to a:TE)(t:NY):TG:=λv σ H Q=>to σ H λo H1=>a σ H1 λi H2=>t o i v H2 λb=>Q σ b
theorem MQ{o i:Expr}{to c:TE}{t:NY}(n:PE X o to)(hi:PE X i c)(m:Qt X t)
  (p:∀v,assign (.Subscript o i pos) X.env v=(do
   let a <-holding [v] (eval o X.env)
   let iv <-holding [v,a] (eval i X.env)
   standAt pos
   holding [v,a,iv] (setItem a iv v)
   release [v,a,iv] []):=by intro _;rfl):PG X (.Subscript o i pos) (Sx to c t):=by
 intro O s σ H v u Q I r h;rw[p];refine ag (eO (dY (n O s σ H _ I h) λa e b=>aF b λx H1 z g l=>?_));refine ag (eO (dY (hi O e σ H1 _ z l) λiv d b=>aF b λy H2 w f k=>?_));refine ag (wpAny_standAt (ag (eO (dY (m O d σ H2 x y v a iv u _ w g f r k) λ_ B b=>ae b λA q j=>?_))));exact wpAny_release (br σ A q j)
def Mb(te:TE)(g:TG):TS:=λD σ H=>te σ H λx H1=>g x σ H1 D.nx
theorem MM(j:PE X e te)(i:PG X tg g)(f:swapsWithSole [tg] e pos.line X.env=pure false:=by rfl)(hw:swappedStores [tg] e X.env=pure none:=by rfl)(h1:(assignEach [tg] X.env).map (·.2)=[assign tg X.env]:=by rfl):PS X (.Assign [tg] e pos) (Mb te g):=by
 intro O s σ H D I h;refine wpAny_Assign_stores (dY (j O s σ H _ I h) λv b a=>aF a λx H1 k c d=>?_) f hw;rw[h1];exact dY (i O b σ H1 x v _ k c d) λ_ l q=>q
theorem a_{pos':Pos}(k:X.N.Nodup)(hi:X.N[i]?=some x)(d:Loc X.env.scope x)(j:PE X e te)(f:swapsWith e (some (.Name x pos')) pos.line X.env=pure false:=by rfl)(g:X.fn x=true\/X.env.scope.names.lookup x=some .local:=by first | exact .inl rfl | exact .inr rfl | assumption):
  PS X (.Assign [.Name x pos'] e pos) (Mb te (Ew i)):=by
 intro O s σ H D I h;refine wpAny_Assign_Name (dY (j O s σ H _ I h) λv o a=>aF a λy H1 m b c=>?_) f;exact uV m k hi d b (λn l=>(br _ H1 l c)) g
def Rx(i:Nat)(te:TE)(a:QT):TS:=λD σ H=>∃x,σ[i]?=some (some x)/\te σ H λy H1=>a x y H1 λz H2=>D.nx (σ.set i (some z)) H2
theorem yy{op:Operator}{n:QT}{pos':Pos}(K:X.N.Nodup)(hi:X.N[i]?=some x)(j:Loc X.env.scope x)(J:PE X e te)(B:S6 X op n)(G:X.fn x=true\/X.env.scope.names.lookup x=some .local:=by first | exact .inl rfl | exact .inr rfl | assumption):
  PS X (.AugAssign (.Name x pos') op e pos) (Rx i te n):=by
 intro O s σ H D I h;refine ae h λv L h=>?_;refine ae I.loc λm C F=>?_;have g:Oc X.env.scope x:=by rcases j with k | k;exact .inl k;exact .inr (.inl k)
 refine ae (F i x v hi L g) λu r l=>?_;refine wpAny_AugAssign_Name ?_;have go:wpAny (model X.prog X.w) X.A (eval e X.env) (λw d=>wpAny (model X.prog X.w) X.A (inplaceOp op u w) (λr b=>wpAny (model X.prog X.w) X.A (storeName X.env x r) (λ_=>SP X O D .next) X.xe b) X.xe d) X.xe s:=by
  refine dY (J O s σ H _ I h) λw o f=>aF f λy H1 P q A=>?_;refine dY (B O o σ H1 v y u w _ P r q A) λz S f=>aF f λQ H2 N p t=>?_;exact uV N K hi j p (λR M=>(br _ H2 M t)) G
 rcases l with⟨hk,E⟩ | ⟨hk,c,hc,a⟩
 ·exact wpAny_loadName_local I.ok.kind hk C E go
 ·rcases hk with hk | hk
  ·exact wpAny_loadName_cell I.ok.kind hk hc a go
  ·rcases j with k | k
   ·have:X.env.scope.names.lookup x=some .free:=hk;rw[k]at this;cases this
   ·have:X.env.scope.names.lookup x=some .free:=hk;rw[k]at this;cases this
def Vl(f:Int->Int->Int):QT:=λx y H Q=>∃i j,x=.int i/\y=.int j/\Q (.int (f i j)) H
theorem Ik:S6 X .Add (Vl λi j=>i+j):=by
 intro O s σ H x y v u Q I c b h;refine aF h λi j e d q=>?_;subst e;subst d;refine aA c λt a=>?_;subst a;refine aA b λf a=>?_;subst a;exact iadd_int (aO (.int _) H (I.tok _) ⟨_,rfl⟩ q)
end
section
variable{X:Cx}{pos:Pos}
def Gn(c:TT)(tb:TS):TS:=λD σ H=>∃W:Nat->St->Hp->Prop,(∃m,W m σ H)/\∀m σ H,W m σ H->
 c σ H λb H1=>if b=true then ∃N:St->Hp->Prop,(∀a H',N a H'->∃d,d<m/\W d a H')/\tb { D with nx:=N,ct:=N,bk:=D.nx } σ H1 else D.nx σ H1
theorem rD{tc:TT}(q:PassesOwn (model X.prog X.w) X.A X.env X.xe)(hc:PT X c tc)(A:EO X body tb):PS X (.While c body [] pos) (Gn tc tb):=by
 intro O s σ H D I h;obtain⟨W,⟨z,w⟩,turn⟩:=h;refine wpAny_While (codeAny_whileLoop (λn s'=>∃e H',Inv X O e H' s'/\W n e H') ?_ z (br σ H I w));rintro n y ⟨d,H1,B,w1⟩;refine jR q (dY (hc O y d H1 _ B (turn n d H1 w1)) λb x u=>ae u λH2 t j=>?_);cases b with
 | true=>
  refine ae j λN r j=>?_;rw[ak rfl];refine jR q (dY (A O x d H2 _ t j) λf C i=>?_);cases f with
  | next=>
   refine bI i λa g p l=>?_;refine ae (r a g l) λm o k=>?_;exact(ab m o <| br a g p k)
  | cont=>
   refine bI i λa g p l=>?_;refine ae (r a g l) λm o k=>?_;exact(ab m o <| br a g p k)
  | brk=>exact i
  | ret v=>exact i
 | false=>
  rw[ai b'];exact qr (br d H2 t j)
end
structure It where
 go:Nat->Hp->Prop
 Ju:Nat->Hp->V->Hp->Prop
 stop:Nat->Hp->Prop
def wz(X:Cx)(O:List (Addr×Obj))(H:Hp)(b:Addr):Prop:=
 H b=none/\b≠X.env.locals/\b∉X.fs/\(b∈X.ex\/X.vb.heap.objs.size<=b)/\(∀x c,X.env.cells.lookup x=some c->c≠b)/\∀p∈X.pn++O,p.1≠b
theorem Inv.KD{H':Hp}(I:Inv X O σ H s)(a:s.heap.objs.size<=b)(f:H' b=none):wz X O H' b:=by
 refine⟨f,mV (cK I.lt a),I.R3 a,.inr (fG I.sz a),λx c e z=>?_,λp d z=>?_⟩
 ·refine aA (I.cell x c e) λv q=>?_;exact absurd (cK q.lt (by rw[z];exact a)) (h8 _)
 ·exact absurd (cK (bo (I.pin p d).1) (by rw[z];exact a)) (h8 _)
structure Turn(P:Program)(w:World)(K:PySem.W.Frag)(tg:Expr)(J:It)(fp:List Addr)(it:Addr)(tn:Nat->Heap->Prop):Prop where
 mem:it∈fp
 obj:∀i h,tn i h->∀b∈fp,∃o,h.get? b=some o/\∀v,o.data≠.cell v
 keep:∀i h h',tn i h->(∀b∈fp,∀o,h.get? b=some o->h'.get? b=some o)->tn i h'
 item:∀X,X.prog=P->X.w=w->X.K=K->X.calm=true->∀i O s σ H E,Inv X O σ H s->(∀b∈fp,wz X O H b)->tn i s.heap->J.go i H->
  wpAny (model P w) X.A (pyNext (.ref it)) (λr s1=>∃u,r=some u/\
   wpAny (model P w) X.A (letOwnedTupleGo tg (.ref it) u) (λ_ s2=>∃x H',Inv X O σ H' s2/\bY x u/\J.Ju i H x H'/\tn (i+1) s2.heap/\∀b∈fp,H' b=none) E s1) E s
 done:∀X,X.prog=P->X.w=w->X.K=K->X.calm=true->∀i O s σ H E,Inv X O σ H s->(∀b∈fp,wz X O H b)->tn i s.heap->J.stop i H->
  wpAny (model P w) X.A (pyNext (.ref it)) (λr s1=>r=none/\Inv X O σ H s1) E s
 self:∀A i s Q E,tn i s.heap->Q (.ref it) s->wpAny (model P w) A (pyIter (.ref it)) Q E s
abbrev TI:=St->Hp->(It->Hp->Prop)->Prop
def QV(X:Cx)(O:List (Addr×Obj))(σ:St)(tg:Expr)(R:It->Hp->Prop)(a:Value)(d:Shared):Prop:=
 ∃e fp c J H',a=.ref e/\Inv X O σ H' d/\Turn X.prog X.w X.K tg J fp e c/\c 0 d.heap/\(∀b∈fp,wz X O H' b)/\R J H'
def PI(X:Cx)(tg iter:Expr)(wi:TI):Prop:=
 ∀O s σ H R,Inv X O σ H s->wi σ H R->
  wpAny (model X.prog X.w) X.A (eval iter X.env) (λv a=>wpAny (model X.prog X.w) X.A (pyIter v) (QV X O σ tg R) X.xe a) X.xe s
theorem Iu {M : Model} {A : Around} {E : Value -> Shared -> Prop} {s : Shared} {tg : Expr} {b : Addr} {u : Value} {o : Obj} {n : String} {vs : Array Value} {Q : Unit -> Shared -> Prop} (c : s.heap.get? b = some o) (hc : o.cls = .type n) (e : o.data = .fields vs)
    (d : ["enumerate", "zip", "dict_itemiterator", "dict_reverseitemiterator", "odict_iterator", "itertools.zip_longest", "itertools.pairwise"].contains n = false) (a : Q () s) : wpAny M A (letOwnedTupleGo tg (.ref b) u) Q E s := by
  unfold letOwnedTupleGo
  cases tg <;> first
    | exact au a
    | (cases u <;> first
        | exact au a
        | (refine ag (wpAny_load c ?_)
           rw [hc, e]
           show wpAny M A (if (["enumerate", "zip", "dict_itemiterator", "dict_reverseitemiterator", "odict_iterator", "itertools.zip_longest", "itertools.pairwise"].contains n && vs[0]? == some (rawInt _)) = true then _ else _) Q E s
           rw [ai (by intro h; rw [d, jw] at h; cases h)]
           exact au a))
def LW(K:PySem.W.Frag)(a:Addr):It:=
 ⟨λi H=>∃xs x,dM K H a xs/\xs[i]?=some x,λi H x H'=>H'=H/\∀xs,dM K H a xs->xs[i]?=some x,λi H=>∃xs,dM K H a xs/\xs.length<=i⟩
def Jt(lo:Int)(n:Nat):It:=⟨λi _=>i<n,λi H x H'=>H'=H/\x=.int (lo+i),λi _=>n<=i⟩
theorem EW(a f:Addr):Turn P w K tg (LW K a) [f] f (λi h=>h.IsListIter f a i) where
 mem:=by simp
 obj:=λi h st b g=>by
  have e:b=f:=by simpa using g
  subst e;refine aH st λo e c d=>?_;exact(ab o e <| λv z=>by rw[d]at z;cases z)
 keep:=λi h h' st k=>st.at λo e=>k f (by simp) o e
 item:=by
  intro X t hw y hc i O s σ H E I m st r;subst t hw y;refine bI r λxs x l q=>?_;refine aH (I.list l) λits n p M=>?_;refine ae (n.get q) λu Q L=>?_;refine sj (m f (by simp)) λF D R C B A=>?_;refine wpAny_pyNext_list_item st p.isList (x:=u) (by simpa using Q) λh' j J=>?_;have T:Inv X O σ H { s with heap:=h' }:=I.turned (t':=s.toks) (λb o g e=>(J.2 b g).trans e) F D C B A;refine aH (id j) λo e c d=>?_;exact(ab u rfl <| Iu (s:={ s with heap:=h' }) e c d (by decide) (e8 x H T L ⟨rfl,λys N=>by rw[I.HW N l];exact q⟩ j <| λb g=>(m b g).1))
 done:=by
  intro X t hw y hc i O s σ H E I m st r;subst t hw y;refine ae r λxs l q=>?_;refine aH (I.list l) λits n p M=>?_;refine sj (m f (by simp)) λF D R C B A=>?_;have U:=n.length;exact wpAny_pyNext_list_end (I.ok.hd hc) st p.isList (by simp;omega) λh' S=>⟨rfl,I.turned (t':=s.toks) (λb o g e=>S b o g e) F D C B A⟩
 self:=λ_ _ _ _ _ st h=>wpAny_pyIter_listiter st h
theorem Cq(a:Addr)(lo:Int)(n:Nat):Turn P w K tg (Jt lo n) [a] a (λi h=>IsRangeIter h a (lo+(i:Nat)*1) ((n:Int)-(i:Nat)) 1) where
 mem:=by simp
 obj:=λi h st b c=>by
  have e:b=a:=by simpa using c
  subst e;exact(aa st <| λv z=>by
   have A:Data.fields _=Data.cell v:=z;cases A)
 keep:=λi h h' st k=>k a (by simp) _ st
 item:=by
  intro X l hw m hc i O s σ H E I f st j;subst l hw m;refine sj (f a (by simp)) λx u D r q p=>?_;have W:=Walks.range (prog:=X.prog) (w:=X.w) (I.ok.hd hc) a lo 1 n;refine W.item i s _ _ j st λv h' y C d B=>?_;refine aA C λt g=>?_;subst g;have G:Inv X O σ H { s with heap:=h',toks:=y }:=I.turned (λb o c e=>B b o (by simpa using c) e) x u r q p;refine(aa rfl <| Iu (s:={ s with heap:=h',toks:=y }) (n:="range_iterator") d rfl rfl (by decide) (e8 (.int (lo+i)) H G ⟨t,?_⟩ ⟨rfl,rfl⟩ d <| λb c=>(f b c).1));rw[Int.mul_one]
 done:=by
  intro X l hw m hc i O s σ H E I f st j;subst l hw m;refine sj (f a (by simp)) λx u D r q p=>?_;exact wpAny_pyNext_range_end (I.ok.hd hc) st (by have:n<=i:=j;omega) λh' F=>⟨rfl,I.turned (t':=s.toks) (λb o c e=>F b o c e) x u r q p⟩
 self:=λ_ _ _ _ _ st h=>wpAny_pyIter_rangeiter st h
section
variable{X:Cx}{tg:Expr}
def PV(K:PySem.W.Frag)(tl:TE):TI:=fun σ H R=>tl σ H λx H1=>∃a,x=.ref a/\(∃xs,dM K H1 a xs)/\R (LW K a) H1
theorem eI{l:Expr}{tl:TE}(k:PE X l tl):PI X tg l (PV X.K tl):=by
 intro O s σ H R I h;refine dY (k O s σ H _ I h) λv c f=>aF f λx H1 d g i=>?_;obtain⟨a,e,⟨xs,j⟩,q⟩:=i;subst e;cases g;refine aH (d.list j) λits r p t=>?_;refine uc p.isList ?_;refine(cI c.heap.objs.size [c.heap.objs.size] _ _ H1 rfl (d.kept (t':=c.toks) λb o e=>bT _ e) (EW a _) (cz (cu _ rfl) rfl rfl) (λb m=>?_) q);have e:b=c.heap.objs.size:=by simpa using m
 subst e;exact d.KD (a0 _) (d.dS.fresh (a0 _))
theorem AV{R:It->Hp->Prop}{lo hi:Int}{t u v:Tok}{a:Nat}(I:Inv X O σ H s)(h1:-(2^62)<=lo)(h2:lo<2^62)(g:-(2^62)<=hi)(f:hi<2^62)(q:R (Jt lo (hi-lo).toNat) H):wpAny (model X.prog X.w) X.A (pyIter (.ref s.heap.objs.size)) (QV X O σ tg R) E { s with heap:=s.heap.push { cls:=.type "range",data:=.fields #[.int lo t,.int hi u,.int 1 v] },toks:=a }:=by
 refine wpAny_pyIter_range (IsRange.new ..) (small_one h1 h2 g f) ?_;have c:Inv X O σ H { s with heap:=s.heap.push { cls:=.type "range",data:=.fields #[.int lo t,.int hi u,.int 1 v] },toks:=a }:=I.kept λb o e=>bT _ e;refine(cI ((s.heap.push { cls:=.type "range",data:=.fields #[.int lo t,.int hi u,.int 1 v] }).objs.size) [(s.heap.push { cls:=.type "range",data:=.fields #[.int lo t,.int hi u,.int 1 v] }).objs.size] _ _ H rfl (c.kept (t':=a) λb o e=>bT _ e) (Cq _ lo (hi-lo).toNat) ?_ (λb d=>?_) q)
 ·have i:lo+((0:Nat):Int)*1=lo:=by simp
  have h:(((hi-lo).toNat:Nat):Int)-((0:Nat):Int)=Builtin.Range.rangeSize lo hi 1:=by rw[rangeSize_one];split <;> omega
  show IsRangeIter _ _ (lo+((0:Nat):Int)*1) ((((hi-lo).toNat:Nat):Int)-((0:Nat):Int)) 1;rw[i,h];exact cu _ rfl
 ·have e:b=(s.heap.push { cls:=.type "range",data:=.fields #[.int lo t,.int hi u,.int 1 v] }).objs.size:=by simpa using d
  subst e;exact c.KD (a0 _) (c.dS.fresh (a0 _))
def PU(ta:TA):TI:=fun σ H R=>ta σ H λvs H1=>∃j:Int,vs=[.int j]/\-(2^62)<=j/\j<2^62/\R (Jt 0 j.toNat) H1
def PR(ta:TA):TI:=fun σ H R=>ta σ H λvs H1=>∃i j:Int,vs=[.int i,.int j]/\(-(2^62)<=i/\i<2^62/\-(2^62)<=j/\j<2^62)/\R (Jt i (j-i).toNat) H1
theorem Fc{a:Expr}{ta:TA}{p:Pos}(l:Gl X "range")(k:X.mg "range"=none)(m:PA X [a] ta)(i:starEach [a] X.env=[(false,eval a X.env)]:=by rfl):PI X tg (.Call (.Name "range" p) [a] [] pos) (PU ta):=by
 intro O s σ H R I h;refine Call_ (sI I l k boot_range (uQ (dY (m pos O s σ H _ I h) λus o c=>aF c λvs H1 n f b=>?_) i rfl));obtain⟨j,e,b,g,q⟩:=b;subst e;cases f with
 | cons r d=>
  cases d;obtain⟨t,rfl⟩:=r;exact call_range_1 (AV n (by omega) (by omega) b g (by simpa using q))
theorem Fb{a b:Expr}{ta:TA}{p:Pos}(x:Gl X "range")(w:X.mg "range"=none)(y:PA X [a,b] ta)(v:starEach [a,b] X.env=[(false,eval a X.env),(false,eval b X.env)]:=by rfl)(d:starEach [b] X.env=[(false,eval b X.env)]:=by rfl):
  PI X tg (.Call (.Name "range" p) [a,b] [] pos) (PR ta):=by
 intro O s σ H R I h;refine Call_ (sI I x w boot_range (uQ (dY (y pos O s σ H _ I h) λus B k=>aF k λvs H1 z l g=>?_) (by rw[v,d]) (by rw[d];rfl)));obtain⟨i,j,e,⟨g,u,o,n⟩,q⟩:=g;subst e;cases l with
 | cons r f=>
  cases f with
  | cons m f=>
   cases f;refine aA r λt c=>?_;subst c;refine aA m λA c=>?_;subst c;exact call_range_2 (AV z g u o n q)
def Rw(wi:TI)(g:TG)(tb:TS):TS:=λD σ H=>wi σ H λJ H1=>∃W:Nat->Nat->St->Hp->Prop,(∃m,W 0 m σ H1)/\∀i m σ H,W i m σ H->
 (J.stop i H/\D.nx σ H)\/(J.go i H/\∃N:St->Hp->Prop,(∀a H',N a H'->∃c,c<m/\W (i+1) c a H')/\∀x H',J.Ju i H x H'->g x σ H' λb H2=>tb { D with nx:=N,ct:=N,bk:=D.nx } b H2)
def vh(fp:List Addr)(h:Heap):List (Addr×Obj):=fp.filterMap λb=>(h.get? b).map λo=>(b,o)
theorem pJ{o:Obj}(a:b∈fp)(e:h.get? b=some o):(b,o)∈vh fp h:=lO.2 (ab b a <| by rw[e];rfl)
theorem Fh{p:Addr×Obj}(a:p∈vh fp h):p.1∈fp/\h.get? p.1=some p.2:=by
 refine ae (lO.1 a) λb c e=>?_;cases q:h.get? b with
 | none=>rw[q]at e;cases e
 | some o=>
  rw[q]at e;have d:(b,o)=p:=bN e;subst d;exact⟨c,q⟩
theorem Inv.pinned(I:Inv X O σ H s)(i:∀b∈fp,wz X O H b)(h:∀b∈fp,∃o,s.heap.get? b=some o/\∀v,o.data≠.cell v):Inv X (O++vh fp s.heap) σ H s:=
 I.Ec λp g=>(cJ.1 g).elim (λz=>I.pin p (iV _ z)) λz=>by
  refine cE (Fh z) λa e=>?_;refine cE (i p.1 a) λl f=>fb f λk j _=>?_;refine ae (h p.1 a) λo c d=>?_;rw[e]at c;cases c;exact⟨e,l,k,j,d⟩
theorem Inv.rn{pl:List (Addr×Obj)}(I:Inv X (O++pl) σ H s):Inv X O σ H s:=I.Ec λp a=>I.pin p (iV _ (kD _ a))
theorem gE{iter:Expr}{wi:TI}(B:PassesOwn (model X.prog X.w) X.A X.env X.xe)(hc:X.calm=true)(hi:PI X tg iter wi)(hg:PG X tg g)(p:EO X body tb)(hs:∀x,foldedSetIterable iter X.env x=pure x:=by intro _;rfl):PS X (.For tg iter body [] pos) (Rw wi g tb):=by
 intro O s σ H D I h;refine wpAny_For (dY (hi O s σ H _ I h) λv s1 h1=>dY h1 λVe s2 h2=>?_) hs;obtain⟨it,fp,Q,J,H2,e,I2,T,G,U,W,⟨m0,w0⟩,turn⟩:=h2;subst e;have l:∀{H':Hp},(∀b∈fp,H' b=none)->∀b∈fp,wz X O H' b:=λhn b p=>⟨hn b p,(U b p).2⟩
 refine codeAny_forLoop_any (λn s'=>∃i j H',Inv X O j H' s'/\Q i s'.heap/\(∀b∈fp,H' b=none)/\W i n j H') ?_ m0 (eQ 0 σ H2 I2 G (λb p=>(U b p).1) w0);rintro n S ⟨i,c,E,V,z,C,w3⟩;rcases turn i n c E w3 with⟨stop,qn⟩ | ⟨go,N,hN,step⟩
 ·refine jR B (dY (T.done X rfl rfl rfl hc i O S c E X.xe V (l C) z stop) λr s4 k=>cE k λL I4=>?_);subst L;exact qr (br c E I4 qn)
 ·refine jR B (dY (T.item X rfl rfl rfl hc i O S c E X.xe V (l C) z go) λr s4 k=>ae k λu L h4=>?_);subst L;refine jR B (dY h4 λ_ R k=>e_ k λx Y I5 r5 Z k=>cE k λy M=>?_);have P:=I5.pinned (l M) (T.obj _ _ y);refine jR B (dY (hg _ R c Y x u _ P r5 (step x Y Z)) λ_ s6 k=>bI k λF H6 I6 q6=>?_);refine jR B (dY (p _ s6 F H6 _ I6 q6) λf K w=>?_);have again:∀{a:St} {t:Hp},Inv X (O++vh fp R.heap) a t K->N a t->∃m,m<n/\∃i j H',Inv X O j H' K/\Q i K.heap/\(∀b∈fp,H' b=none)/\W i m j H':=fun{a t} q A=>by
   refine ae (hN a t A) λm' hm w7=>?_;refine(ab m' hm <| eQ (i+1) a t q.rn (T.keep _ _ _ y λb p o e=>(q.pin (b,o) (iV _ (iV _ (pJ p e)))).1) (λb p=>?_) w7);refine ae (T.obj _ _ y b p) λo e d=>?_;exact(q.pin (b,o) (iV _ (iV _ (pJ p e)))).2.1
  cases f with
  | next=>refine bI w λa t q A=>?_;exact again q A
  | cont=>refine bI w λa t q A=>?_;exact again q A
  | brk=>refine bI w λa t q w=>?_;exact(br a t q.rn w)
  | ret v=>refine aN w λx7 a k=>aH k λt q r7 w=>?_;exact⟨x7,a,t,q.rn,r7,w⟩
end
theorem eV{xs:List V}(Pv:Nat->St->Hp->Prop)(h0:Pv 0 σ H)(k:∀i σ H,i<=xs.length->Pv i σ H->dM K H a xs)(j:∀i x σ H,xs[i]?=some x->Pv i σ H->g x σ H λb H2=>tb { D with nx:=Pv (i+1),ct:=Pv (i+1),bk:=D.nx } b H2)(l:∀σ H,Pv xs.length σ H->D.nx σ H):
  ∃W:Nat->Nat->St->Hp->Prop,(∃m,W 0 m σ H)/\∀i m σ H,W i m σ H->
   ((LW K a).stop i H/\D.nx σ H)\/((LW K a).go i H/\∃N:St->Hp->Prop,(∀c H',N c H'->∃f,f<m/\W (i+1) f c H')/\∀x H',(LW K a).Ju i H x H'->g x σ H' λb H2=>tb { D with nx:=N,ct:=N,bk:=D.nx } b H2):=by
 refine(ab (λi m σ H=>m=xs.length-i/\i<=xs.length/\Pv i σ H) (a8 xs.length (by simp) (bZ _) h0) ?_);rintro i m σ H ⟨rfl,hi,p⟩;have q:=k i σ H hi p
 by_cases d:i<xs.length
 ·refine .inr (⟨(br xs (xs[i]) q <| by simp[d]),ab (Pv (i+1)) (λc H' h=>⟨xs.length-(i+1),by omega,rfl,d,h⟩) <| λx H' y=>?_⟩);refine cE y λe y=>?_;subst e;exact j i x σ _ (y xs q) p
 ·have e:i=xs.length:=by omega
  subst e;exact .inl ⟨(ab xs q <| a0 _),l σ H p⟩
theorem FP{lo:Int}(Pv:Nat->St->Hp->Prop)(h0:Pv 0 σ H)(h:∀i σ H,i<n->Pv i σ H->g (.int (lo+i)) σ H λa H2=>tb { D with nx:=Pv (i+1),ct:=Pv (i+1),bk:=D.nx } a H2)(j:∀σ H,Pv n σ H->D.nx σ H):
  ∃W:Nat->Nat->St->Hp->Prop,(∃m,W 0 m σ H)/\∀i m σ H,W i m σ H->
   ((Jt lo n).stop i H/\D.nx σ H)\/((Jt lo n).go i H/\∃N:St->Hp->Prop,(∀b H',N b H'->∃d,d<m/\W (i+1) d b H')/\∀x H',(Jt lo n).Ju i H x H'->g x σ H' λa H2=>tb { D with nx:=N,ct:=N,bk:=D.nx } a H2):=by
 refine(ab (λi m σ H=>m=n-i/\i<=n/\Pv i σ H) (a8 n (by simp) (bZ _) h0) ?_);rintro i m σ H ⟨rfl,hi,p⟩
 by_cases c:i<n
 ·refine .inr (⟨c,ab (Pv (i+1)) (λb H' f=>⟨n-(i+1),by omega,rfl,c,f⟩) <| λx H' y=>?_⟩);obtain⟨e,y⟩:=y;subst e y;exact h i σ _ c p
 ·have e:i=n:=by omega
  subst e;exact .inl ⟨a0 _,j σ H p⟩
theorem Gd{c:TT}(Pv:St->Hp->Prop)(d:St->Hp->Nat)(h0:Pv σ H)(i:∀σ H,Pv σ H->c σ H λb H1=>if b=true then tb { D with nx:=λa H'=>Pv a H'/\d a H' < d σ H,ct:=λa H'=>Pv a H'/\d a H' < d σ H,bk:=D.nx } σ H1 else D.nx σ H1)(e:∀σ H Q f,(∀b H1,Q b H1->f b H1)->c σ H Q->c σ H f):Gn c tb D σ H:=by
 refine(ab (λm σ H=>m=d σ H/\Pv σ H) (aa rfl h0) ?_);rintro m σ H ⟨rfl,p⟩;refine e σ H _ _ (λb H1 q=>?_) (i σ H p);cases b with
 | true=>exact(aa (λa H' g=>cE g λh l=>(cz l rfl h)) q)
 | false=>exact q
abbrev R2:=V->V->Hp->VK->Prop
variable{r:R2}
def pX(X:Cx)(f:Value->Value->Sem Value)(r:R2):Prop:=
 ∀O s σ H x y v u Q,Inv X O σ H s->bY x v->bY y u->r x y H Q->
  wpAny (model X.prog X.w) X.A (f v u) (EP X O σ Q) X.xe s
def S3(X:Cx)(f:Value->Sem Value)(r:V->Hp->VK->Prop):Prop:=
 ∀O s σ H x v Q,Inv X O σ H s->bY x v->r x H Q->
  wpAny (model X.prog X.w) X.A (f v) (EP X O σ Q) X.xe s
def se(X:Cx)(f:Value)(r:List V->Hp->VK->Prop):Prop:=
 ∀O s σ H xs us Q,Inv X O σ H s->Vals xs us->r xs H Q->
  wpAny (model X.prog X.w) X.A (call f us) (EP X O σ Q) X.xe s
def S5(X:Cx)(r:V->Hp->(Bool->Hp->Prop)->Prop):Prop:=
 ∀O s σ H x v Q,Inv X O σ H s->bY x v->r x H Q->
  wpAny (model X.prog X.w) X.A (truthy v) (TP X O σ Q) X.xe s
def EY(r:R2)(ta tb:TE):TE:=fun σ H Q=>ta σ H λx H1=>tb σ H1 λy H2=>r x y H2 Q
def Ul(r:V->Hp->VK->Prop)(ta:TE):TE:=fun σ H Q=>ta σ H λx H1=>r x H1 Q
def rI(C:Int->Int->Prop)(g:Int->Int->V):R2:=λx y H Q=>∃i j,x=.int i/\y=.int j/\C i j/\Q (g i j) H
def G6(g:Int->Int->V):R2:=λx y H Q=>∃i j,x=.int i/\y=.int j/\Q (g i j) H
def rU(g:Int->V):V->Hp->VK->Prop:=λx H Q=>∃i,x=.int i/\Q (g i) H
section
variable{X:Cx}{a b c:Expr}{ta tb tc:TE}{pos:Pos}
theorem NR(p:PE X a ta)(o:PE X b tb){R:V->V->Hp->Prop}(I:Inv X O σ H s)(h:ta σ H λx H1=>tb σ H1 λy H2=>R x y H2)(n:∀v u e x y H2,Inv X O σ H2 e->bY x v->bY y u->R x y H2->wpAny (model X.prog X.w) X.A (f v u) Q X.xe e):
  wpAny (model X.prog X.w) X.A (eval a X.env) (λv d=>wpAny (model X.prog X.w) X.A (eval b X.env) (λu c=>wpAny (model X.prog X.w) X.A (f v u) Q X.xe c) X.xe d) X.xe s:=by
 refine dY (p O s σ H _ I h) λv i g=>aF g λx H1 r k m=>?_;refine dY (o O i σ H1 _ r m) λu e g=>aF g λy H2 q j l=>?_;exact n v u e x y H2 q k j l
theorem a7{op:Operator}(f:pX X (binaryOp op) r)(i:PE X a ta)(g:PE X b tb):PE X (.BinOp a op b pos) (EY r ta tb):=by
 intro O s σ H Q I h;exact wpAny_BinOp (NR i g I h λv u c x y H2 j e d q=>f O c σ H2 x y v u Q j e d q)
theorem Hm{op:UnaryOp}{r:V->Hp->VK->Prop}(f:S3 X (unaryOp op) r)(g:PE X a ta):PE X (.UnaryOp op a pos) (Ul r ta):=by
 intro O s σ H Q I h;exact UnaryOp_ (dY (g O s σ H _ I h) λv c b=>aF b λx H1 i d e=>f O c σ H1 x v Q i d e)
theorem OS{C:Int->Int->Prop}{g:Int->Int->Int}(rule:∀i j t u s Q E,C i j->Q (.int (g i j) s.toks) { s with toks:=s.toks+1 }->wpAny (model X.prog X.w) X.A (f (.int i t) (.int j u)) Q E s):
  pX X f (rI C λi j=>.int (g i j)):=by
 intro O s σ H x y v u Q I e d h;refine e_ h λi j a b hc q=>?_;subst a b;refine aA e λt a=>?_;subst a;refine aA d λc a=>?_;subst a;exact rule i j t c s _ _ hc (aO (.int (g i j)) H (I.tok _) ⟨_,rfl⟩ q)
theorem J9{g:Int->Int->Int}(rule:∀i j t u s Q E,Q (.int (g i j) s.toks) { s with toks:=s.toks+1 }->wpAny (model X.prog X.w) X.A (f (.int i t) (.int j u)) Q E s):
  pX X f (G6 λi j=>.int (g i j)):=by
 intro O s σ H x y v u Q I e d h;refine aF h λi j a b q=>?_;subst a b;refine aA e λt a=>?_;subst a;refine aA d λc a=>?_;subst a;exact rule i j t c s _ _ (aO (.int (g i j)) H (I.tok _) ⟨_,rfl⟩ q)
theorem J'{g:Int->Int->Bool}(rule:∀i j t u s Q E,Q (.bool (g i j)) s->wpAny (model X.prog X.w) X.A (f (.int i t) (.int j u)) Q E s):
  pX X f (G6 λi j=>.bl (g i j)):=by
 intro O s σ H x y v u Q I e d h;refine aF h λi j a b q=>?_;subst a b;refine aA e λt a=>?_;subst a;refine aA d λc a=>?_;subst a;exact rule i j t c s _ _ (aO (.bl (g i j)) H I rfl q)
def Ta(i j:Int):Prop:=0<j/\j<1073741824
theorem iJ:pX X (binaryOp .Add) (G6 λi j=>.int (i+j)):=J9 λ_ _ _ _ _ _ _ q=>add_int q
theorem fM:pX X (binaryOp .Sub) (G6 λi j=>.int (i-j)):=J9 λ_ _ _ _ _ _ _ q=>sub_int q
theorem Ej:pX X (binaryOp .FloorDiv) (rI Ta λi j=>.int (i/j)):=OS λi j _ _ _ _ _ hc q=>by
 have h1:(0:Int)<j:=hc.1;have h2:j<1073741824:=hc.2;exact floordiv_int (by omega) (by rw[Int.fdiv_eq_ediv_of_nonneg i (by omega)];exact q) (.inl (z9 (by omega)))
theorem J7:pX X (binaryOp .Mod) (rI (λ_ j=>j≠0) λi j=>.int (i.fmod j)):=OS λ_ _ _ _ _ _ _ hc q=>mod_int' hc q
theorem yI:pX X (binaryOp .BitXor) (G6 λi j=>.int (Builtin.bitXor i j)):=J9 λ_ _ _ _ _ _ _ q=>xor_int q
theorem Ks:pX X (inplaceOp .BitXor) (G6 λi j=>.int (Builtin.bitXor i j)):=J9 λ_ _ _ _ _ _ _ q=>ixor_int q
theorem Uk{f:Value->Sem Value}{g:Int->Int}(rule:∀i t s Q E,Q (.int (g i) s.toks) { s with toks:=s.toks+1 }->wpAny (model X.prog X.w) X.A (f (.int i t)) Q E s):
  S3 X f (rU λi=>.int (g i)):=by
 intro O s σ H x v Q I b h;refine ae h λi a q=>?_;subst a;refine aA b λt a=>?_;subst a;exact rule i t s _ _ (aO (.int (g i)) H (I.tok _) ⟨_,rfl⟩ q)
theorem Cp:S3 X (unaryOp .USub) (rU λi=>.int (-i)):=Uk λ_ _ _ _ _ q=>neg_int q
end
noncomputable def Mw:V->V->Bool
 | .gH,.gH=>true | .gH,.int _=>true | .int _,.gH=>true | .gH,.bl _=>true | .bl _,.gH=>true | .gH,.str _=>true | .str _,.gH=>true
 | .int _,.int _=>true | .bl _,.bl _=>true | .str _,.str _=>true | .Dy _,.Dy _=>true
 | .int _,.str _=>true | .str _,.int _=>true | .bl _,.str _=>true | .str _,.bl _=>true
 | _,_=>false
def UI:R2:=λx y H Q=>Mw x y=true/\Q (.bl (decide (x=y))) H
def UH:R2:=λx y H Q=>Mw x y=true/\Q (.bl (!decide (x=y))) H
theorem mF{i j:Int}:decide (V.int i=V.int j)=(i==j):=by
 rw[i6];simp
theorem IK{i j:Bool}:decide (V.bl i=V.bl j)=(i==j):=by
 rw[i6];simp
theorem EG{i j:Str}:decide (V.str i=V.str j)=(i==j):=by
 rw[i6];simp
theorem EH{i j:Array UInt8}:decide (V.Dy i=V.Dy j)=(i.toList==j.toList):=by
 rw[i6];cases i;cases j;simp
section
variable{X:Cx}{a b c:Expr}{ta tb tc:TE}{pos:Pos}
theorem dm{Q:VK}{k a:Bool}(I:Inv X O σ H s)(q:Q (.bl k) H)(e:k=a):EP X O σ Q (.bool a) s:=by
 subst e;exact(aO (.bl k) H I rfl q)
theorem rG:pX X (compareOp .Eq) UI:=by
 intro O s σ H x y v u Q I e b h;refine cE h λd q=>?_;cases x with
 | gH=>
  cases e;cases y with
  | gH=>cases b;exact PySem.EqNone.eq_none_none (dm I q (by simp))
  | bl j=>cases b;exact PySem.EqNone.eq_none_bool (dm I q (by simp))
  | int j=>refine aA b λc a=>?_;subst a;exact PySem.EqNone.eq_none_int (dm I q (by simp))
  | str j=>refine aA b λc a=>?_;subst a;exact PySem.EqNone.eq_none_str (dm I q (by simp))
  | _=>exact absurd (show false=true from d) b'
 | bl i=>
  cases e;cases y with
  | gH=>cases b;exact PySem.EqNone.eq_bool_none (dm I q (by simp))
  | bl j=>cases b;exact eq_bool (dm I q IK)
  | str j=>refine aA b λc a=>?_;subst a;exact PySem.EqMixed.eq_bool_str (dm I q (by simp))
  | _=>exact absurd (show false=true from d) b'
 | int i=>
  refine aA e λt a=>?_;subst a;cases y with
  | gH=>cases b;exact PySem.EqNone.eq_int_none (dm I q (by simp))
  | int j=>refine aA b λc a=>?_;subst a;exact eq_int (dm I q mF)
  | str j=>refine aA b λc a=>?_;subst a;exact PySem.EqMixed.eq_int_str (dm I q (by simp))
  | _=>exact absurd (show false=true from d) b'
 | str i=>
  refine aA e λt a=>?_;subst a;cases y with
  | gH=>cases b;exact PySem.EqNone.eq_str_none (dm I q (by simp))
  | bl j=>cases b;exact PySem.EqMixed.eq_str_bool (dm I q (by simp))
  | int j=>refine aA b λc a=>?_;subst a;exact PySem.EqMixed.eq_str_int (dm I q (by simp))
  | str j=>refine aA b λc a=>?_;subst a;exact eq_str (dm I q EG)
  | _=>exact absurd (show false=true from d) b'
 | Dy i=>
  refine aA e λt a=>?_;subst a;cases y with
  | Dy j=>refine aA b λc a=>?_;subst a;exact PySem.W.eq_bytes (dm I q EH)
  | _=>exact absurd (show false=true from d) b'
 | _=>cases y <;> exact absurd (show false=true from d) b'
theorem OR:pX X (compareOp .NotEq) UH:=by
 intro O s σ H x y v u Q I e b h;refine cE h λd q=>?_;cases x with
 | gH=>
  cases e;cases y with
  | gH=>cases b;exact PySem.EqNone.ne_none_none (dm I q (by simp))
  | bl j=>cases b;exact PySem.EqNone.ne_none_bool (dm I q (by simp))
  | int j=>refine aA b λc a=>?_;subst a;exact PySem.EqNone.ne_none_int (dm I q (by simp))
  | str j=>refine aA b λc a=>?_;subst a;exact PySem.EqNone.ne_none_str (dm I q (by simp))
  | _=>exact absurd (show false=true from d) b'
 | bl i=>
  cases e;cases y with
  | gH=>cases b;exact PySem.EqNone.ne_bool_none (dm I q (by simp))
  | bl j=>cases b;exact ne_bool (dm I q (cq not IK))
  | str j=>refine aA b λc a=>?_;subst a;exact PySem.EqMixed.ne_bool_str (dm I q (by simp))
  | _=>exact absurd (show false=true from d) b'
 | int i=>
  refine aA e λt a=>?_;subst a;cases y with
  | gH=>cases b;exact PySem.EqNone.ne_int_none (dm I q (by simp))
  | int j=>refine aA b λc a=>?_;subst a;exact ne_int (dm I q (cq not mF))
  | str j=>refine aA b λc a=>?_;subst a;exact PySem.EqMixed.ne_int_str (dm I q (by simp))
  | _=>exact absurd (show false=true from d) b'
 | str i=>
  refine aA e λt a=>?_;subst a;cases y with
  | gH=>cases b;exact PySem.EqNone.ne_str_none (dm I q (by simp))
  | bl j=>cases b;exact PySem.EqMixed.ne_str_bool (dm I q (by simp))
  | int j=>refine aA b λc a=>?_;subst a;exact PySem.EqMixed.ne_str_int (dm I q (by simp))
  | str j=>refine aA b λc a=>?_;subst a;exact ne_str (dm I q (cq not EG))
  | _=>exact absurd (show false=true from d) b'
 | Dy i=>
  refine aA e λt a=>?_;subst a;cases y with
  | Dy j=>refine aA b λc a=>?_;subst a;exact PySem.W.ne_bytes (dm I q (cq not EH))
  | _=>exact absurd (show false=true from d) b'
 | _=>cases y <;> exact absurd (show false=true from d) b'
theorem xm:pX X (compareOp .Lt) (G6 λi j=>.bl (decide (i<j))):=J' λ_ _ _ _ _ _ _ q=>lt_int q
theorem rF:pX X (compareOp .LtE) (G6 λi j=>.bl (decide (i<=j))):=J' λ_ _ _ _ _ _ _ q=>le_int q
theorem xn:pX X (compareOp .Gt) (G6 λi j=>.bl (decide (j<i))):=J' λ_ _ _ _ _ _ _ q=>gt_int q
theorem Lw:pX X (compareOp .GtE) (G6 λi j=>.bl (decide (j<=i))):=J' λ_ _ _ _ _ _ _ q=>ge_int q
theorem du(b:Expr)(h:op≠.In:=by decide)(h2:op≠.NotIn:=by decide):behindInMarks op b=false:=Bk b h h2
theorem kJ(f:pX X (compareOp op) r)(j:PE X a ta)(i:PE X b tb)(g:behindInMarks op b=false):PE X (.Compare a [op] [b] pos) (EY r ta tb):=by
 intro O s σ H Q I h;exact wpAny_Compare1 (NR j i I h λv u c x y H2 k e d q=>f O c σ H2 x y v u Q k e d q) g
def Lg(t:TE):TT:=fun σ H Q=>t σ H λx H'=>∃k,x=.bl k/\Q k H'
theorem dE(p:pX X (compareOp op) r)(w:PE X a ta)(t:PE X b tb)(q:behindInMarks op b=false):PT X (.Compare a [op] [b] pos) (Lg (EY r ta tb)):=by
 intro O s σ H Q I h;refine wpAny_isTrue_Compare1 (dY (w O s σ H _ I h) λv g d=>aF d λx H1 C l o=>dY (t O g σ H1 _ C o) λu f ⟨y,H2,B,j,n⟩=>
  dY (p O f σ H2 x y v u _ B l j n) λc E d=>aF d λz D A i d=>ae d λk e m=>?_) q
 subst e;cases i;exact gU (ab D A m)
def Gr(r c:R2)(ta tb tc:TE):TE:=fun σ H Q=>ta σ H λx H1=>tb σ H1 λy H2=>r x y H2 λz a=>∃k,z=.bl k/\
 (if k=true then tc σ a λb d=>c y b d Q else Q (.bl false) a)
theorem Bc{g:CmpOp}{l:R2}(K:pX X (compareOp op) r)(i:pX X (compareOp g) l)(N:PE X a ta)(M:PE X b tb)(hc:PE X c tc)(L:lastMarks [op,g] [b,c]=false:=by with_unfolding_all rfl):PE X (.Compare a [op,g] [b,c] pos) (Gr r l ta tb tc):=by
 intro O s σ H Q I h;refine Compare_chain (dY (N O s σ H _ I h) λv B f=>aF f λx H1 S E J=>chain_link (dY (M O B σ H1 _ S J) λu A ⟨y,H2,R,j,G⟩=>
  dY (K O A σ H2 x y v u _ R E j G) λd w f=>aF f λz o n D f=>ae f λk e m=>?_)) L
 subst e;cases D;refine gU ?_;cases k with
 | false=>exact ite_ff (aO (.bl false) o n rfl m)
 | true=>exact ite_tt (chain_last (dY (hc O w σ o _ n m) λq t f=>aF f λp T P C F=>i O t σ T y p u q Q P j C F))
theorem A0{g:CmpOp}{l:R2}(N:pX X (compareOp op) r)(i:pX X (compareOp g) l)(S:PE X a ta)(R:PE X b tb)(hc:PE X c tc)(P:lastMarks [op,g] [b,c]=false:=by with_unfolding_all rfl):PT X (.Compare a [op,g] [b,c] pos) (Lg (Gr r l ta tb tc)):=by
 intro O s σ H Q I h;refine isTrue_chain (dY (S O s σ H _ I h) λv B f=>aF f λx H1 Z F L=>test_link (dY (R O B σ H1 _ Z L) λu A ⟨y,H2,Y,j,K⟩=>
  dY (N O A σ H2 x y v u _ Y F j K) λd w f=>aF f λz o n E f=>ae f λk e m=>?_)) P
 subst e;cases E;refine gU ?_;cases k with
 | false=>
  refine ae m λk' U M=>?_;cases U;exact ite_ff (ab o n M)
 | true=>
  refine ite_tt (test_last (dY (hc O w σ o _ n m) λq t f=>aF f λp H4 W D J=>dY (i O t σ H4 y p u q _ W j D J) λd' s5 f=>aF f λz2 H5 V C f=>ae f λk2 T G=>?_));subst T;cases C;exact gU (ab H5 V G)
def Qr(K:PySem.W.Frag)(x:V)(H:Hp)(k:Bool):Prop:=
 match x with
 | .gH=>k=false
 | .bl b=>k=b
 | .int i=>k=(i !=0)
 | .str y=>y.length<=sizeLine/\k=((y.length:Int) !=0)
 | .Dy y=>y.size<=sizeLine/\k=((y.size:Int) !=0)
 | .ref p=>(∃xs,dM K H p xs/\k=!xs.isEmpty)\/(∃xs,dU K H p xs/\k=!xs.isEmpty)\/∃cH,H p=some (.dK cH)/\k=!cH.isEmpty
 | _=>False
theorem Dc{κ:Type}{cH:List (κ×V)}{vs:List (κ×Value)}(r:KV cH vs):(!vs.isEmpty)=!cH.isEmpty:=by
 cases r <;> rfl
theorem vK{xs:List V}{its:List Value}(r:Vals xs its):(!its.toArray.isEmpty)=!xs.isEmpty:=by
 cases r <;> simp
theorem vH:(sizeLine:Nat)<2^63:=by rw[lB];decide
theorem L6:S5 X (λx H Q=>∃k,Qr X.K x H k/\Q k H):=by
 intro O s σ H x v Q I f h;refine ae h λk e q=>?_;have u:=vH;have o:sizeLine=16777216:=lB;cases x with
 | gH=>
  cases f;have a:k=false:=e;subst a;exact truthy_none (ab H I q)
 | bl b=>
  cases f;have a:k=b:=e;subst a;exact gU (ab H I q)
 | int i=>
  refine aA f λt c=>?_;subst c;have a:k=(i !=0):=e;subst a;exact PySem.P.truthy_int (ab H I q)
 | str y=>
  refine aA f λt c=>?_;subst c;obtain⟨l,a⟩:y.length<=sizeLine/\k=((y.length:Int) !=0):=e;subst a;exact PySem.P.truthy_str (by omega) (ab H (I.tok _) q)
 | Dy y=>
  refine aA f λt c=>?_;subst c;obtain⟨l,a⟩:y.size<=sizeLine/\k=((y.size:Int) !=0):=e;subst a;exact PySem.W.truthy_bytes (by omega) (ab H (I.tok _) q)
 | ref p=>
  cases f;have a:(∃xs,dM X.K H p xs/\k=!xs.isEmpty)\/(∃xs,dU X.K H p xs/\k=!xs.isEmpty)\/∃cH,H p=some (.dK cH)/\k=!cH.isEmpty:=e;rcases a with⟨xs,g,a⟩ | ⟨xs,g,a⟩ | ⟨cH,g,a⟩
  ·subst a;refine aH (I.list g) λits r pl j=>?_;have d:=r.length;exact wpAny_truthy_list pl.isList (by simp only[cS];omega) (ab H (I.tok _) <| by rw[vK r];exact q)
  ·subst a;refine aH (I.tuple g) λits r pl j=>?_;have d:=r.length;exact truthy_tuple pl (by simp only[cS];omega) (ab H (I.tok _) <| by rw[vK r];exact q)
  ·subst a;obtain⟨j,n,vs,r,m⟩:cH.length<=sizeLine/\(p==sysModules)=false/\∃vs,KV cH vs/\s.heap.DictOf (d9 X.prog X.w) p vs:=I.dS p _ g;have d:cH.length=vs.length:=ba r;exact wpAny_truthy_dict n m (by omega) (ab H (I.tok _) <| by rw[Dc r];exact q)
 | _=>exact(show False from e).elim
theorem vals1{x:V}(r:Vals [x] us):∃u,us=[u]/\bY x u:=by
 cases r with
 | cons b a=>cases a;exact(aa rfl b)
theorem r8:se X (.builtin "abs") (λxs H Q=>∃i,xs=[.int i]/\Q (.int (if i<0 then -i else i)) H):=by
 intro O s σ H xs us Q I r h;refine ae h λi a q=>?_;subst a;refine ae (vals1 r) λu a c=>aA c λt b=>?_;subst a b;exact call_abs_int λu d=>(aO (.int (if i<0 then -i else i)) H (I.tok _) ⟨_,rfl⟩ q)
end
structure DG(h:Heap)(x dx C:Addr)(mA:Str->Option Value):Prop where
 obj:h.get? x=some (PySem.W.instObj C dx)
 ns:h.Ns1 dx mA
 ne:dx≠x
theorem Fq{dx:Addr}{mA:Str->Option Value}(n:h.Ns1 dx mA):∃od,h.get? dx=some od/\∀name,PySem.W.lookIn name od=some (mA name):=by
 refine aN n λo es c=>dG c λep f j i _ g=>?_;refine(ab o f <| λname=>?_);have e:=g name;unfold nsFind findBy at e;rw[<-Array.find?_toList]at e;unfold PySem.W.lookIn;rw[j];dsimp only;split
 ·rename_i y q;rw[q]at e;exact cq some e
 ·rename_i q;rw[q]at e;have a:es.toList.any (·.refKey)=false:=by
   rw[List.any_eq_false];intro y d;refine aN (i y (Array.mem_toList_iff.1 d)) λz t b=>?_;simp[DictEntry.refKey,b]
  have k:¬es.toList.any (·.refKey)=true:=by rw[a];exact b'
  rw[ai k];exact cq some e
theorem DG.look{x dx:Addr}{mA:Str->Option Value}(I:DG h x dx C mA):∃od,PySem.W.InstAt h x (PySem.W.instObj C dx) C (some od)/\∀name,PySem.W.lookIn name od=some (mA name):=
 let ⟨od,a,b⟩:=Fq I.ns
 (ab od ⟨I.obj,rfl,rfl,a⟩ b)
section
variable{prog:Program}{w:World}{A:Around}{E:Value->Shared->Prop}{s:Shared}{K:PySem.W.Frag}{x dx C f:Addr}{mA:Str->Option Value}{name:Str}{v:Value}
theorem get_map{a:Bool}(X:K.In s.heap)(I:DG s.heap x dx C mA)(f:PySem.W.plainGet K C name=true)(e:PySem.W.hasDictIn K C=true)(g:PySem.W.findIn K (.ref C) name=some none)(c:mA name=some v)(b:PySem.W.handedIn v=true)(h:Q v { s with toks:=s.toks+1 }):
  wpAny (model prog w) A (getAttr (.ref x) name a) Q E s:=by
 refine ae I.look λod J d=>?_;exact PySem.W.get_value X J (uC f).1 (PySem.W.findObj_own e g rfl (by rw[d,c])) b h
theorem Iv{Q:Value×List Value->Shared->Prop}(X:K.In s.heap)(I:DG s.heap x dx C mA)(a:PySem.W.plainGet K C name=true)(e:PySem.W.findIn K (.ref C) name=some (some (.ref f)))(c:PySem.W.isFn K (.ref f)=true)(b:mA name=none)(h:Q (.ref f,[.ref x]) s):
  wpAny (model prog w) A (getMethod (.ref x) name pl) Q E s:=by
 refine ae I.look λod J d=>?_;exact PySem.W.method_fn X J (uC a).1 (uC a).2 e (gu.1 c) (by show(PySem.W.lookIn name od).map (·.isSome)=some false;rw[d,b];rfl) h
theorem JQ{j:List Str}{Q:Unit->Shared->Prop}(X:K.In s.heap)(I:DG s.heap x dx C mA)(o:PySem.W.findIn K (.ref C) "__setattr__"=some (some (.builtin "object.__setattr__")))(p:PySem.W.plainOver K C=true)(m:PySem.W.takerIn K C name=some none)(q:PySem.W.hasDictIn K C=true)(hw:PySem.Within mA j)(n:j.length<=sizeLine)(h:∀h',DG h' x dx C (λy=>if y=name then some v else mA y)->Heap.SameBut dx s.heap h'->Q () { s with heap:=h',toks:=s.toks+2 }):
  wpAny (model prog w) A (setAttr (.ref x) name v) Q E s:=by
 refine ae I.look λod J B=>?_;refine PySem.W.set_plain X J o (PySem.W.osa_open (s:={ s with toks:=s.toks+1 }) (r:=none) X J p m λb=>?_);refine ae (PySem.W.any_some q) λD hc g=>?_;have l:s.heap.get? x=some ⟨.ref C,some dx,.plain,#[]⟩:=I.obj;refine ag (au (ag (ag (wpAny_loadPart l (ag (PySem.W.Looks.here (s:={ s with toks:=s.toks+1 }) (PySem.W.looks_clsIn X hc) ?_))))));rw[g];refine au (a:=some dx) (ag (au (ag ?_)));refine wpAny_nsSet1 (s:={ s with toks:=s.toks+1 }) I.ns λh' d c=>?_;refine aN (d.count (PySem.Within.cons name v hw)) λz t k=>aH k λu e f i=>?_;refine ag (wpAny_lookBehind e (by rw[f];exact pastItsLine_dict (fG i (by rw[dj];omega))) ?_);exact au (h _ ⟨(c.2 _ (bu I.ne)).trans I.obj,d,I.ne⟩ c)
theorem HM{R:Result->Shared->Prop}{vs:List Value}(X:K.In s.heap)(a:PySem.W.makesIn K C=true)(hi:PySem.W.findIn K (.ref C) "__init__"=some (some (.ref f)))(b:PySem.W.typeIn K (.ref f)=some (.type "function"))
  (h:codeAny (model prog w) (A.under (.builtin "type.__call__" ⟨.ref C::vs,kw⟩)) (.call (.ref f) ⟨.ref (s.heap.objs.size+1)::vs,kw⟩) (PySem.W.InitBack (s.heap.objs.size+1) R)
   { s with heap:=(s.heap.push PySem.W.emptyDict).push (PySem.W.instObj C s.heap.objs.size) }) :
  codeAny (model prog w) A (.call (.ref C) ⟨vs,kw⟩) R s:=by
 obtain⟨c,g,d,t,os⟩:=s;exact PySem.W.make_core (PySem.W.makes_of X a) (PySem.W.looks_findIn X hi) (λself=>PySem.W.bind_fn X self b) (.inl rfl) h
end
noncomputable def dZ(f:Str)(v:V):List (Str×V)->List (Str×V)
 | []=>[(f,v)]
 | (g,x)::r=>if g=f then (g,v)::r else (g,x)::dZ f v r
theorem aV(f g:Str)(v:V):∀fs:List (Str×V),(dZ f v fs).lookup g=if g=f then some v else fs.lookup g
 | []=>by
  show List.lookup g [(f,v)]=_
  by_cases h:g=f
  ·have a:(g==f)=true:=gu.2 h;simp only[List.lookup,a,ak h]
  ·have a:(g==f)=false:=lQ.2 h;simp only[List.lookup,a,ai h]
 | (k,x)::r=>by
  have c:=aV f g v r;rw[show dZ f v ((k,x)::r)=(if k=f then (k,v)::r else (k,x)::dZ f v r) from rfl]
  by_cases b:k=f
  ·rw[ak b]
   by_cases h:g=k
   ·have a:(g==k)=true:=gu.2 h;simp only[List.lookup,a,ak (h.trans b)]
   ·have a:(g==k)=false:=lQ.2 h;simp only[List.lookup,a,ai (λe:g=f=>h (e.trans b.symm))]
  ·rw[ai b]
   by_cases h:g=k
   ·have a:(g==k)=true:=gu.2 h;simp only[List.lookup,a,ai (λe:g=f=>b (h.symm.trans e))]
   ·have a:(g==k)=false:=lQ.2 h;simp only[List.lookup,a];exact c
theorem sJ(f:Str)(v:V):∀fs:List (Str×V),f∈(dZ f v fs).map (·.1)/\∀g,g∈fs.map (·.1)->g∈(dZ f v fs).map (·.1)
 | []=>⟨by simp[dZ],λg h=>by simp at h⟩
 | (k,x)::r=>by
  refine cE (sJ f v r) λc b=>?_;rw[show dZ f v ((k,x)::r)=(if k=f then (k,v)::r else (k,x)::dZ f v r) from rfl]
  by_cases a:k=f
  ·rw[ak a];subst a;exact⟨by simp,λg h=>by simpa using h⟩
  ·rw[ai a];refine⟨?_,λg h=>?_⟩
   ·rw[bw];exact cN _ c
   ·rw[bw]at h ⊢;rcases aY.1 h with e | e
    ·exact aY.2 (.inl e)
    ·exact cN _ (b g e)
theorem n0(f:Str)(v:V):∀fs:List (Str×V),(dZ f v fs).length<=fs.length+1
 | []=>by simp[dZ]
 | (k,x)::r=>by
  have b:=n0 f v r;rw[show dZ f v ((k,x)::r)=(if k=f then (k,v)::r else (k,x)::dZ f v r) from rfl]
  by_cases a:k=f
  ·rw[ak a,dj,dj];omega
  ·rw[ai a,dj,dj];omega
theorem mH.some_of{o:Option Value}(r:mH (some v) o):∃u,o=some u/\bY v u:=by
 cases o with
 | none=>exact(show False from r).elim
 | some u=>exact(ab u rfl r)
theorem mH.none_of{o:Option Value}(r:mH none o):o=none:=by
 cases o with
 | none=>rfl
 | some u=>exact(show False from r).elim
theorem FH(r:bY v u):PySem.W.handedIn u=true:=by
 cases v with
 | gH=>cases(show u=Value.none from r);rfl
 | bl b=>cases(show u=Value.bool b from r);rfl
 | int i=>refine aA (show ∃t,u=Value.int i t from r) λt e=>?_;cases e;rfl
 | str x=>refine aA (show ∃t,u=Value.str x t from r) λt e=>?_;cases e;rfl
 | Dy b=>refine aA (show ∃t,u=Value.bytes b t from r) λt e=>?_;cases e;rfl
 | Qg b=>refine aA (show ∃t,u=Value.float b t from r) λt e=>?_;cases e;rfl
 | ref a=>cases(show u=Value.ref a from r);rfl
 | ty n=>cases(show u=Value.type n from r);rfl
section
variable{P:Program}{w:World}{H H':Hp}{h h':Heap}{a C dx:Addr}{fs Wy:List (Str×V)}
theorem y_(c:mN P w H h)(e:H a=some (.ins C dx fs)):∃mA,DG h a dx C mA/\(∀f,mH (fs.lookup f) (mA f))/\PySem.Within mA (fs.map (·.1))/\fs.length<=1000/\H dx=some (.own a):=by
 refine fb (show dR P w H h a (.ins C dx fs) from c a _ e) λd z b=>fb b λi g b=>aH b λmA n r q=>?_;exact⟨mA,⟨g,n,i⟩,r,q,z,d⟩
end
structure F6(K:PySem.W.Frag)(C:Addr):Prop where
 pg:PySem.W.plainGet K C Str.empty=true
 hd:PySem.W.hasDictIn K C=true
 po:PySem.W.plainOver K C=true
 sa:PySem.W.findIn K (.ref C) "__setattr__"=some (some (.builtin "object.__setattr__"))
theorem F6.get(c:F6 K C)(f:Str):PySem.W.plainGet K C f=true:=c.pg
def gG(K:PySem.W.Frag)(C:Addr)(f:Str):Prop:=PySem.W.findIn K (.ref C) f=some none
theorem gG.Og{f:Str}(n:gG K C f):PySem.W.takerIn K C f=some none:=by
 unfold PySem.W.takerIn;rw[show PySem.W.findIn K (.ref C) f=some none from n];rfl
structure Meth(K:PySem.W.Frag)(C:Addr)(m:Str)(f:Addr):Prop where
 at_:PySem.W.findIn K (.ref C) m=some (some (.ref f))
 fn:PySem.W.isFn K (.ref f)=true
 kp:PySem.W.keepIn K (.ref f)=true
section
variable{X:Cx}{O:List (Addr×Obj)}{σ:St}{H:Hp}{s:Shared}{a C dx:Addr}{fs:List (Str×V)}{f:Str}{v:V}{A:Around}{E:Value->Shared->Prop}
theorem Dg{b:Bool}(I:Inv X O σ H s)(e:H a=some (.ins C dx fs))(c:F6 X.K C)(n:gG X.K C f)(l:fs.lookup f=some v)(h:∀u s',Inv X O σ H s'->bY v u->Q u s'):wpAny (model X.prog X.w) A (getAttr (.ref a) f b) Q E s:=by
 refine dG (y_ I.dS e) λmA d r _ _ _=>?_;refine ae (mH.some_of (v:=v) (o:=mA f) (by rw[<-l];exact r f)) λu i g=>?_;exact get_map I.Cm d (c.get f) c.hd n i (FH g) (h u _ (I.tok _) g)
theorem vO{m:Str}{g:Addr}{Q:Value×List Value->Shared->Prop}(I:Inv X O σ H s)(e:H a=some (.ins C dx fs))(c:F6 X.K C)(k:Meth X.K C m g)(l:fs.lookup m=none)(h:Q (.ref g,[.ref a]) s):wpAny (model X.prog X.w) A (getMethod (.ref a) m pl) Q E s:=by
 refine dG (y_ I.dS e) λmA b r _ _ _=>?_;have d:mA m=none:=mH.none_of (by rw[<-l];exact r m);exact Iv I.Cm b (c.get m) k.at_ k.fn d h
theorem Cz{y:V}{Q:Unit->Shared->Prop}(I:Inv X O σ H s)(e:H a=some (.ins C dx fs))(c:F6 X.K C)(n:gG X.K C f)(B:fs.length<1000)(l:bY y u)(h:∀s',Inv X O σ (aX H a (.ins C dx (dZ f y fs))) s'->Q () s'):wpAny (model X.prog X.w) A (setAttr (.ref a) f u) Q E s:=by
 refine dG (y_ I.dS e) λmA d r wi _ j=>?_;have m:(fs.map (·.1)).length<=sizeLine:=by rw[aZ,lB];omega
 refine JQ I.Cm d c.sa c.po n.Og c.hd wi m λh' i k=>h _ ?_;have t:∃o,h'.get? dx=some o:=let ⟨o,_,_,w,_⟩:=i.ns;⟨o,w⟩;refine I.write (x:=a) (e:=dx) (by rw[e];exact True.intro) (.inr j) (λb q v z=>(k.2 b v).trans z) t ?_;refine(⟨by rw[ao d.ne];exact j,?_,d.ne,i.obj,cz i.ns (λg=>?_) <| λg p=>?_⟩)
 ·have:=n0 f y fs;omega
 ·show mH ((dZ f y fs).lookup g) (if g=f then some u else mA g);rw[aV]
  by_cases q:g=f
  ·rw[ak q,ak q];exact l
  ·rw[ai q,ai q];exact r g
 ·by_cases q:g=f
  ·rw[q];exact(sJ f y fs).1
  ·refine(sJ f y fs).2 g (wi g λz=>p ?_);show(if g=f then some u else mA g)=none;rw[ai q];exact z
theorem Inv.made(I:Inv X O σ H s):Inv X O σ (aX (aX H s.heap.objs.size (.own (s.heap.objs.size+1))) (s.heap.objs.size+1) (.ins C s.heap.objs.size []))
  { s with heap:=(s.heap.push PySem.W.emptyDict).push (PySem.W.instObj C s.heap.objs.size) }:=by
 have d:(s.heap.push PySem.W.emptyDict).get? s.heap.objs.size=some PySem.W.emptyDict:=cu s.heap rfl;have j:((s.heap.push PySem.W.emptyDict).push (PySem.W.instObj C s.heap.objs.size)).get? (s.heap.objs.size+1)=some (PySem.W.instObj C s.heap.objs.size):=by
  have:=cu (s.heap.push PySem.W.emptyDict) (o:=PySem.W.instObj C s.heap.objs.size) rfl;rwa [f7]at this
 have i:(s.heap.push PySem.W.emptyDict).Ns s.heap.objs.size (λ_=>none):=(eQ PySem.W.emptyDict (#[]) _ d rfl (λe h=>absurd h (by simp)) <| λ_=>rfl)
 have k:=I.laid (a:=s.heap.objs.size) (o:=.own (s.heap.objs.size+1)) (h':=s.heap.push PySem.W.emptyDict) (t':=s.toks) (λb u q=>bT _ q) (a0 _) ⟨_,d⟩;refine k.laid (a:=s.heap.objs.size+1) (o:=.ins C s.heap.objs.size []) (t':=s.toks) (λb u q=>bT _ q) (qj (f7 _ _)) ?_;have c:s.heap.objs.size≠s.heap.objs.size+1:=b8 (ky _);refine(⟨by rw[ao c,ah],bZ _,c,j,a8 (λ_=>none) ((Heap.Ns1.of_empty i).at λo q=>bT _ q) (λ_=>True.intro) <| λy g=>absurd rfl g⟩)
theorem K7{prog:Program}{env:Env}{f:Str}{s:Shared}(b:attributeBase e f env (eval e env)=eval e env)(h:wpAny (model prog w) A (eval e env) (λo a=>wpAny (model prog w) A (getAttr o f true) Q E a) E s):wpAny (model prog w) A (eval (.Attribute e f pos) env) Q E s:=
 Attribute_any_ h (by rw[arm_eval_Attribute,b])
end
def Ou(K:PySem.W.Frag)(ta:TE)(f:Str):TE:=fun σ H Q=>ta σ H λx H1=>∃a C dx fs v,x=.ref a/\H1 a=some (.ins C dx fs)/\F6 K C/\gG K C f/\fs.lookup f=some v/\Q v H1
def RJ(K:PySem.W.Frag)(ta tv:TE)(f:Str):TS:=λD σ H=>tv σ H λy H1=>ta σ H1 λx H2=>∃a C dx fs,x=.ref a/\H2 a=some (.ins C dx fs)/\F6 K C/\gG K C f/\fs.length<1000/\
 D.nx σ (aX H2 a (.ins C dx (dZ f y fs)))
section
variable{X:Cx}{o e value:Expr}{f:Str}{pos pos' Rr:Pos}{ta tv:TE}
theorem bJ(i:PE X e ta)(j:attributeBase e f X.env (eval e X.env)=eval e X.env):PE X (.Attribute e f pos) (Ou X.K ta f):=by
 intro O s σ H Q I h;refine K7 j (dY (i O s σ H _ I h) λu t b=>aF b λx H1 o d b=>e9 b λa C dx fs v b=>sj b λex k c n l q=>?_);subst ex;obtain rfl:u=Value.ref a:=d;exact Dg o k c n l λp r m g=>(aO v H1 m g q)
theorem ji(p:PE X o ta)(k:PE X value tv)(m:swapsWith value (some (.Attribute o f pos')) pos.line X.env=pure false):PS X (.Assign [.Attribute o f pos'] value pos) (RJ X.K ta tv f):=by
 intro O s σ H D I h;refine plainObj_wpAny_Assign_Attribute (dY (k O s σ H _ I h) λu d b=>aF b λy H1 w e q=>dY (p O d σ H1 _ w q) λj A b=>aF b λx H2 v g b=>hO b λa C dx fs ex r c n b=>cE b λl i=>?_) m;subst ex;obtain rfl:j=Value.ref a:=g;exact Cz v r c n l e λz t=>(br σ _ t i)
end
structure fB(k:Nat)(A:Around):Prop where
 hd:A.handled=none
 dp:A.depth+3*k+5<recursionLimit
 un:A.units+16*k+200<cLine
theorem fB.mono{j:Nat}(r:fB k A)(h:j<=k):fB j A:=⟨r.hd,by have:=r.dp;omega,by have:=r.un;omega⟩
theorem fB.deeper{k:Nat}{A:Around}(r:fB (k+1) A)(env:Env):fB k (A.deeper env):=
 ⟨r.hd,by have:=r.dp;show A.depth+1+3*k+5<_;omega,by have:=r.un;show A.units+3+16*k+200<_;omega⟩
theorem fB.in1{k:Nat}{A:Around}(r:fB (k+1) A):fB k A.in1:=
 ⟨r.hd,by have:=r.dp;show A.depth+3*k+5<_;omega,by have:=r.un;show A.units+1+16*k+200<_;omega⟩
theorem C1:(A.under (.builtin "type.__call__" ⟨.ref C::us,kw⟩)).depth=A.depth+1:=by
 first | rfl | simp[Around.under,Code.weight,Code.isCreation,Code.isGuard,Code.isCaller,Code.frames,Code.isFrame,guardIds]
theorem C0:(A.under (.builtin "type.__call__" ⟨.ref C::us,kw⟩)).units=A.units+1:=by
 first | rfl | simp[Around.under,Code.cUnits,Code.frames,Code.isFrame]
theorem fB.make(r:fB (k+1) A)(C:Addr)(us:List Value)(kw:List (Str×Value)):fB k (A.under (.builtin "type.__call__" ⟨.ref C::us,kw⟩)):=
 ⟨r.hd,by have:=r.dp;rw[C1];omega,by have:=r.un;rw[C0];omega⟩
theorem fB.depth{k:Nat}{A:Around}(r:fB k A):A.depth<recursionLimit:=by have:=r.dp;omega
theorem fB.units{k:Nat}{A:Around}(r:fB k A):A.units+64<cLine:=by have:=r.un;omega
theorem fB.L4(r:fB k A):A.units<cLine:=by have:=r.un;omega
def mK:TA:=λ_ H Q=>Q [] H
def jo(ta:TE)(a:TA):TA:=fun σ H Q=>ta σ H λx H1=>a σ H1 λxs H2=>Q (x::xs) H2
section
variable{X:Cx}{e:Expr}{es:List Expr}{te:TE}{t:TA}{pos:Pos}
theorem ar:PA X [] mK:=λ_ _ _ _ H Q I h=>qB (aO [] H I (.nil) h)
theorem af(k:PE X e te)(j:PA X es t)(i:starEach (e::es) X.env=(false,eval e X.env)::starEach es X.env:=by rfl):PA X (e::es) (jo te t):=by
 intro pos O s σ H Q I h;rw[i];show wpAny _ _ (spliced ((false,eval e X.env)::backTo pos (starEach es X.env))) _ _ s;refine jX (dY (k O s σ H _ I h) λu b a=>aF a λx H1 m d g=>?_);exact dY (j pos O b σ H1 _ m g) λus n a=>aF a λxs H2 l c f=>(aO (x::xs) H2 l (.cons d c) f)
def Oh(t:TA):TE:=fun σ H Q=>t σ H λxs H1=>xs.length<=sizeLine/\∀p,H1 p=none->Q (.ref p) (aX H1 p (.bG xs))
def Oq(t:TA):TE:=fun σ H Q=>t σ H λxs H1=>xs.length<=sizeLine/\∀p,H1 p=none->Q (.ref p) (aX H1 p (.aR xs))
theorem fX{f}(h:PA X es t):PE X (.Tuple es f pos) (Oh t):=by
 intro O s σ H Q I g;refine wpAny_Tuple_spliced (dY (h pos O s σ H _ I g) λus a d=>e_ d λxs H1 c r z q=>⟨by rw[<-r.length];exact z,?_⟩);have i:H1 a.heap.objs.size=none:=c.dS.fresh (a0 _);refine(aO (.ref a.heap.objs.size) (aX H1 a.heap.objs.size (.bG xs)) (c.laid (t':=a.toks) (λb u e=>bT _ e) (a0 _) ?_) rfl <| q _ i);exact(⟨z,ab us r (cz (cu _ rfl) rfl ⟨_,rfl⟩)⟩)
theorem eC(h:PA X es t):PE X (.List es pos) (Oq t):=by
 intro O s σ H Q I f;refine wpAny_List_spliced (dY (h pos O s σ H _ I f) λus a d=>e_ d λxs H1 c r z q=>⟨by rw[<-r.length];exact z,?_⟩);have g:H1 a.heap.objs.size=none:=c.dS.fresh (a0 _);refine(aO (.ref a.heap.objs.size) (aX H1 a.heap.objs.size (.aR xs)) (c.laid (t':=a.toks) (λb u e=>bT _ e) (a0 _) ?_) rfl <| q _ g);exact(⟨z,br us 0 r <| cu _ rfl⟩)
end
abbrev Sp:=List V->Hp->VK->XK->Prop
abbrev L3:=List Env->Hp->Shared->XK->Value->Shared->Prop
structure DJ(P:Program)(w:World)(K:PySem.W.Frag)(mg:Str->Option Value)(base:Heap)(A:Around)(dF:List Env)(s:Shared)(H:Hp):Prop where
 frames:A.frames=some dF
 mod:Mod K mg base
 bs:∀b o,base.get? b=some o->s.heap.get? b=some o/\H b=none
 Dz:base.objs.size<=s.heap.objs.size
 oi:s.heap.FunFrames base dF
 Gb:∀b∈Iz dF,H b=none
 dS:mN P w H s.heap
 bare:AllBare s.gens
def CE(a:List Env)(P:Program)(w:World)(H:Hp)(s:Shared)(Q:VK)(u:Value)(s':Shared):Prop:=
 ∃v H',s'.os=s.os/\AllBare s'.gens/\Un (Iz a) [] H H' s.heap s'.heap/\mN P w H' s'.heap/\bY v u/\Q v H'
def CR(CX:L3)(a:List Env)(P:Program)(w:World)(H:Hp)(s:Shared)(Q:VK)(E:XK)(r:Result)(s':Shared):Prop:=
 match r with
 | .ok (.ret u)=>CE a P w H s Q u s'
 | .ok _=>False
 | .error e=>CX a H s E e s'
structure dw(P:Program)(w:World)(K:PySem.W.Frag)(mg:Str->Option Value)(base:Heap)(CX:L3)(k:Nat)(f:Addr)(fd:FuncData)(ps:List Str)(sp:Sp):Prop where
 len:∀vs H Q E,sp vs H Q E->vs.length=ps.length
 run:∀A dF s H args us vs Q E,fB k A->DJ P w K mg base A dF s H->BindsTo s fd args (ps.zip us)->Vals vs us->sp vs H Q E->
  codeAny (model P w) A (.call (.ref f) args) (CR CX dF P w H s Q E) s
theorem DJ.make{a:List Env}(e:DJ P w K mg base A a s H)(C:Addr)(us:List Value)(kw:List (Str×Value)):
  DJ P w K mg base (A.under (.builtin "type.__call__" ⟨.ref C::us,kw⟩)) a s H:=⟨by first | exact e.frames | (simpa[Around.under,Code.envs,Code.isFrame,pushEnvs] using e.frames),e.mod,e.bs,e.Dz,e.oi,e.Gb,e.dS,e.bare⟩
section
variable{X:Cx}{O:List (Addr×Obj)}{σ:St}{H:Hp}{s s':Shared}
theorem Inv.NI(I:Inv X O σ H s):DJ X.prog X.w X.K X.mg X.base X.A X.stack s H:=
 ⟨I.ok.frames,I.ok.mod,I.bs,fG I.ok.Dz I.sz,I.stack,I.DV,I.dS,I.bare⟩
theorem Inv.after{Q:VK}(I:Inv X O σ H s)(h:CE X.stack X.prog X.w H s Q u s'):EP X O σ Q u s':=by
 refine aN h λv H' f=>sj f λos a i e r q=>?_;obtain⟨j,g,d,t,c⟩:=s';obtain rfl:c=s.os:=os;exact(aO v H' (I.call (h':=j) (g':=g) (d':=d) (t':=t) (ch:=[]) i e a (λb z=>absurd z (by simp))) r q)
end
def uU(sp:Sp)(vX:List V)(E:XK)(t:TA):TE:=fun σ H Q=>t σ H λvs H1=>sp (vs++vX) H1 Q E
def DQ(C:Addr)(m:Str)(sp:Sp)(vX:List V)(E:XK)(ta:TE)(t:TA):TE:=fun σ H Q=>ta σ H λx H1=>∃a dx fs,x=.ref a/\H1 a=some (.ins C dx fs)/\fs.lookup m=none/\
 t σ H1 λvs H2=>sp (x::(vs++vX)) H2 Q E
def DR(C:Addr)(sp:Sp)(vX:List V)(E:XK)(t:TA):TE:=fun σ H Q=>t σ H λvs H1=>∀x dx,H1 x=none->H1 dx=none->dx≠x->
 sp (.ref x::(vs++vX)) (aX (aX H1 dx (.own x)) x (.ins C dx [])) (λv H2=>v=.gH/\Q (.ref x) H2) E
def Binds(K:PySem.W.Frag)(fd:FuncData)(ps:List Str)(ds:List Value):Prop:=
 ∀s us,K.In s.heap->(us++ds).length=ps.length->BindsTo s fd ⟨us,[]⟩ (ps.zip (us++ds))
theorem Binds.all{fd:FuncData}(h:∀us:List Value,us.length=ps.length->bindArgs fd ⟨us,[]⟩=pure (ps.zip us)):Binds K fd ps []:=λs us _ a=>by
 rw[gT]at a ⊢;exact .of_eq (h us a)
def Passes(CX:L3)(X:Cx)(E:XK):Prop:=∀O σ H s e s',Inv X O σ H s->CX X.stack H s E e s'->X.xe e s'
section
variable{X:Cx}{CX:L3}{k:Nat}{f C:Addr}{fd:FuncData}{ps:List Str}{sp:Sp}{vX:List V}{ds:List Value}{E:XK}{x m:Str}{p pos iF:Pos}{e o:Expr}{es:List Expr}{ta:TE}{t:TA}
theorem ym{Q:VK}(F:dw X.prog X.w X.K X.mg X.base CX k f fd ps sp)(d:fB k X.A)(j:Binds X.K fd ps ds)(i:Vals vX ds)(c:Passes CX X E)(I:Inv X O σ H s)(r:Vals vs us)(h:sp (vs++vX) H Q E):wpAny (model X.prog X.w) X.A (call (.ref f) us) (EP X O σ Q) X.xe s:=by
 have b:Vals (vs++vX) (us++ds):=r.append i;have g:(us++ds).length=ps.length:=by rw[<-b.length];exact F.len _ _ _ _ h
 refine p7 (qh (F.run X.A X.stack s H ⟨us,[]⟩ (us++ds) (vs++vX) Q E d I.NI (j s us I.Cm g) b h) λr s' a=>?_);cases r with
 | error e=>exact c O σ H s e s' I a
 | ok l=>
  cases l with
  | ret u=>exact I.after a
  | next=>exact False.elim a
  | brk=>exact False.elim a
  | cont=>exact False.elim a
theorem J6(F:dw X.prog X.w X.K X.mg X.base CX k f fd ps sp)(j:fB k X.A)(n:Gl X x)(l:X.mg x=some (.ref f))(m:PySem.W.keepIn X.K (.ref f)=true)(v:Binds X.K fd ps ds)(u:Vals vX ds)(i:Passes CX X E)(w:PA X (e::es) t)(b:(x==("__debug__":Str))=false:=by decide)(o:starEach (e::es) X.env=(false,eval e X.env)::starEach es X.env:=by rfl)(a:(backTo pos (starEach es X.env)).any (·.1)=false:=by rfl):
  PE X (.Call (.Name x p) (e::es) [] pos) (uU sp vX E t):=by
 intro O s σ H Q I h;refine lI (rP I n l ?_ b);refine uu (h₀:=X.base) I.ok.mod.PF m (dY (w pos O s σ H _ I h) λus y g=>aF g λvs H1 d r q=>⟨d.Cm,?_⟩) o a;exact ym F j v u i d r q
theorem J3(G:PE X o ta)(c:F6 X.K C)(n:Meth X.K C m f)(F:dw X.prog X.w X.K X.mg X.base CX k f fd ps sp)(D:fB k X.A)(K:Binds X.K fd ps ds)(J:Vals vX ds)(A:Passes CX X E)(L:PA X (e::es) t)(d:starEach (e::es) X.env=(false,eval e X.env)::starEach es X.env:=by rfl)(g:(backTo pos (starEach es X.env)).any (·.1)=false:=by rfl)
  (B:eval (.Call (.Attribute o m iF) (e::es) [] pos) X.env=(do
   let i <-eval o X.env
   standAt iF.atName
   let (f,first) <-holding [i] (getMethod i m pl)
   callWith pos f first (backTo pos (starEach (e::es) X.env)) (backToKw pos (keywordEach [] X.env))):=by rfl) :
  PE X (.Call (.Attribute o m iF) (e::es) [] pos) (DQ C m sp vX E ta t):=by
 intro O s σ H Q I h;refine zY (pl:=pl) (dY (G O s σ H _ I h) λu w b=>aF b λx H1 v y b=>aA b λa b=>e_ b λdx fs ex M l q=>?_) B;subst ex;obtain rfl:u=Value.ref a:=y;refine vO v M c n l ?_;refine uu (first:=[.ref a]) (h₀:=X.base) I.ok.mod.PF n.kp (dY (L pos O w σ H1 _ v q) λus N b=>aF b λvs H2 p r z=>⟨p.Cm,?_⟩) d g;exact ym (us:=.ref a::us) (vs:=.ref a::vs) F D K J A p (.cons rfl r) z
theorem Hr(r:PE X o ta)(c:F6 X.K C)(g:Meth X.K C m f)(F:dw X.prog X.w X.K X.mg X.base CX k f fd ps sp)(p:fB k X.A)(v:Binds X.K fd ps ds)(t:Vals vX ds)(j:Passes CX X E)
  (n:eval (.Call (.Attribute o m iF) [] [] pos) X.env=(do
   let e <-eval o X.env
   standAt iF.atName
   let (f,first) <-holding [e] (getMethod e m pl)
   callWith pos f first (backTo pos (starEach [] X.env)) (backToKw pos (keywordEach [] X.env))):=by rfl) :
  PE X (.Call (.Attribute o m iF) [] [] pos) (DQ C m sp vX E ta mK):=by
 intro O s σ H Q I h;refine zY (pl:=pl) (dY (r O s σ H _ I h) λu y b=>aF b λx H1 d i b=>aA b λa b=>e_ b λdx fs ex w l q=>?_) n;subst ex;obtain rfl:u=Value.ref a:=i;refine vO d w c g l ?_;exact zR (first:=[.ref a]) d.Cm g.kp (ym (us:=[.ref a]) (vs:=[.ref a]) F p v t j d (.cons rfl .nil) q)
structure Mk(K:PySem.W.Frag)(C f:Addr):Prop where
 makes:PySem.W.makesIn K C=true
 init:PySem.W.findIn K (.ref C) "__init__"=some (some (.ref f))
 fn:PySem.W.isFn K (.ref f)=true
 kp:PySem.W.keepIn K (.ref C)=true
theorem AR{Q:VK}(M:Mk X.K C f)(F:dw X.prog X.w X.K X.mg X.base CX k f fd ps sp)(l:fB (k+1) X.A)(o:Binds X.K fd ps ds)(n:Vals vX ds)(j:Passes CX X E)(I:Inv X O σ H s)(r:Vals vs us)(h:∀x dx,H x=none->H dx=none->dx≠x->sp (.ref x::(vs++vX)) (aX (aX H dx (.own x)) x (.ins C dx [])) (λv H2=>v=.gH/\Q (.ref x) H2) E):
  wpAny (model X.prog X.w) X.A (call (.ref C) us) (EP X O σ Q) X.xe s:=by
 have d:=h (s.heap.objs.size+1) s.heap.objs.size (I.dS.fresh (Nat.le_succ _)) (I.dS.fresh (a0 _)) (b8 (ky _));have b:=Inv.made (C:=C) I;have c:Vals (V.ref (s.heap.objs.size+1)::(vs++vX)) (Value.ref (s.heap.objs.size+1)::(us++ds)):=.cons rfl (r.append n);have m:(Value.ref (s.heap.objs.size+1)::us++ds).length=ps.length:=by
  have e:=c.length;rw[F.len _ _ _ _ d]at e;exact e.symm
 refine p7 (HM (f:=f) I.Cm M.makes M.init (gu.1 M.fn) (qh (F.run _ X.stack _ _ ⟨Value.ref (s.heap.objs.size+1)::us,[]⟩ (Value.ref (s.heap.objs.size+1)::(us++ds)) _ _ E (l.make C us [])
  (b.NI.make C us []) (o _ (Value.ref (s.heap.objs.size+1)::us) b.Cm m) c d) λr s' a=>?_))
 cases r with
 | error e=>exact j O σ _ _ e s' b a
 | ok p=>
  cases p with
  | ret u=>
   refine e_ (b.after a) λv H' t g q i=>?_;subst q;exact⟨g,(aO (V.ref (s.heap.objs.size+1)) H' t rfl i)⟩
  | next=>exact False.elim a
  | brk=>exact False.elim a
  | cont=>exact False.elim a
theorem J5(M:Mk X.K C f)(F:dw X.prog X.w X.K X.mg X.base CX k f fd ps sp)(j:fB (k+1) X.A)(m:Gl X x)(l:X.mg x=some (.ref C))(u:Binds X.K fd ps ds)(o:Vals vX ds)(i:Passes CX X E)(v:PA X (e::es) t)(b:(x==("__debug__":Str))=false:=by decide)(n:starEach (e::es) X.env=(false,eval e X.env)::starEach es X.env:=by rfl)(a:(backTo pos (starEach es X.env)).any (·.1)=false:=by rfl):
  PE X (.Call (.Name x p) (e::es) [] pos) (DR C sp vX E t):=by
 intro O s σ H Q I h;refine lI (rP I m l ?_ b);refine uu (h₀:=X.base) I.ok.mod.PF M.kp (dY (v pos O s σ H _ I h) λus w g=>aF g λvs H1 d r q=>⟨d.Cm,?_⟩) n a;exact AR M F j u o i d r q
theorem Hu(M:Mk X.K C f)(F:dw X.prog X.w X.K X.mg X.base CX k f fd ps sp)(c:fB (k+1) X.A)(e:Gl X x)(d:X.mg x=some (.ref C))(i:Binds X.K fd ps ds)(g:Vals vX ds)(b:Passes CX X E)(a:(x==("__debug__":Str))=false:=by decide):PE X (.Call (.Name x p) [] [] pos) (DR C sp vX E mK):=by
 intro O s σ H Q I h;refine lI (rP I e d ?_ a);exact zR I.Cm M.kp (AR (us:=[]) M F c i g b I .nil h)
end
structure bc(N P:List Str)(sc:Scope):Prop where
 kind:sc.kind=.function
 co:sc.isCoroutine=false
 gen:sc.isGenerator=false
 nd:N.Nodup
 pre:N.take P.length=P
 par:∀x∈P,sc.names.lookup x=some .local\/sc.names.lookup x=some .cell
 Ng:∀y∈sc.names,y.2≠.free
theorem xS{kindOf:Str->Option NameKind}{x:Str}:∀{a:List (Str×Value)} {m:Str->Option Value},(∀v,(x,v)∉a)->bindL kindOf a m x=m x
 | [],_,_=>rfl
 | (n,v)::r,m,h=>by
  unfold bindL;rw[xS λw hw=>h w (cN _ hw)];split
  ·have:x≠n:=by rintro rfl;exact h v iU
   simp[this]
  ·rfl
theorem xU{kindOf:Str->Option NameKind}{x:Str}:∀{a:List (Str×Value)} {m:Str->Option Value},(∀v,(x,v)∉a)->bindC kindOf a m x=m x
 | [],_,_=>rfl
 | (n,v)::r,m,h=>by
  unfold bindC;rw[xU λw hw=>h w (cN _ hw)];split
  ·rfl
  ·have:x≠n:=by rintro rfl;exact h v iU
   simp[this]
theorem xT{kindOf:Str->Option NameKind}{x:Str}{v:Value}:∀{P:List Str} {vs:List Value} {i:Nat} {m:Str->Option Value},P.Nodup->P[i]?=some x->vs[i]?=some v->kindOf x=some .local->
  bindL kindOf (P.zip vs) m x=some v
 | [],_,_,_,_,h,_,_=>by simp at h
 | _::_,[],_,_,_,_,h,_=>by simp at h
 | p::P,w::vs,0,m,a,h1,h2,b=>by
  simp at h1 h2;subst h1;subst h2;show bindL kindOf ((p,w)::P.zip vs) m p=_;unfold bindL;rw[xS λv c=>(cR.1 a).1 (lH c).1,ak b];simp
 | p::P,w::vs,i+1,m,a,h1,h2,b=>by
  show bindL kindOf ((p,w)::P.zip vs) m x=_;unfold bindL;exact xT (i:=i) (cR.1 a).2 (by simpa using h1) (by simpa using h2) b
theorem xV{kindOf:Str->Option NameKind}{x:Str}{v:Value}:∀{P:List Str} {vs:List Value} {i:Nat} {m:Str->Option Value},P.Nodup->P[i]?=some x->vs[i]?=some v->kindOf x≠some .local->
  bindC kindOf (P.zip vs) m x=some v
 | [],_,_,_,_,h,_,_=>by simp at h
 | _::_,[],_,_,_,_,h,_=>by simp at h
 | p::P,w::vs,0,m,a,h1,h2,b=>by
  simp at h1 h2;subst h1;subst h2;show bindC kindOf ((p,w)::P.zip vs) m p=_;unfold bindC;rw[xU λv c=>(cR.1 a).1 (lH c).1,ai b];simp
 | p::P,w::vs,i+1,m,a,h1,h2,b=>by
  show bindC kindOf ((p,w)::P.zip vs) m x=_;unfold bindC;exact xV (i:=i) (cR.1 a).2 (by simpa using h1) (by simpa using h2) b
noncomputable def start(N:List Str)(vs:List V):St:=vs.map some++List.replicate (N.length-vs.length) none
noncomputable def zo(CX:L3)(P:Program)(w:World)(K:PySem.W.Frag)(mg:Str->Option Value)(base:Heap)(N:List Str)(qual:Str)(I:Scope)(f:Addr)(b:Value)(A:Around)(dF:List Env)(s:Shared)(H:Hp)(E:XK):Cx where
 prog:=P
 w:=w
 K:=K
 mg:=mg
 base:=base
 A:=A.deeper (envOfC qual I s.heap.objs.size f b)
 N:=N
 vb:=s
 LZ:=H
 env:=envOfC qual I s.heap.objs.size f b
 dF:=dF
 stack:=envOfC qual I s.heap.objs.size f b::dF
 ex:=[]
 calm:=true
 fn:=λ_=>true
 pn:=[]
 xe:=λe s'=>wpAny (model P w) (A.deeper (envOfC qual I s.heap.objs.size f b)) (leaving (envOfC qual I s.heap.objs.size f b) e) (λ_ a=>CX dF H s E e a) (λc a=>CX dF H s E c a) s'
theorem B7{a:Scope}(h:a.names.lookup x=some .cell):∃c,(cellsFrom n a.names []).lookup x=some c:=by
 have q:=Aa a.names n [] (.inl h);exact Ah.1 q
theorem FC{CX:L3}{qual:Str}{I:Scope}{f:Addr}{t:Value}{d:List Env}{C:Shared}{E:XK}(S:bc N ps I)(L:A.handled=none)(g:DJ P w K mg base A d s H)(Q:vs.length=ps.length)(r:Vals vs us)(x:InCallC s s.heap.objs.size (bindL (envOfC qual I s.heap.objs.size f t).kindOf (ps.zip us) λ_=>none) (cellsFrom (s.heap.objs.size+1) I.names []) (bindC (envOfC qual I s.heap.objs.size f t).kindOf (ps.zip us) λ_=>none) C):
  Inv (zo CX P w K mg base N qual I f t A d s H E) [] (start N vs) H C:=by
 have J:ps.length<=N.length:=by have:=cq List.length S.pre;rw[fH]at this;omega
 refine bI x.done λh1 O B F=>?_;subst B;have j:∀b:Addr,b∉(zo CX P w K mg base N qual I f t A d s H E).ex:=λb z=>absurd (show b∈([]:List Addr) from z) (by simp);refine⟨⟨g.mod,S.kind,rfl,rfl,a0 _,λy z c h1 h2=>?_,λy l=>?_,λy c _ h=>?_,λ_=>L,Around.frames_deeper g.frames,.inr ⟨rfl,rfl⟩,λb z=>absurd z (j b),g.bs,g.Dz,λb _ _=>j b,λb z=>absurd z (j b),g.oi,g.Gb⟩,
  rfl,g.bare,Un.kept F,(aa x.toInCall.ns <| λi y v h1 h2 R=>?_),λy c h=>⟨_,x.cell y c h⟩,g.dS.fresh (a0 _),λy c h=>?_,λp o=>absurd (show p∈([]:List (Addr×Obj)) from o) (by simp),g.dS.kept F,?_⟩
 ·exact name_of_addr x.apart (eH h1) (eH h2)
 ·have l:I.names.lookup y=some .cell\/I.names.lookup y=some .free:=l;rcases l with l | l
  ·exact B7 l
  ·exact absurd rfl (S.Ng _ (eH l))
 ·exact lC (x.above y c (eH h))
 ·have hi:i<vs.length:=by
   unfold start at h2
   by_cases hi:i<vs.length
   ·exact hi
   ·rw[Ap (by simpa using hi)]at h2;rw[List.getElem?_replicate]at h2;split at h2 <;> cases h2
  have M:vs[i]?=some v:=by
   unfold start at h2;rw[nA (by simpa using hi),gw]at h2;cases e:vs[i]? with
   | none=>rw[e]at h2;cases h2
   | some a=>rw[e]at h2;cases h2;rfl
  refine ae (r.get M) λu D G=>?_;have o:ps[i]?=some y:=by
   rw[<-S.pre,List.getElem?_take_of_lt (by omega)];exact h1
  have m:ps.Nodup:=by rw[<-S.pre];exact S.nd.sublist (List.take_sublist _ _)
  refine(ab u G ?_);rcases S.par y (bP o) with k | k
  ·exact .inl ⟨k,xT m o D k⟩
  ·refine aA (B7 (n:=s.heap.objs.size+1) k) λc e=>?_;refine .inr (⟨.inl k,ab c e ?_⟩);have q:=x.cell y c e;rw[xV m o D (by show I.names.lookup y≠_;rw[k];decide)]at q;exact q
 ·exact g.dS.fresh (lC (x.above y c (eH h)))
 ·unfold start;show _=N.length;rw[dC,aZ,List.length_replicate];omega
theorem LG{CX:L3}{f:Addr}{name qual:Str}{g:Arguments}{I:Scope}{R kV B O d T Y:Value}{U od:Option Addr}{D:Array (Option Value)}{sp:Sp}(lk:K.lookup f=some ⟨Y,od,.func (PySem.W.fnOf name qual g body I R kV B O U d T),D⟩)(L:PySem.W.codeIn K d qual=true)(S:bc N ps I)(len:∀vs H Q E,sp vs H Q E->vs.length=ps.length)
  (j:∀A c s H vs Q E,fB k (A.deeper (envOfC qual I s.heap.objs.size f d))->sp vs H Q E->
   ∃t,EO (zo CX P w K mg base N qual I f d A c s H E) body t/\t { nx:=λ_ H'=>Q .gH H',rt:=Q } (start N vs) H) :
  dw P w K mg base CX (k+1) f (PySem.W.fnOf name qual g body I R kV B O U d T) ps sp:=by
 refine⟨len,λA c s H args us vs Q E G z hb r m=>?_⟩;have hl:=len _ _ _ _ m;have W:K.In s.heap:=z.mod.PF.keeps λb o e=>(z.bs b o e).1;have F:s.heap.NoLimit:=z.mod.nolimit.keeps λb o e=>(z.bs b o e).1;have i:∀y∈ps.zip us,I.names.lookup y.1=some .local\/(I.names.lookup y.1=some .cell/\((cellsFrom (s.heap.objs.size+1) I.names []).lookup y.1).isSome=true):=λ⟨n,v⟩ Z=>by
  rcases S.par n (lH Z).1 with q | q
  ·exact .inl q
  ·exact .inr ⟨q,Aa _ _ _ (.inl q)⟩
 refine codeAny_call_function G.depth (W _ _ lk) rfl S.co S.gen rfl (PySem.W.codeRec_of W L) (hb _ _ _ _ ?_);refine wpAny_newFunctionEnv_cells S.kind i λenv he M x=>?_;subst he;refine⟨F.keeps x.toInCall.keep,codeAny_func ?_⟩;refine ae (j A c s H vs Q E (G.deeper _) m) λt ht hq=>?_;have a:Inv (zo CX P w K mg base N qual I f d A c s H E) [] (start N vs) H M:=FC S G.hd z hl r x;refine d7 (ht [] M (start N vs) H _ a hq) (λfl s' l=>?_) λe s' l=>l;have p:∀{h:St} {H':Hp} {v:V} {u:Value},Inv (zo CX P w K mg base N qual I f d A c s H E) [] h H' s'->bY v u->Q v H'->CE c P w H s Q u s':=
  fun{h H' v u} J C q=>⟨v,H',J.os,J.bare,J.base,J.dS,C,q⟩
 cases fl with
 | ret u=>
  refine aN l λv h X=>aH X λH' J C q=>?_;exact p J C q
 | next=>
  refine bI l λh H' J q=>?_;exact p (v:=V.gH) (u:=Value.none) J rfl q
 | brk=>
  refine bI l λ_ _ _ q=>?_;exact False.elim q
 | cont=>
  refine bI l λ_ _ _ q=>?_;exact False.elim q
section
variable{X:Cx}{x:Str}{p pos:Pos}{e:Expr}{es:List Expr}{t:TA}{id T:String}{r:List V->Hp->VK->Prop}
def Uq(r:List V->Hp->VK->Prop)(t:TA):TE:=fun σ H Q=>t σ H λvs H1=>r vs H1 Q
theorem df(hc:se X (.builtin id) r)(l:Gl X x)(k:X.mg x=none)(i:bootBuiltins x=some (.builtin id))(n:PA X (e::es) t)(j:x≠"__name__":=by decide)(b:(x==("__debug__":Str))=false:=by decide)(m:starEach (e::es) X.env=(false,eval e X.env)::starEach es X.env:=by rfl)(a:(backTo pos (starEach es X.env)).any (·.1)=false:=by rfl):PE X (.Call (.Name x p) (e::es) [] pos) (Uq r t):=by
 intro O s σ H Q I h;refine lI (sI I l k i ?_ j b);exact PyProof.Rows.callWith_builtin1 (dY (n pos O s σ H _ I h) λus d c=>aF c λvs H1 o f g=>hc O d σ H1 vs us Q o f g) m a
end
end L2
namespace HT
open PySem PyProof.Rows
noncomputable def lexLt:List Int->List Int->Bool
 | [],[]=>false
 | [],_::_=>true
 | _::_,[]=>false
 | x::xs,y::ys=>if x=y then lexLt xs ys else decide (x<y)
theorem mD(x y:Int)(xs ys:List Int):lexLt (x::xs) (y::ys)=if x=y then lexLt xs ys else decide (x<y):=rfl
theorem kY:lexLt [] []=false:=rfl
theorem nY(y:Int)(ys:List Int):lexLt [] (y::ys)=true:=rfl
theorem nZ(x:Int)(xs:List Int):lexLt (x::xs) []=false:=rfl
theorem BU(A:Around)(s:Shared)(a:Int)(t:Tok)(c:Int)(u:Tok):∃e,SeqAt.EqAt A s (.int a t) (.int c u) e/\(e=true↔a=c):=
 (ab (a==c) (SeqAt.EqAt.int_int a t c u) <| by simp)
theorem GW(A:Around)(s:Shared)(a:Int)(t:Tok)(c:Int)(u:Tok)(prog:Program)(w:World)(E:Value->Shared->Prop)(Q:Value->Shared->Prop)(h:Q (.bool (decide (a<c))) s):
  wpAny (model prog w) A (richCompare .Lt (.int a t) (.int c u)) Q E s:=
 (PyProof.Rows.lt_int h:wpAny (model prog w) A (compareOp .Lt (.int a t) (.int c u)) Q E s)
section
open PySem.SeqAt
open PySem.AutoSeq1 (wpAny_loadPart')
open PySem.MeetsSeq PySem.MeetsSeq2 PySem.MeetsSeq3
theorem wC(l b:Addr)(items jj:Array Value)(n n2:Nat)(dd SO:Option Addr)(sl Rz:Array (Option Value))(ns ms:List Int)(hi:IntsAre items.toList ns)(hj:IntsAre jj.toList ms):
  Meets (Builtin.«tuple.__lt__» ⟨[.ref l,.ref b],[]⟩)
   (λ_ R s=>s.heap.get? l=some { cls:=.type "tuple",dict:=dd,data:=.seq items n,slots:=sl }/\s.heap.get? b=some { cls:=.type "tuple",dict:=SO,data:=.seq jj n2,slots:=Rz }/\
    R (.ok (.ret (.bool (lexLt ns ms)))) s):=
 .of_wp λprog w A R s h=>by
  obtain⟨hp,g,d,tk,os⟩:=s;refine fb h λhl hb h=>?_;have f2:=AutoSeq1.sub_tuple_tuple;have z1:items.size=ns.length:=by rw[<-hi.length];simp
  have z2:jj.size=ms.length:=by rw[<-hj.length];simp
  wp_walk using wpAny_loadPart' hl,wpAny_loadPart' hb,wpAny_forIn_list _ (λrest b s'=>b.1=none/\s'=⟨hp,g,d,tk,os⟩/\∃vs ws Fi Fm,rest=vs.zip ws/\
   IntsAre vs Fi/\IntsAre ws Fm/\Fi.length+jj.size=Fm.length+items.size/\R (.ok (.ret (.bool (lexLt Fi Fm)))) ⟨hp,g,d,tk,os⟩) _
  case turn=>
   rintro⟨y,x⟩ rest b s' ⟨NC,rfl,vs,ws,Fi,Fm,hz,NA,Kv,mM,hR⟩;cases NA with
   | nil=>rw[List.zip_nil_left]at hz;cases hz
   | cons a t PY=>
    cases Kv with
    | nil=>rw[List.zip_nil_right]at hz;cases hz
    | cons c u PX=>
     rw[qR]at hz;injection hz with Sd LC;injection Sd with hy hx;subst hy hx;rw[mD]at hR;simp only[dj]at mM;refine ae (BU A.in1 ⟨hp,g,d,tk,os⟩ a t c u) λe he Iq=>?_;refine ag (he prog w _ _ ?_);cases e with
     | true=>
      rw[ak (Iq.1 rfl)]at hR
      wp_walk
      exact(cO rfl rfl <| aU _ _ _ _ LC PY PX (by omega) hR)
     | false=>
      rw[ai (λq=>absurd (Iq.2 q) b')]at hR;have Sg:=GW A.in1 ⟨hp,g,d,tk,os⟩ a t c u prog w
      wp_walk using Sg
      exact(aa rfl <| by simpa using hR)
  case fin=>
   rintro⟨b1,b2⟩ s' ⟨NC,rfl,vs,ws,Fi,Fm,hz,NA,Kv,mM,hR⟩;simp only at NC;subst NC;have hv:lexLt Fi Fm=decide (items.size<jj.size):=by
    cases NA with
    | nil=>
     cases Kv with
     | nil=>
      simp only[m2]at mM;rw[kY];exact(di (by omega)).symm
     | cons c u hw=>
      simp only[m2,dj]at mM;rw[nY];exact(bE (by omega)).symm
    | cons a t hv=>
     cases Kv with
     | nil=>
      simp only[m2,dj]at mM;rw[nZ];exact(di (by omega)).symm
     | cons c u hw=>
      rw[qR]at hz;cases hz
   rw[hv]at hR
   wp_walk
   exact(aa rfl <| by simpa[Builtin.Tuple.tupleCompareSizes] using hR)
  case h=>
   exact(cO rfl rfl <| aU items.toList jj.toList ns ms rfl hi hj (by omega) h)
end
section
variable{prog:Program}{w:World}{A:Around}{E:Value->Shared->Prop}{s:Shared}
theorem vC{l b:Addr}{c a:Array Value}{d e:List Int}{Q:Value->Shared->Prop}(u:IsTup s.heap l c)(y:IsTup s.heap b a)(hi:IntsAre c.toList d)(v:IntsAre a.toList e)(t:A.units<cLine)(h:Q (.bool (lexLt d e)) s):wpAny (model prog w) A (compareOp .Lt (.ref l) (.ref b)) Q E s:=by
 obtain⟨⟨cls,dd,p,sl⟩,m,hc,n,o⟩:=id u;obtain⟨⟨q,k,data2,j⟩,f,i,r,g⟩:=id y;simp only at hc o i g;subst hc o i g;exact richCompare_meets_room (op:=.Lt) (aa m rfl) (aa f rfl) PySem.F.slot_tuple_lt PySem.F.entry_tuple_lt (PySem.F.args_tuple_lt_2 _ _) (wC l b c a n r dd k sl j d e hi v)
  (cO m f <| show Value.bool (lexLt d e)≠Value.notImplemented/\Q (.bool (lexLt d e)) s from⟨(λx=>nomatch x),h⟩) t
theorem K0{t b:Addr}{vs a:List Value}{Q:Value->Shared->Prop}(p:IsTup s.heap t vs.toArray)(q:IsTup s.heap b a.toArray)(l:vs≠[])(h1:a=[]->Q (.ref t) s)(h2:a≠[]->Q (.ref s.heap.objs.size) { s with heap:=s.heap.push { cls:=.type "tuple",data:=.seq (vs++a).toArray } })(j:vs.length+a.length<=sizeLine):wpAny (model prog w) A (binaryOp .Add (.ref t) (.ref b)) Q E s:=by
 obtain⟨⟨cls,dd,data,sl⟩,i,hc,n,m⟩:=id p;obtain⟨⟨o,h,data2,d⟩,c,g,k,f⟩:=id q;simp only at hc m g f;subst hc m g f;have e:vs.toArray++a.toArray=(vs++a).toArray:=by simp
 by_cases hw:a=[]
 ·exact concat_meets (aa i rfl) (aa c rfl) noFill_tuple_add seq_tuple_add z_ Ac (Ai _ _)
   (tuple_addW1 t b vs.toArray a.toArray n k dd h sl d (by simpa using l) (by simp[hw])) (cO i c <| h1 hw)
 ·refine concat_meets (aa i rfl) (aa c rfl) noFill_tuple_add seq_tuple_add z_ Ac (Ai _ _)
   (tuple_addW2 t b vs.toArray a.toArray n k dd h sl d (by simpa using l) (by simpa using hw) (by rw[cS,cS];exact j)) (cO i c ?_)
  rw[e];exact h2 hw
noncomputable def zI(n d:Nat):Option Int->Nat
 | none=>d
 | some v=>if v<0 then (v+(n:Int)).toNat else min v.toNat n
theorem GO(n d:Nat):zI n d none=d:=rfl
theorem yl(n d k:Nat):zI n d (some (k:Int))=min k n:=by
 show(if (k:Int)<0 then ((k:Int)+(n:Int)).toNat else min (k:Int).toNat n)=min k n;rw[ai (by omega),lK]
end
end HT
namespace L2
open PySem PySem.Spec PyProof.Rows
variable{H H':Hp}{a b D d:Addr}{u v:Value}{P prog:Program}{w:World}{i n ep:Nat}{A:Around}{E Q:Value->Shared->Prop}{α:Type}{s:Shared}{pos:Pos}{O:List (Addr×Obj)}{σ:St}{x y:V}{tg iter elt:Expr}{te:TE}{g:TG}{wi:TI}{xs:List V}{cH:List (List Key×V)}{its:List Value}{env:Env}{I:Scope}{own:List (Str×Nat)}{ifs:List Expr}{tt:TT}{od:Obj}{es:Array DictEntry}
abbrev TO:=St->Hp->(Option Int->Hp->Prop)->Prop
def PO(X:Cx)(e:Option Expr)(t:TO):Prop:=
 ∀O s σ H Q,Inv X O σ H s->t σ H Q->
  wpAny (model X.prog X.w) X.A (evalPart e X.env) (λu s'=>∃o H',Inv X O σ H' s'/\IsPart u o/\Q o H') X.xe s
def JB:TO:=λ_ H Q=>Q none H
def Ol(t:TE):TO:=fun σ H Q=>t σ H λx H1=>∃i,x=.int i/\Q (some i) H1
theorem intsAre_of{a:List Int}:∀{us:List Value},Vals (a.map V.int) us->IntsAre us a:=by
 induction a with
 | nil=>intro us r;rw[i2]at r;cases r;exact .nil
 | cons n a d=>
  intro us r;rw[bw]at r;cases r with
  | cons c b=>
   refine aA c λt e=>?_;subst e;exact .cons n t (d b)
section
variable{X:Cx}{e:Expr}{te:TE}{lo hi:Option Expr}{tl th:TO}{pos p2:Pos}
theorem JZ:PO X none JB:=by
 intro O s σ H Q I h;rw[evalPart_none];exact au (aO none H I (.none) h)
theorem yB(h:PE X e te):PO X (some e) (Ol te):=by
 intro O s σ H Q I hw;rw[evalPart_some];refine dY (h O s σ H _ I hw) λu g b=>aF b λx H1 f c d=>?_;refine ae d λi a q=>?_;subst a;refine aA c λt a=>?_;subst a;exact(aO (some i) H1 f (.int i t) q)
def T9(X:Cx)(r:V->Option Int->Option Int->Hp->VK->Prop):Prop:=
 ∀O s σ H x v b a lo hi sl Q,Inv X O σ H s->bY x v->s.heap.IsSliceOf sl b a .none->IsPart b lo->IsPart a hi->r x lo hi H Q->
  ∃T id,typeLookup (.type T) "__getitem__"=pure (some (.builtin id))/\s.TypeIs v T/\wpAny (model X.prog X.w) X.A (getItem v (.ref sl)) (EP X O σ Q) X.xe s
def Um(r:V->Option Int->Option Int->Hp->VK->Prop)(te:TE)(tl th:TO):TE:=fun σ H Q=>te σ H λx H1=>tl σ H1 λl H2=>th σ H2 λu a=>r x l u a Q
theorem A'{r:V->Option Int->Option Int->Hp->VK->Prop}(z:T9 X r)(C:PE X e te)(A:PO X lo tl)(w:PO X hi th):PE X (.Subscript e (.Slice lo hi none p2) pos) (Um r te tl th):=by
 intro O s σ H Q I h;refine Subscript_ (dY (C O s σ H _ I h) λv j c=>aF c λx H1 J k o=>?_);refine wpAny_Slice (dY (A O j σ H1 _ J o) λf i c=>aF c λl H2 G pl n=>dY (w O i σ H2 _ G n) λd a c=>aF c λu g F p m=>?_);rw[evalPart_none];refine au ?_;have E:Inv X O σ g { a with heap:=a.heap.push { cls:=.type "slice",data:=.fields #[f,d,.none] } }:=F.kept (t':=a.toks) λb L q=>bT _ q;refine aF (z O { a with heap:=a.heap.push { cls:=.type "slice",data:=.fields #[f,d,.none] } } σ g x v f d l u a.heap.objs.size Q E k (Heap.IsSliceOf.new ..) pl p m) λT id D y B=>?_;show wpAny (model X.prog X.w) X.A (subscriptTail e (.Slice lo hi none p2) v (.ref a.heap.objs.size)) (EP X O σ Q) X.xe { a with heap:=a.heap.push { cls:=.type "slice",data:=.fields #[f,d,.none] } };exact tail_any (ops:=[.ref a.heap.objs.size,v]) y D B (by with_unfolding_all rfl)
def B4(xs:List V)(lo hi:Option Int):List V:=(xs.drop (HT.zI xs.length 0 lo)).take (HT.zI xs.length xs.length hi-HT.zI xs.length 0 lo)
theorem B3(xs:List V)(lo hi:Option Int):(B4 xs lo hi).length<=xs.length:=by
 unfold B4;rw[fH,List.length_drop];omega
def ON(K:PySem.W.Frag):R2:=λx y H Q=>∃a b c d,x=.ref a/\y=.ref b/\dU K H a (c.map V.int)/\dU K H b (d.map V.int)/\Q (.bl (HT.lexLt c d)) H
theorem MX(p:X.A.units<cLine):pX X (compareOp .Lt) (ON X.K):=by
 intro O s σ H x y v u Q I j i h;refine hO h λa b f g e d t r q=>?_;subst e d;cases j;cases i;refine aH (I.tuple t) λits l m _=>?_;refine aH (I.tuple r) λc k p2 _=>?_;have o:IntsAre its.toArray.toList f:=intsAre_of l;have n:IntsAre c.toArray.toList g:=intsAre_of k;exact HT.vC m p2 o n p (aO (.bl (HT.lexLt f g)) H I rfl q)
def Lq(K:PySem.W.Frag):R2:=λx y H Q=>∃a b xs ys,x=.ref a/\y=.ref b/\dU K H a xs/\dU K H b ys/\xs≠[]/\xs.length+ys.length<=sizeLine/\
 (ys=[]->Q (.ref a) H)/\(ys≠[]->∀p,H p=none->Q (.ref p) (aX H p (.bG (xs++ys))))
theorem Vals.yN{us:List Value}(r:Vals xs us):us=[]↔xs=[]:=by
 cases r with
 | nil=>simp
 | cons _ _=>simp
theorem J8:pX X (binaryOp .Add) (Lq X.K):=by
 intro O s σ H x y v u Q I l k h;refine hO h λa b xs ys f e A t d=>cE d λr d=>fb d λj n m=>?_;subst f e;cases l;cases k;refine aH (I.tuple A) λits g p _=>?_;refine aH (I.tuple t) λi c p2 _=>?_;refine HT.K0 p p2 (λz=>r (g.yN.1 z)) (λz=>(aO (.ref a) H I rfl <| n (c.yN.1 z))) (λz=>?_) (by rw[<-g.length,<-c.length];exact j);refine(aO (.ref s.heap.objs.size) _ (I.laid (t':=s.toks) (o:=.bG (xs++ys)) (λb C q=>bT _ q) (a0 _) ?_) rfl <| m (λw=>z (c.yN.2 w)) _ (I.dS.fresh (a0 _)));exact(⟨by rw[dC];exact j,aa (g.append c) <| IsTup.new _ _⟩)
end
noncomputable def Ie(n:Nat)(i:Int):Option Nat:=if 0<=i then (if i<n then some i.toNat else none) else if -(n:Int)<=i then some (i+n).toNat else none
def wA{α:Type}(xs:List α)(i:Int):Option α:=(Ie xs.length i).bind λj=>xs[j]?
theorem y8{i:Int}{j:Nat}(h:Ie n i=some j):seqIndex? i n=some j/\j<n/\-(n:Int)<=i/\i<n:=by
 unfold Ie at h
 by_cases h0:0<=i
 ·rw[ak h0]at h
  by_cases h1:i<n
  ·rw[ak h1]at h;have e:i.toNat=j:=bN h;exact(oX (by rw[seqIndex_of h0 h1,e]) (by omega) (by omega) h1)
  ·rw[ai h1]at h;cases h
 ·rw[ai h0]at h
  by_cases h1:-(n:Int)<=i
  ·rw[ak h1]at h;have e:(i+n).toNat=j:=bN h;exact(oX (by rw[seqIndex_neg (by omega) h1,e]) (by omega) h1 <| by omega)
  ·rw[ai h1]at h;cases h
theorem zB{xs:List α}{i:Int}{v:α}(h:wA xs i=some v):∃j,seqIndex? i xs.length=some j/\xs[j]?=some v/\j<xs.length/\-(xs.length:Int)<=i/\i<xs.length:=by
 unfold wA at h;cases e:Ie xs.length i with
 | none=>rw[e]at h;cases h
 | some j=>
  rw[e]at h;refine cE (y8 e) λh1 a=>fb a λh2 c b=>?_;exact⟨j,h1,h,h2,c,b⟩
theorem aG{xs:List α}{j:Nat}{v:α}(h:xs[j]?=some v):wA xs (j:Int)=some v:=by
 have a:j<xs.length:=(bF.1 h).1;have e:Ie xs.length (j:Int)=some j:=by
  unfold Ie;rw[ak (by omega),ak (by omega)];simp
 unfold wA;rw[e];exact h
theorem IZ(xs:List α)(v:α):wA (xs++[v]) (-1)=some v:=by
 have a:(xs++[v]).length=xs.length+1:=by simp
 have e:Ie (xs++[v]).length (-1)=some xs.length:=by
  unfold Ie;rw[a,ai (by decide),ak (by omega)]
  congr 1
  omega
 unfold wA;rw[e];show(xs++[v])[xs.length]?=some v;simp
def K'(b:Expr):Prop:=∀o i,subscripted b false o i=operate [o,i] (getItem o i)
def S8(X:Cx)(r:R2):Prop:=
 ∀value a O s σ H x y v u Q,Inv X O σ H s->bY x v->bY y u->r x y H Q->
  subscripted a false v u=operate [v,u] (getItem v u)->wpAny (model X.prog X.w) X.A (subscriptTail value a v u) (EP X O σ Q) X.xe s
def Xv(X:Cx)(id:String)(r:V->List V->Hp->VK->Prop):Prop:=
 ∀O s σ H x xs v us Q,Inv X O σ H s->bY x v->Vals xs us->r x xs H Q->
  wpAny (model X.prog X.w) X.A (call (.builtin id) (v::us)) (EP X O σ Q) X.xe s
section
variable{X:Cx}{a b:Expr}{ta tb:TE}{pos:Pos}
theorem aT{r:R2}(g:S8 X r)(j:PE X a ta)(i:PE X b tb)(f:K' b):PE X (.Subscript a b pos) (EY r ta tb):=by
 intro O s σ H Q I h;exact Subscript_ (NR j i I h λv u c x y H2 k e d q=>g a b O c σ H2 x y v u Q k e d q (f _ _))
def CI(K:PySem.W.Frag):R2:=λx y H Q=>∃p xs i v,x=.ref p/\y=.int i/\dM K H p xs/\wA xs i=some v/\Q v H
def sy(K:PySem.W.Frag):R2:=λx y H Q=>∃p xs i v,x=.ref p/\y=.int i/\dU K H p xs/\wA xs i=some v/\Q v H
theorem cT:S8 X (CI X.K):=by
 intro value d O s σ H x y v u Q I m l h g;refine hO h λp xs i z a c n A q=>?_;subst a c;cases m;refine aA l λt a=>?_;subst a;refine aH (I.list n) λits r pl D=>?_;refine dG (zB A) λj h1 h2 F C B=>?_;refine ae (r.get h2) λw k e=>?_;have o:=r.length;have E:=vH;have b:EP X O σ Q w s:=(aO z H I e q)
 by_cases h0:0<=i
 ·have f:i.toNat=j:=by
   rw[seqIndex_of h0 B]at h1;exact bN h1
  exact item_listR pl.isList h0 (by omega) (by rw[f];simpa using k) b g
 ·have f:(i+(its.toArray.size:Int)).toNat=j:=by
   rw[seqIndex_neg (by omega) C]at h1;rw[cS,<-o];exact bN h1
  exact subscriptTail_builtinR (x:=w) pl.isList.typeIs slot_list_getitem.lookup
   (wpAny_getItem_list_neg (Q:=λr s'=>r=w/\EP X O σ Q r s') pl.isList (by omega) (by rw[cS] <;> omega) (by omega) (by rw[f];simpa using k) ⟨rfl,b⟩) g
theorem aS:S8 X (sy X.K):=by
 intro value c O s σ H x y v u Q I g f h k;refine hO h λp xs i z a b l n q=>?_;subst a b;cases g;refine aA f λt a=>?_;subst a;refine aH (I.tuple l) λits r pl A=>?_;refine dG (zB n) λj h1 h2 E D C=>?_;refine ae (r.get h2) λw o d=>?_;have m:=r.length;have B:=vH;have e:EP X O σ Q w s:=(aO z H I d q)
 exact subscriptTail_builtinR (x:=w) pl.typeIs slot_tuple_getitem.lookup
  (getItem_tuple (j:=j) (Q:=λr s'=>r=w/\EP X O σ Q r s') pl (by omega) (by omega) (by rw[cS,<-m];exact h1) (by simpa using o) ⟨rfl,e⟩) k
theorem CZ(its:List Value)(n j:Nat)(u:Value):Obj.mapSeq (·.setIfInBounds j u) { cls:=.type "list",data:=.seq its.toArray n }={ cls:=.type "list",data:=.seq (its.set j u).toArray n }:=by
 simp[Obj.mapSeq]
theorem Inv.aR{p:Addr}(I:Inv X O σ H s)(h:H p=some (.aR xs)):
  ∃its n,Vals xs its/\s.heap.get? p=some { cls:=.type "list",data:=.seq its.toArray n }/\xs.length<=sizeLine:=by
 refine cE (I.dS p _ h) λz a=>bI a λits n r e=>?_;exact(aO its n r e z)
theorem Inv.Nj{p:Addr}{ys:List V}{a:List Value}{c:Nat}{f:Obj->Obj}(I:Inv X O σ H s)(h:H p=some (.aR xs))(i:s.heap.get? p=some { cls:=.type "list",data:=.seq its.toArray n })(d:f { cls:=.type "list",data:=.seq its.toArray n }={ cls:=.type "list",data:=.seq a.toArray c })(r:Vals ys a)(g:ys.length<=sizeLine)(t:Nat):
  Inv X O σ (aX H p (.aR ys)) { s with heap:=s.heap.update p f,toks:=t }:=by
 have e:(s.heap.update p f).get? p=some { cls:=.type "list",data:=.seq a.toArray c }:=by
  rw[m9 f i (by rw[d] <;> rfl),d]
 refine I.write (x:=p) (e:=p) (by rw[h];trivial) (.inl rfl) (λb u j q=>(qY _ _ (bu j)).trans q) ⟨_,e⟩ ?_;exact(⟨g,br a c r e⟩)
def OL:V->V->V->Hp->(Hp->Prop)->Prop:=λo i v H Q=>∃p xs k j,o=.ref p/\i=.int k/\H p=some (.aR xs)/\Ie xs.length k=some j/\Q (aX H p (.aR (xs.set j v)))
theorem set_list:Qt X OL:=by
 intro O s σ H o i v C iv u Q I y z x h;refine hO h λp xs k j a b f B q=>?_;subst a b;cases y;refine aA z λt a=>?_;subst a;refine aF (I.aR f) λits n r c A=>?_;refine cE (y8 B) λh1 w=>fb w λh2 l g=>?_;have d:=r.length;have D:=vH;have m:Inv X O σ (aX H p (.aR (xs.set j v))) { s with heap:=s.heap.update p (Obj.mapSeq (·.setIfInBounds j u)) }:=
  I.Nj f c (CZ its n j u) (r.set x j) (by rw[List.length_set];exact A) s.toks
 by_cases h0:0<=k
 ·have e:k.toNat=j:=by
   rw[seqIndex_of h0 g]at h1;exact bN h1
  exact PySem.W.ki_setAt c h0 (by omega) (by rw[cS,<-d];exact g) (by rw[e];exact(aa m q))
 ·have e:(k+(its.toArray.size:Int)).toNat=j:=by
   rw[seqIndex_neg (by omega) l]at h1;rw[cS,<-d];exact bN h1
  exact PySem.W.ki_setBack c (by omega) (by rw[cS,<-d];exact l) (by omega) (by rw[e];exact(aa m q))
theorem yg(lo hi:Option Int)(n:Nat):(sliceBounds lo hi none n).1=((HT.zI n 0 lo:Nat):Int)/\(sliceBounds lo hi none n).2.1=((HT.zI n n hi:Nat):Int)/\(sliceBounds lo hi none n).2.2=1:=by
 refine(cO ?_ ?_ rfl)
 ·cases lo with
  | none=>simp[sliceBounds,HT.zI]
  | some i=>
   simp only[sliceBounds,HT.zI,Option.getD_none,show(1:Int)>0 by decide,dh]
   by_cases h:i<0
   ·simp only[h,dh] <;> omega
   ·simp only[h,cx] <;> omega
 ·cases hi with
  | none=>simp[sliceBounds,HT.zI]
  | some i=>
   simp only[sliceBounds,HT.zI,Option.getD_none,show(1:Int)>0 by decide,dh]
   by_cases h:i<0
   ·simp only[h,dh] <;> omega
   ·simp only[h,cx] <;> omega
theorem wG(its:List Value)(lo hi:Option Int):slicePick its.toArray lo hi none=((its.drop (HT.zI its.length 0 lo)).take (HT.zI its.length its.length hi-HT.zI its.length 0 lo)).toArray:=by
 refine fb (yg lo hi its.toArray.size) λh1 h2 a=>?_;unfold slicePick;rw[h1,h2,a];simp only[sliceRange_one,pick_run,cS] <;> rfl
def RW(K:PySem.W.Frag):V->Option Int->Option Int->Hp->VK->Prop:=λx lo hi H Q=>∃a xs,x=.ref a/\dM K H a xs/\∀p,H p=none->Q (.ref p) (aX H p (.aR (B4 xs lo hi)))
theorem D0:T9 X (RW X.K):=by
 intro O s σ H x v m l lo hi sl Q I f k pl g h;refine aF h λa xs d j q=>?_;subst d;cases f;refine aH (I.list j) λits r e i=>?_;have c:=r.length;refine(aO ("list") _ slot_list_getitem.lookup e.isList.typeIs ?_);refine wpAny_getItem_list_slice e.isList k pl g .none (by simp) ?_ (by rw[cS] <;> omega);rw[wG,<-c];refine(aO (.ref s.heap.objs.size) _ (I.laid (t':=s.toks) (o:=.aR (B4 xs lo hi)) (λb p q=>bT _ q) (a0 _) ?_) rfl <| q _ (I.dS.fresh (a0 _)));exact(⟨fG (B3 xs lo hi) i,br _ 0 ((r.drop (HT.zI xs.length 0 lo)).take (HT.zI xs.length xs.length hi-HT.zI xs.length 0 lo)) <| cu _ rfl⟩)
def tH:V->Bool
 | .gH=>true
 | .bl _=>true
 | .int _=>true
 | .str _=>true
 | _=>false
noncomputable def LJ:V->V->Bool
 | .gH,.gH=>true
 | .bl a,.bl b=>a==b
 | .bl a,.int b=>(if a then 1 else 0)==b
 | .int a,.bl b=>a==(if b then 1 else 0)
 | .int a,.int b=>a==b
 | .str a,.str b=>a==b
 | _,_=>false
theorem NH(f:bY y u)(d:bY x v)(h:tH y=true)(g:tH x=true):SeqAt.EqAt A s u v (LJ y x):=by
 cases y with
 | gH=>
  cases f;cases x with
  | gH=>cases d;exact SeqAt.EqAt.same _
  | bl b=>cases d;exact SeqAt.EqAt.none_bool b
  | int b=>refine aA d λt c=>?_;subst c;exact SeqAt.EqAt.none_int b t
  | str b=>refine aA d λt c=>?_;subst c;exact SeqAt.EqAt.none_str b t
  | _=>exact absurd (show false=true from g) b'
 | bl a=>
  cases f;cases x with
  | gH=>cases d;exact SeqAt.EqAt.bool_none a
  | bl b=>cases d;exact SeqAt.EqAt.bool_bool a b
  | int b=>refine aA d λt c=>?_;subst c;exact SeqAt.EqAt.bool_int a b t
  | str b=>refine aA d λt c=>?_;subst c;exact SeqAt.EqAt.bool_str a b t
  | _=>exact absurd (show false=true from g) b'
 | int a=>
  refine aA f λe c=>?_;subst c;cases x with
  | gH=>cases d;exact SeqAt.EqAt.int_none a e
  | bl b=>cases d;exact SeqAt.EqAt.int_bool a e b
  | int b=>refine aA d λt c=>?_;subst c;exact SeqAt.EqAt.int_int a e b t
  | str b=>refine aA d λt c=>?_;subst c;exact SeqAt.EqAt.int_str a e b t
  | _=>exact absurd (show false=true from g) b'
 | str a=>
  refine aA f λe c=>?_;subst c;cases x with
  | gH=>cases d;exact SeqAt.EqAt.str_none a e
  | bl b=>cases d;exact SeqAt.EqAt.str_bool a e b
  | int b=>refine aA d λt c=>?_;subst c;exact SeqAt.EqAt.str_int a e b t
  | str b=>refine aA d λt c=>?_;subst c;exact SeqAt.EqAt.str_str a e b t
  | _=>exact absurd (show false=true from g) b'
 | _=>exact absurd (show false=true from h) b'
def KI(x:V)(u:Value):Bool:=match u with
 | .none=>LJ .gH x
 | .bool b=>LJ (.bl b) x
 | .int i _=>LJ (.int i) x
 | .str z _=>LJ (.str z) x
 | _=>false
theorem IG(r:bY y u)(f:tH y=true):KI x u=LJ y x:=by
 cases y with
 | gH=>cases r;rfl
 | bl b=>cases r;rfl
 | int i=>refine aA r λt a=>?_;subst a;rfl
 | str z=>refine aA r λt a=>?_;subst a;rfl
 | _=>exact absurd (show false=true from f) b'
theorem zC{x:V}:∀{xs:List V} {us:List Value},Vals xs us->xs.all tH=true->us.any (KI x)=xs.any λy=>LJ y x
 | _,_,.nil,_=>rfl
 | y::xs,u::us,.cons r t,f=>by
  rw[jO,c5]at f;rw[jP,jP,IG r f.1,zC t f.2]
theorem vz{A:Around}{s:Shared}{x:V}{v:Value}(b:bY x v)(c:tH x=true):∀{xs:List V} {us:List Value},Vals xs us->xs.all tH=true->∀u∈us,SeqAt.EqAt A s u v (KI x u)
 | _,_,.nil,_=>λu a=>by cases a
 | y::xs,u::us,.cons r t,f=>λd a=>by
  rw[jO,c5]at f;rcases aY.1 a with rfl | a
  ·rw[IG r f.1];exact NH r b f.1 c
  ·exact vz b c t f.2 d a
def QJ(x:V)(xs:List V):Bool:=xs.any λy=>LJ y x
def Tg(K:PySem.W.Frag)(a:Bool):R2:=λx y H Q=>∃p xs,y=.ref p/\(dM K H p xs\/dU K H p xs)/\tH x=true/\xs.all tH=true/\Q (.bl (if a then !QJ x xs else QJ x xs)) H
theorem yK:pX X (compareOp .NotIn) (Tg X.K true):=by
 intro O s σ H x y v u Q I c f h;refine e_ h λp xs b a d e=>cE e λfs q=>?_;subst b;cases f;rcases a with a | a
 ·refine aH (I.list a) λits r pl g=>?_;refine SeqAt.notIn_listAt (KI x) pl.isList (λw hw=>vz c d r fs w (by simpa using hw)) (aO (.bl _) H I rfl ?_);rw[show its.toArray.any (KI x)=its.any (KI x) by simp,zC r fs];exact q
 ·refine aH (I.tuple a) λits r pl g=>?_;refine SeqAt.notIn_tupleAt (KI x) pl (λw hw=>vz c d r fs w (by simpa using hw)) (aO (.bl _) H I rfl ?_);rw[show its.toArray.any (KI x)=its.any (KI x) by simp,zC r fs];exact q
theorem dP:se X (.builtin "len") (λxs H Q=>∃p ys,xs=[.ref p]/\(dM X.K H p ys\/dU X.K H p ys)/\Q (.int ys.length) H):=by
 intro O s σ H xs us Q I r h;refine aF h λp ys b c q=>?_;subst b;refine ae (vals1 r) λu b e=>?_;subst b;cases e;have g:=vH;rcases c with c | c
 ·refine aH (I.list c) λits d pl f=>?_;have a:=d.length;exact Calls.call_len_list pl.isList (by simp only[cS] <;> omega) (aO (.int ys.length) H (I.tok _) ⟨s.toks+1,by rw[cS,a]⟩ q)
 ·refine aH (I.tuple c) λits d pl f=>?_;have a:=d.length;exact len_tuple pl (by simp only[cS] <;> omega) (aO (.int ys.length) H (I.tok _) ⟨s.toks+1,by rw[cS,a]⟩ q)
def Rp(K:PySem.W.Frag)(T:String)(x:V)(H:Hp):Prop:=match x with
 | .str _=>T="str"
 | .int _=>T="int"
 | .ref p=>(T="list"/\∃xs,dM K H p xs)\/(T="tuple"/\∃o,K.lookup p=some o/\o.cls=.type "tuple"/\o.dict=none)\/
   (T="dict"/\((∃cH,H p=some (.dK cH))\/∃cH,H p=some (.dT cH)))\/(T="set"/\∃S n,H p=some (.set S n))
 | _=>False
theorem L5{T:String}(I:Inv X O σ H s)(r:bY x v)(ty:Rp X.K T x H):
  s.TypeIs v T/\∀a,v=.ref a->∃j,s.heap.get? a=some j/\j.dict=none:=by
 cases x with
 | str z=>
  refine aA r λt f=>?_;subst f;cases(show T="str" from ty);exact⟨typeIs_str s z t,λ_ e=>nomatch e⟩
 | int i=>
  refine aA r λt f=>?_;subst f;cases(show T="int" from ty);exact⟨typeIs_int s i t,λ_ e=>nomatch e⟩
 | ref p=>
  cases r;rcases ty with⟨rfl,xs,k⟩ | ⟨rfl,o,d,hc,g⟩ | ⟨rfl,d⟩ | ⟨rfl,S,n,d⟩
  ·refine aH (I.list k) λits _ pl _=>?_;refine⟨pl.isList.typeIs,λa e=>?_⟩;cases e;refine e_ pl λo n e c g _=>?_;exact(ab o e g)
  ·refine⟨(ab o (I.Cm p o d) hc),λa e=>?_⟩;cases e;exact(ab o (I.Cm _ o d) g)
  ·have z:∃o,s.heap.get? p=some o/\o.ExactDict:=by
    rcases d with⟨cH,d⟩ | ⟨cH,d⟩
    ·refine fb (I.dS p _ d) λ_ _ b=>ae b λ_ _ b=>aN b λo _ b=>aH b λ_ e ex _=>?_;exact(ab o e ex)
    ·refine fb (I.dS p _ d) λ_ _ b=>ae b λ_ _ b=>aN b λo _ b=>aH b λ_ e ex _=>?_;exact(ab o e ex)
   refine ae z λo e ex=>?_;refine⟨(ab o e ex.1),λa h=>?_⟩;cases h;exact(ab o e ex.2.1)
  ·refine aN (I.dS p _ d) λo _ b=>aF b λ_ _ e ex _=>?_;refine⟨(ab o e ex.1),λa h=>?_⟩;cases h;exact(ab o e ex.2.1)
 | _=>exact False.elim ty
def Te(K:PySem.W.Frag)(T:String)(r:V->List V->Hp->VK->Prop)(to:TE)(t:TA):TE:=fun σ H Q=>to σ H λx H1=>Rp K T x H1/\t σ H1 λxs H2=>r x xs H2 Q
variable{o e:Expr}{es:List Expr}{to:TE}{t:TA}{name:Str}{iF jk:Pos}{T id:String}{r:V->List V->Hp->VK->Prop}
theorem kK(u:PlainAttrs T)(slot:Slot T name id)(g:typeOf (.builtin id)=pure (.type "method_descriptor"))(z:Xv X id r)(y:PE X o to)(A:PA X (e::es) t)(c:attributeBase o name X.env (eval o X.env)=eval o X.env:=by rfl)
  (d:((backTo jk (starEach (e::es) X.env)).all (λx=>!x.1)&&(backToKw jk (keywordEach [] X.env)).all (λx=>x.1.isSome)
   &&decide ((e::es).length+([]:List Keyword).length+(if ([]:List Keyword).isEmpty then 0 else 1)<30))=true:=by rfl)
  (b:(iF.endLine==jk.line)=true:=by rfl) (w:starEach (e::es) X.env=(false,eval e X.env)::starEach es X.env:=by rfl) (a:(backTo jk (starEach es X.env)).any (·.1)=false:=by rfl) :
  PE X (.Call (.Attribute o name iF) (e::es) [] jk) (Te X.K T r to t):=by
 intro O s σ H Q I h;refine wpAny_Call_method_late c d b rfl (dY (y O s σ H _ I h) λv m f=>e_ f λx H1 k i ty q=>?_);refine cE (L5 k i ty) λh1 h2=>?_;refine⟨T,id,u,slot,g,h1,h2,?_⟩;have j:=A jk O m σ H1 _ k q;rw[w]at j ⊢;refine qX (by show(false || (backTo jk (starEach es X.env)).any (·.1))=false;rw[a] <;> rfl) (qP ?_);exact dY j λus l f=>aF f λvs H2 B n p=>z O l σ H2 x vs v us Q B i n p
end
def S7(X:Cx)(id:String)(r:V->List V->Hp->VK->Prop):Prop:=
 ∀O s σ H x xs v us Q,Inv X O σ H s->bY x v->Vals xs us->r x xs H Q->
  wpAny (model X.prog X.w) X.A (call (.builtin id) (v::us)) (EP X O σ Q) X.xe s
theorem Vals.one:∀{x:V} {us:List Value},Vals [x] us->∃u,us=[u]/\bY x u
 | _,_,.cons r .nil=>(aa rfl r)
section
variable{X:Cx}{O:List (Addr×Obj)}{σ:St}{H:Hp}{s:Shared}{l b:Addr}{xs ys zs:List V}
theorem Inv.sH{its':List Value}{f:Array Value->Array Value}{t':Nat}(I:Inv X O σ H s)(h:H l=some (.aR xs))(e:s.heap.get? l=some { cls:=.type "list",data:=.seq its.toArray n })(d:f its.toArray=its'.toArray)(b:Vals ys its')(a:ys.length<=sizeLine):
  Inv X O σ (aX H l (.aR ys)) { s with heap:=s.heap.update l (Obj.mapSeq f),toks:=t' }:=by
 have q:=PySem.IsL.update e f;rw[d]at q;refine I.write (x:=l) (e:=l) (by rw[h];exact trivial) (.inl rfl) (λi u g c=>(qY s.heap (Obj.mapSeq f) (bu g)).trans c) ⟨_,q⟩ ?_;exact(⟨a,br its' _ b q⟩)
theorem Inv.HR{t':Nat}(I:Inv X O σ H s)(b:Vals ys its)(a:ys.length<=sizeLine):
  Inv X O σ (aX H s.heap.objs.size (.aR ys)) { s with heap:=s.heap.push { cls:=.type "list",data:=.seq its.toArray },toks:=t' }:=
 I.laid (λ_ _ q=>bT _ q) (a0 _) (⟨a,br its 0 b <| cu _ rfl⟩)
theorem Inv.fresh(I:Inv X O σ H s):H s.heap.objs.size=none:=I.dS.fresh (a0 _)
theorem Inv.nV(I:Inv X O σ H s)(b:H l=some (.aR xs)):xs.length<=sizeLine/\∃its n,Vals xs its/\xs.length=its.length/\s.heap.get? l=some { cls:=.type "list",data:=.seq its.toArray n }:=by
 refine cE (I.dS l _ b) λz a=>bI a λits n r e=>?_;exact(⟨z,aO its n r r.length e⟩)
theorem Bj(h:n<=sizeLine):Builtin.List.listTooLong n=false:=by
 unfold Builtin.List.listTooLong;exact di (by omega)
end
section
variable{X:Cx}
def yq:V->List V->Hp->VK->Prop:=λx vs H Q=>∃l xs y,x=.ref l/\vs=[y]/\H l=some (.aR xs)/\xs.length<sizeLine/\Q .gH (aX H l (.aR (xs++[y])))
theorem fV:S7 X "list.append" yq:=by
 intro O s σ H x vs v us Q I g i h;refine aN h λl xs b=>dG b λy a c f k q=>?_;subst a c;cases g;refine ae i.one λu a j=>?_;subst a;refine cE (I.nV f) λz b=>aF b λits n r m e=>?_;refine call_meets F.slot_list_append (aa e rfl) F.entry_list_append (F.args_list_append_2 _ _) (PySem.list_append l its.toArray n u (by rw[cS];omega)) ⟨e,?_⟩;refine(aO (.gH) _ (I.sH (its':=its++[u]) f e (by simp) (r.append (.cons j .nil)) ?_) rfl q);rw[dC,zV];omega
def JW:V->List V->Hp->VK->Prop:=λx vs H Q=>∃l b xs zs,x=.ref l/\vs=[.ref b]/\H l=some (.aR xs)/\H b=some (.aR zs)/\xs.length+zs.length<=sizeLine/\Q .gH (aX H l (.aR (xs++zs)))
theorem xq:S7 X "list.extend" JW:=by
 intro O s σ H x vs v us Q I m o h;refine hO h λl b xs zs c g k A f=>cE f λD q=>?_;subst c g;cases m;refine ae o.one λu c p=>?_;subst c;cases p;refine cE (I.nV k) λz f=>aF f λits n r E e=>?_;refine cE (I.nV A) λC f=>aF f λa w t y B=>?_;have i:its.toArray.size+a.toArray.size<=sizeLine:=by rw[cS,cS];omega
 have d:¬(!its.toArray.isEmpty&&Builtin.List.listTooLong (its.toArray.size+a.toArray.size))=true:=by
  rw[Bj i,i4];exact b'
 refine call_meets F.slot_list_extend (aa e rfl) F.entry_list_extend (F.args_list_extend_2 _ _)
  (AutoSeq1.list_extend_list_list_0 l its.toArray n b a.toArray w d (by rw[cS];omega) (by omega)) (cO e B ?_)
 refine(aO (.gH) _ (I.sH (its':=its++a) k e (by simp) (r.append t) ?_) rfl q);rw[dC];omega
end
theorem Vals.SX:∀{a:List Bool} {us:List Value},Vals (a.map V.bl) us->us=a.map Value.bool
 | [],us,h=>by
  rw[i2]at h;cases h;rfl
 | b::a,us,h=>by
  rw[bw]at h;cases h with
  | cons r t=>
   cases r;rw[Vals.SX t,bw]
theorem Vals.OJ{us:List Value}(r:Vals [V.ref a] us):us=[Value.ref a]:=by
 cases r with
 | cons r t=>
  cases t;cases r;rfl
theorem BC{prog:Program}{w:World}{A:Around}{E:Value->Shared->Prop}{l:Addr}{b:Array Value}{Q:Value->Shared->Prop}(d:s.heap.IsList l b)
  (h:∀a:Shared,a={ s with heap:=s.heap.push { cls:=.type "list_iterator",data:=.fields #[.ref l,.int 0 0] } }->
   (a.heap.IsListIter s.heap.objs.size l 0/\a.heap.IsList l b)->l≠s.heap.objs.size->Q (.ref s.heap.objs.size) a):wpAny (model prog w) A (pyIter (.ref l)) Q E s:=by
 have c:l<s.heap.objs.size:=by refine ae d λ_ e _=>?_;exact bo e
 exact uc d (h _ rfl ⟨(cz (cu _ rfl) rfl rfl),d.push _⟩ (b8 c))
theorem tf{d:List Bool}(e:its=d.map Value.bool):
  TruthOf prog w A (λi v=>its.toArray[i]?=some v) (λi=>d.getD i false):=λi v s Q E g h=>by
 have a:its[i]?=some v:=by simpa using g
 rw[e,gw]at a;refine ae (z8.1 a) λb k f=>?_;subst f;have j:d.getD i false=b:=by rw[pY,k] <;> rfl
 have c:Q (d.getD i false) s:=h;rw[j]at c;exact gU c
theorem any_range:∀a:List Bool,(List.range a.length).any (λi=>a.getD i false)=a.any id
 | []=>rfl
 | b::a=>by
  rw[dj,z7,jP,List.any_map,jP,<-any_range a]
  all_goals rfl
theorem all_range:∀a:List Bool,(List.range a.length).all (λi=>a.getD i false)=a.all id
 | []=>rfl
 | b::a=>by
  rw[dj,z7,jO,List.all_map,jO,<-all_range a]
  all_goals rfl
section
variable{X:Cx}
def RY(K:PySem.W.Frag):List V->Hp->VK->Prop:=λvs H Q=>∃(a:Addr) (b:List Bool),vs=[V.ref a]/\dM K H a (b.map V.bl)/\Q (.bl (b.any id)) H
def RZ(K:PySem.W.Frag):List V->Hp->VK->Prop:=λvs H Q=>∃(a:Addr) (b:List Bool),vs=[V.ref a]/\dM K H a (b.map V.bl)/\Q (.bl (b.all id)) H
theorem NO(hc:X.calm=true):se X (.builtin "any") (RY X.K):=by
 intro O s σ H vs us Q I r h;refine aF h λa u d k q=>?_;subst d;refine aH (I.list k) λits j l _=>?_;rw[Vals.OJ r];have g:=j.SX;refine call_any_walk (BC l.isList λf n st e=>?_);subst n;refine⟨_,_,_,_,_,_,_,rfl,Walks.list (A:=X.A.in1) (I.ok.hd hc) _ a e its.toArray,st,tf g,λh' t m=>?_⟩;refine(aO (.bl _) H (I.kept λb o i=>m b o (λc=>?_) (bT _ i)) ?_ q)
 ·rcases aY.1 c with p | c
  ·exact absurd (p▸bo i) (h8 _)
  ·cases c
 ·show Value.bool _=Value.bool _;rw[<-any_range,g,cS,aZ]
theorem IQ(hc:X.calm=true):se X (.builtin "all") (RZ X.K):=by
 intro O s σ H vs us Q I r h;refine aF h λa u d k q=>?_;subst d;refine aH (I.list k) λits j l _=>?_;rw[Vals.OJ r];have g:=j.SX;refine call_all_walk (BC l.isList λf n st e=>?_);subst n;refine⟨_,_,_,_,_,_,_,rfl,Walks.list (A:=X.A.in1) (I.ok.hd hc) _ a e its.toArray,st,tf g,λh' t m=>?_⟩;refine(aO (.bl _) H (I.kept λb o i=>m b o (λc=>?_) (bT _ i)) ?_ q)
 ·rcases aY.1 c with p | c
  ·exact absurd (p▸bo i) (h8 _)
  ·cases c
 ·show Value.bool _=Value.bool _;rw[<-all_range,g,cS,aZ]
end
mutual
inductive Dp (K:PySem.W.Frag) (H:Hp):V->PyData->Prop
 | gH:Dp K H .gH .none
 | bl (b:Bool):Dp K H (.bl b) (.bool b)
 | int (i:Int):Dp K H (.int i) (.int i)
 | str (x:Str):Dp K H (.str x) (.str x)
 | aR {a:Addr} {xs:List V} {ds:List PyData}:dM K H a xs->x6 K H xs ds->Dp K H (.ref a) (.list ds)
 | bG {a:Addr} {xs:List V} {ds:List PyData}:dU K H a xs->x6 K H xs ds->Dp K H (.ref a) (.tuple ds)
inductive x6 (K:PySem.W.Frag) (H:Hp):List V->List PyData->Prop
 | nil:x6 K H [] []
 | cons {v:V} {vs:List V} {d:PyData} {ds:List PyData}:Dp K H v d->x6 K H vs ds->x6 K H (v::vs) (d::ds)
end
section
variable{X:Cx}{O:List (Addr×Obj)}{σ:St}{H:Hp}{s:Shared}
mutual
theorem Dp.reads (I:Inv X O σ H s):∀d v u,Dp X.K H v d->bY v u->∃as,Reads s.heap u d as
 | .none,_,_,h,r=>by
  cases h
  cases r
  exact⟨_,Reads.none⟩
 | .bool b,_,_,h,r=>by
  cases h
  cases r
  exact⟨_,Reads.bool b⟩
 | .int i,_,_,h,r=>by
  cases h
  refine aA r λt a=>?_;subst a
  exact⟨_,Reads.int i t⟩
 | .str x,_,_,h,r=>by
  cases h
  refine aA r λt a=>?_;subst a
  exact⟨_,Reads.str x t⟩
 | .list ds,_,_,h,r=>by
  cases h with
  | aR e k=>
   cases r
   obtain⟨its,c,⟨o,n,g,hc,_,j⟩,_⟩:=I.list e
   refine aA (Dp.readsAll I ds _ its k c) λas f=>?_
   exact⟨_,Reads.list g hc j f⟩
 | .tuple ds,_,_,h,r=>by
  cases h with
  | bG e k=>
   cases r
   obtain⟨its,c,⟨o,g,hc,n,j⟩,_⟩:=I.tuple e
   refine aA (Dp.readsAll I ds _ its k c) λas f=>?_
   exact⟨_,Reads.tuple g hc j f⟩
 | .dict _,_,_,h,_=>by cases h
theorem Dp.readsAll (I:Inv X O σ H s):∀ds vs us,x6 X.K H vs ds->Vals vs us->∃as,ReadsAll s.heap us ds as
 | [],_,_,h,r=>by
  cases h
  cases r
  exact⟨_,ReadsAll.nil⟩
 | d::ds,_,_,h,r=>by
  cases h with
  | cons h1 h2=>
   cases r with
   | cons m l=>
    refine aA (Dp.reads I d _ _ h1 m) λas q=>?_
    refine aA (Dp.readsAll I ds _ _ h2 l) λw p=>?_
    exact⟨_,ReadsAll.cons q p⟩
end
end
section
variable{X:Cx}
def RX(K:PySem.W.Frag):R2:=λx y H Q=>∃d e,Dp K H x d/\Dp K H y e/\SeqAt.shaped d=true/\SeqAt.shaped e=true/\Q (.bl (PyData.eqv d e)) H
def OM(K:PySem.W.Frag):R2:=λx y H Q=>∃d e,Dp K H x d/\Dp K H y e/\SeqAt.shaped d=true/\SeqAt.shaped e=true/\Q (.bl (!PyData.eqv d e)) H
theorem MY(k:X.A.units+64<cLine):pX X (compareOp .Eq) (RX X.K):=by
 intro O s σ H x y v u Q I g f h;refine e_ h λd e m l c a=>cE a λb q=>?_;refine aA (Dp.reads I d x v m g) λo j=>?_;refine aA (Dp.reads I e y u l f) λn i=>?_;exact SeqAt.compareEq_shaped j i c b k (aO (.bl _) H I rfl q)
theorem Hz(k:X.A.units+64<cLine):pX X (compareOp .NotEq) (OM X.K):=by
 intro O s σ H x y v u Q I g f h;refine e_ h λd e m l c a=>cE a λb q=>?_;refine aA (Dp.reads I d x v m g) λo j=>?_;refine aA (Dp.reads I e y u l f) λn i=>?_;exact SeqAt.compareNe_shaped j i c b k (aO (.bl _) H I rfl q)
end
abbrev Jl(h:Heap)(c:Addr)(v:Option Value):Prop:=h.IsCell c v
noncomputable def RV(I a:Scope):Scope:=
 { I with names:=I.names.map λ(n,k)=>if (k==.free&&a.kind==.function&&a.names.lookup n==some .cell) then (n,.cell) else (n,k) }
noncomputable def dO(cells:List (Str×Addr)):List (Str×NameKind)->List (Str×Addr)->List (Str×Addr)
 | [],acc=>acc
 | (n,k)::r,acc=>if k==.free then dO cells r ((n,(cells.lookup n).getD 0)::acc) else dO cells r acc
theorem r6(env:Env)(f:Str×NameKind->List (Str×Addr)->Sem (ForInStep (List (Str×Addr))))(i:∀n k c,f (n,k) c=if k==.free then (do let a <-cellOf env n;pure (.yield ((n,a)::c))) else pure (.yield c)):
  ∀names b,(∀y∈names,y.2=.free->∃c,env.cells.lookup y.1=some c)->forIn names b f=pure (dO env.cells names b)
 | [],b,_=>by rw[qv];rfl
 | (n,k)::r,b,h=>by
  rw[jS,i];have g:=λb=>r6 env f i r b λy j=>h y (cN _ j);unfold dO
  by_cases d:(k==NameKind.free)=true
  ·rw[ak d,ak d];refine aA (h (n,k) iU (by simpa using d)) λc hc=>?_;have e:cellOf env n=pure c:=by unfold cellOf;rw[hc]
   rw[e];have l:(env.cells.lookup n).getD 0=c:=by rw[hc];rfl
   rw[l];exact g _
  ·rw[ai d,ai d];exact g _
theorem Du(h:∀y∈I.names,y.2=.free->∃c,env.cells.lookup y.1=some c):closureFor I env=pure (dO env.cells I.names []):=by
 simp only[closureFor];rw[r6 env _ (λn k c=>rfl) I.names [] h];rfl
theorem mem_lookup{α:Type}:∀{l:List (Str×α)} {n:Str} {c:α},(n,c)∈l->∃b,l.lookup n=some b
 | (k,v)::r,n,c,h=>by
  rw[jV];cases a:n==k with
  | true=>exact⟨_,rfl⟩
  | false=>
   rcases aY.1 h with e | h
   ·cases e;simp at a
   ·exact mem_lookup h
theorem kR{a:List (Str×Addr)}:∀{names:List (Str×NameKind)} {b:List (Str×Addr)} {n:Str} {c:Addr},(n,c)∈dO a names b->(n,c)∈b\/((n,.free)∈names/\c=(a.lookup n).getD 0)
 | [],_,_,_,h=>.inl h
 | (m,k)::r,b,n,c,h=>by
  unfold dO at h;split at h
  ·rename_i d;have d:k=.free:=by simpa using d
   rcases kR h with h | ⟨h1,h2⟩
   ·rcases aY.1 h with e | h
    ·cases e;exact .inr ⟨d▸iU,rfl⟩
    ·exact .inl h
   ·exact .inr ⟨cN _ h1,h2⟩
  ·rcases kR h with h | ⟨h1,h2⟩
   ·exact .inl h
   ·exact .inr ⟨cN _ h1,h2⟩
theorem ov{a:List (Str×Addr)}:∀{names:List (Str×NameKind)} {b:List (Str×Addr)} {p:Str×Addr},p∈b->p∈dO a names b
 | [],_,_,h=>h
 | (m,k)::r,b,p,h=>by
  unfold dO;split
  ·exact ov (cN _ h)
  ·exact ov h
theorem ou{cells:List (Str×Addr)}:∀{names:List (Str×NameKind)} {acc:List (Str×Addr)} {n:Str},(n,.free)∈names->(n,(cells.lookup n).getD 0)∈dO cells names acc
 | (m,k)::r,acc,n,h=>by
  unfold dO;rcases aY.1 h with e | h
  ·cases e;exact ov iU
  ·split
   ·exact ou h
   ·exact ou h
theorem l7:∀{names:List (Str×NameKind)} {h:Heap} {acc:List (Str×Addr)} {x:Str} {c:Addr},(x,c)∈cellsFrom h.objs.size names acc->
  (x,c)∈acc\/((x,.cell)∈names/\h.objs.size<=c/\Jl (pushCells h names) c none)
 | [],_,_,_,_,h=>.inl h
 | (n,k)::r,h,acc,x,c,hm=>by
  unfold cellsFrom at hm;unfold pushCells;split at hm
  ·rename_i a;rw[ak a];have a:k=.cell:=by simpa using a
   rw[<-f7 h { cls:=.type "cell",data:=.cell none }]at hm;rcases l7 hm with hm | ⟨h1,h2,b⟩
   ·rcases aY.1 hm with e | hm
    ·cases e;exact .inr (cO (a▸iU) (a0 _) <| aa (qp r _ _ _ (cu _ rfl)) rfl)
    ·exact .inl hm
   ·rw[f7]at h2;exact .inr (cO (cN _ h1) (qN h2) b)
  ·rename_i a;rw[ai a];rcases l7 hm with hm | ⟨h1,h2,b⟩
   ·exact .inl hm
   ·exact .inr (cO (cN _ h1) h2 b)
theorem oS:∀{names:List (Str×NameKind)} {n:Nat} {acc:List (Str×Addr)} {p:Str×Addr},p∈acc->p∈cellsFrom n names acc
 | [],_,_,_,h=>h
 | (m,k)::r,n,acc,p,h=>by
  unfold cellsFrom;split
  ·exact oS (cN _ h)
  ·exact oS h
theorem sV:∀{names:List (Str×NameKind)} {n:Nat} {acc:List (Str×Addr)} {x:Str},(x,.cell)∈names->∃c,(x,c)∈cellsFrom n names acc
 | (m,k)::r,n,acc,x,h=>by
  unfold cellsFrom;rcases aY.1 h with e | h
  ·cases e;exact⟨n,oS iU⟩
  ·split
   ·exact sV h
   ·exact sV h
theorem sU:∀{names:List (Str×NameKind)} {h:Heap} {d:List (Str×Addr)} {x y:Str} {c:Addr},(∀p∈d,p.2<h.objs.size)->(∀x y c,(x,c)∈d->(y,c)∈d->x=y)->
  (x,c)∈cellsFrom h.objs.size names d->(y,c)∈cellsFrom h.objs.size names d->x=y
 | [],_,_,_,_,_,_,hi,h1,h2=>hi _ _ _ h1 h2
 | (n,k)::r,h,d,x,y,c,f,hi,h1,h2=>by
  unfold cellsFrom at h1 h2;split at h1
  ·rename_i i;rw[ak i]at h2;rw[<-f7 h { cls:=.type "cell",data:=.cell none }]at h1 h2;refine sU (h:=h.push _) (λp g=>?_) (λx y c a b=>?_) h1 h2
   ·rw[f7];rcases aY.1 g with rfl | g
    ·exact ky _
    ·exact m6 (f p g)
   ·rcases aY.1 a with e | a <;> rcases aY.1 b with j | b
    ·cases e;cases j;rfl
    ·cases e;exact absurd (f _ b) (h8 _)
    ·cases j;exact absurd (f _ a) (h8 _)
    ·exact hi _ _ _ a b
  ·rename_i i;rw[ai i]at h2;exact sU f hi h1 h2
theorem Bm{M:Model}{A:Around}{E:Value->Shared->Prop}{globals:Addr}{a:List (Str×Addr)}{qual:Str}{e:Option Addr}{code:Value}{d:Env}{b:Addr}{Q:Env->Shared->Prop}
  (h:Q (newEnv I s.heap.objs.size globals (cellsFrom (s.heap.objs.size+1) I.names a) qual e code (some d) b)
   { s with heap:=pushCells (s.heap.push { cls:=.type "dict",data:=.dict #[] }) I.names }) :
  wpAny M A (newFunctionEnv I globals a [] qual e code (some d) b) Q E s:=by
 simp only[newFunctionEnv,Option.isSome_some,dh];refine ag (wpAny_alloc ?_);refine ag (wpAny_layCells _ (λn k c=>rfl) I.names a _ _ ?_);rw[show({ s with heap:=s.heap.push { cls:=.type "dict",data:=.dict #[] } }:Shared).heap.objs.size=s.heap.objs.size+1 from f7 ..];rw[qv];exact ag (au (au h))
theorem nW{b:Scope}:∀{names:List (Str×NameKind)} {x:Str} {k:NameKind},
  (names.map λ(n,k)=>if (k==NameKind.free&&b.kind==.function&&b.names.lookup n==some .cell) then (n,NameKind.cell) else (n,k)).lookup x=some k->
  ∃d,names.lookup x=some d/\(k=d\/(d=.free/\k=.cell))
 | [],_,_,h=>by simp at h
 | (n,a)::r,x,k,h=>by
  have e:=@nW b r x k;have h':List.lookup x ((if (a==NameKind.free&&b.kind==.function&&b.names.lookup n==some .cell)=true then (n,NameKind.cell) else (n,a))::(r.map _))=some k:=h;cases c:x==n with
  | true=>
   simp only[jV,c]
   by_cases hc:(a==NameKind.free&&b.kind==.function&&b.names.lookup n==some .cell)=true
   ·rw[ak hc]at h';simp only[jV,c]at h';cases h';simp only[c5,gu]at hc;exact(ab a rfl <| .inr ⟨hc.1.1,rfl⟩)
   ·rw[ai hc]at h';simp only[jV,c]at h';cases h';exact(aa rfl <| .inl rfl)
  | false=>
   simp only[jV,c]
   by_cases hc:(a==NameKind.free&&b.kind==.function&&b.names.lookup n==some .cell)=true
   ·rw[ak hc]at h';simp only[jV,c]at h';exact e h'
   ·rw[ai hc]at h';simp only[jV,c]at h';exact e h'
structure Ci(N:List Str)(sc I:Scope)(own:List (Str×Nat)):Prop where
 kind:I.kind=.function
 uniq:∀y∈I.names,I.names.lookup y.1=some y.2
 ix:∀p∈own,N[p.2]?=some p.1
 free:∀y∈I.names,y.2=.free->sc.names.lookup y.1=some .cell\/sc.names.lookup y.1=some .free
 own:∀y∈I.names,y.2=.local\/y.2=.cell->y.1∈own.map (·.1)\/y.1∉N
noncomputable def gX(σ:St):List Nat->St
 | []=>σ
 | v::vs=>(gX σ vs).set v none
theorem nD(σ:St):∀vs:List Nat,(gX σ vs).length=σ.length
 | []=>rfl
 | v::vs=>by unfold gX;rw[List.length_set,nD σ vs]
theorem so{σ:St}{i:Nat}{x:V}:∀{vs:List Nat},(gX σ vs)[i]?=some (some x)->σ[i]?=some (some x)/\i∉vs
 | [],h=>⟨h,by simp⟩
 | v::vs,h=>by
  unfold gX at h
  by_cases hi:v=i
  ·subst hi
   by_cases a:v<(gX σ vs).length
   ·rw[uJ a]at h;cases h
   ·rw[List.getElem?_eq_none (by simpa using a)]at h;cases h
  ·rw[uD hi]at h;refine cE (so h) λh1 h2=>?_;exact⟨h1,by simp only[aY,not_or];exact⟨λe=>hi e.symm,h2⟩⟩
abbrev Cx.zy(X:Cx)(s:Shared)(H:Hp)(I:Scope)(a:Env)(fp:List Addr):Cx:={ X with vb:=s,LZ:=H,env:=a,dF:=X.stack,ex:=fp,fn:=λx=>I.names.lookup x==some .cell,pn:=[],xe:=λ_ _=>False }
section
variable{X:Cx}{O:List (Addr×Obj)}{σ:St}{H:Hp}{s:Shared}
theorem B9{fp:List Addr}(d:Inv X O σ H s)(B:Ci X.N X.env.scope I own)(hN:X.N.Nodup)(t:∀b∈fp,wz X O H b/\b<s.heap.objs.size):
  Inv (X.zy s H I (compEnvC I (cellsFrom (s.heap.objs.size+1) I.names (dO X.env.cells I.names [])) s.heap.objs.size X.env) fp) [] (gX σ (own.map (·.2))) H { s with heap:=pushCells (s.heap.push { cls:=.type "dict",data:=.dict #[] }) I.names }:=by
 have N:∀y∈I.names,y.2=.free->∃c,X.env.cells.lookup y.1=some c:=λy x e=>by
  rcases B.free y x e with k | k
  ·exact d.ok.has _ (.inl k)
  ·exact d.ok.has _ (.inr k)
 generalize g:compEnvC I (cellsFrom (s.heap.objs.size+1) I.names (dO X.env.cells I.names [])) s.heap.objs.size X.env=f;have T:∀b o,s.heap.get? b=some o->(pushCells (s.heap.push { cls:=.type "dict",data:=.dict #[] }) I.names).get? b=some o:=λb o e=>qp _ _ _ _ (bT _ e);have V:f.locals=s.heap.objs.size:=by rw[<-g];rfl
 have h:f.cells=cellsFrom (s.heap.objs.size+1) I.names (dO X.env.cells I.names []):=by rw[<-g];rfl
 have K:f.scope=RV I X.env.scope:=by rw[<-g];rfl
 rw[<-f7 s.heap { cls:=.type "dict",data:=.dict #[] }]at h;have S:∀{y c},(y,c)∈dO X.env.cells I.names []->X.env.cells.lookup y=some c/\c<s.heap.objs.size:=fun{y c} l=>by
  rcases kR l with l | ⟨h1,rfl⟩
  ·cases l
  ·refine aA (N _ h1 rfl) λc hc=>?_;rw[hc];refine aA (d.cell _ _ hc) λw z=>?_;exact⟨rfl,z.lt⟩
 have J:∀{y c},f.cells.lookup y=some c->(X.env.cells.lookup y=some c/\c<s.heap.objs.size)\/(s.heap.objs.size+1<=c/\Jl (pushCells (s.heap.push { cls:=.type "dict",data:=.dict #[] }) I.names) c none):=fun{y c} e=>by
  rw[h]at e;rcases l7 (eH e) with l | ⟨_,h2,h3⟩
  ·exact .inl (S l)
  ·rw[f7]at h2;exact .inr ⟨h2,h3⟩
 have C:∀{y},I.names.lookup y=some .free->∃c,f.cells.lookup y=some c/\X.env.cells.lookup y=some c:=fun{y} U=>by
  have x:(y,NameKind.free)∈I.names:=eH U;refine aA (mem_lookup (oS (names:=I.names) (n:=(s.heap.push { cls:=.type "dict",data:=.dict #[] }).objs.size) (ou (cells:=X.env.cells) (acc:=[]) x))) λW u=>?_;rw[<-h]at u;refine(ab W u ?_);rw[h]at u;rcases l7 (eH u) with l | ⟨h1,_,_⟩
  ·exact(S l).1
  ·have:=B.uniq _ h1;rw[U]at this;cases this
 have Y:(X.zy s H I f fp).Ok:=by
  refine⟨d.ok.mod,by show f.scope.kind=_;rw[K];exact B.kind,by show f.globals=_;rw[<-g];exact d.ok.glob,by show f.builtins=_;rw[<-g];exact d.ok.blt,by show s.heap.objs.size<=f.locals;rw[V];exact a0 _,
   λy z c G F=>?_,λy x=>?_,λy c z e=>?_,d.ok.hd,d.ok.frames,.inl rfl,λb E=>⟨?_,λy c e z=>?_⟩,d.bs,fG d.ok.Dz d.sz,λb o e E=>?_,λb E z=>?_,d.stack,d.DV⟩
  ·have G:f.cells.lookup y=some c:=G;have F:f.cells.lookup z=some c:=F;rw[h]at G F;refine sU (λp P=>?_) (λy z c a b=>d.ok.inj y z c (S a).1 (S b).1) (eH G) (eH F);rw[f7];exact m6 (S (y:=p.1) (c:=p.2) P).2
  ·show ∃c,f.cells.lookup y=some c;have j:∀k,f.kindOf y=some k->(k=.cell\/k=.free)->∃c,f.cells.lookup y=some c:=λk M L=>by
    unfold Env.kindOf at M;rw[K]at M;refine ae (nW M) λD e r=>?_;have:D=.cell\/D=.free:=by
     rcases r with rfl | ⟨rfl,_⟩
     ·exact L
     ·exact .inr rfl
    rcases this with rfl | rfl
    ·refine aA (sV (n:=(s.heap.push { cls:=.type "dict",data:=.dict #[] }).objs.size) (acc:=dO X.env.cells I.names []) (eH e)) λc l=>?_;refine aA (mem_lookup l) λW u=>?_;exact⟨W,by rw[h];exact u⟩
    ·refine ae (C e) λc h1 _=>?_;exact⟨c,h1⟩
   rcases x with x | x
   ·exact j _ x (.inl rfl)
   ·exact j _ x (.inr rfl)
  ·have z:(I.names.lookup y==some NameKind.cell)=true:=z;have z:I.names.lookup y=some .cell:=by simpa using z
   have e:f.cells.lookup y=some c:=e;rw[h]at e;rcases l7 (eH e) with l | ⟨_,h2,_⟩
   ·rcases kR l with l | ⟨h1,_⟩
    ·cases l
    ·have q:=B.uniq _ h1;rw[z]at q;cases q
   ·rw[f7]at h2;exact qN h2
  ·show b≠f.locals;rw[V];exact b8 (t b E).2
  ·have e:f.cells.lookup y=some c:=e;rcases J e with⟨h1,_⟩ | ⟨h1,_⟩
   ·exact(t b E).1.2.2.2.2.1 y c h1 z
   ·have h2:s.heap.objs.size+1<=b:=by rw[<-z];exact h1
    exact absurd (cK (t b E).2 (qN h2)) (h8 _)
  ·rcases(t b E).1.2.2.2.1 with z | z
   ·exact d.ok.yM b o e z
   ·exact absurd (cK (bo e) (fG d.ok.Dz z)) (h8 _)
  ·rcases aY.1 (d.Cs b z) with z | z
   ·exact(t b E).1.2.1 z
   ·exact(t b E).1.2.2.1 z
 refine⟨Y,rfl,d.bare,Un.kept T,(ab (λ_=>none) ?_ <| λi y av G F v=>?_),λy c e=>?_,?_,λy c e=>?_,λp P=>?_,d.dS.kept T,by rw[nD];exact d.len⟩
 ·show Heap.Ns _ f.locals _;rw[V];exact Heap.Ns.keeps (Heap.Ns.new ..) λb o e=>qp _ _ _ _ e
 ·refine cE (so F) λF QN=>?_;have A:I.names.lookup y=some .free/\(f.kindOf y=some .cell\/f.kindOf y=some .free):=by
   have j:∀k,f.scope.names.lookup y=some k->k=.local\/k=.cell\/k=.free->I.names.lookup y=some .free/\(f.kindOf y=some .cell\/f.kindOf y=some .free):=λk M L=>by
    have R:=M;rw[K]at M;refine ae (nW M) λD e r=>?_;have no:¬(D=.local\/D=.cell):=λhh=>by
     rcases B.own _ (eH e) hh with u | u
     ·refine ae (aw.1 u) λp P Z=>?_;have v:=B.ix p P;have:p.1=y:=Z;rw[this]at v;exact QN (aw.2 (ab p P <| vt hN v G))
     ·exact u (bP G)
    rcases r with rfl | ⟨rfl,rfl⟩
    ·rcases L with rfl | rfl | rfl
     ·exact absurd (.inl rfl) no
     ·exact absurd (.inr rfl) no
     ·exact⟨e,.inr R⟩
    ·exact⟨e,.inl R⟩
   have v:Oc f.scope y:=v;rcases v with v | v | v
   ·exact j _ v (.inl rfl)
   ·exact j _ v (.inr (.inl rfl))
   ·exact j _ v (.inr (.inr rfl))
  refine ae d.loc λm hn U=>?_;have Q:Oc X.env.scope y:=(B.free _ (eH A.1) rfl).elim (λk=>.inr (.inl k)) (λk=>.inr (.inr k));refine ae (U i y av G F Q) λw r q=>?_;refine(ab w r <| .inr ⟨A.2,?_⟩);refine ae (C A.1) λc h1 h2=>?_;rcases q with⟨k,_⟩ | ⟨_,W,u,z⟩
  ·have k:X.env.scope.names.lookup y=some .local:=k;rcases B.free _ (eH A.1) rfl with D | D <;> rw[show X.env.scope.names.lookup y=_ from D]at k <;> cases k
  ·rw[h2]at u;cases u;exact(ab c h1 <| z.keeps T)
 ·have e:f.cells.lookup y=some c:=e;rcases J e with⟨h1,_⟩ | ⟨_,z⟩
  ·refine aA (d.cell y c h1) λw z=>?_;exact⟨w,z.keeps T⟩
  ·exact⟨_,z⟩
 ·show H f.locals=none;rw[V];exact d.dS.fresh (a0 _)
 ·have e:f.cells.lookup y=some c:=e;rcases J e with⟨h1,_⟩ | ⟨h1,_⟩
  ·exact d.iA y c h1
  ·exact d.dS.fresh (qN h1)
 ·exact absurd (show p∈([]:List (Addr×Obj))++[] from P) (by simp)
theorem NT(I:Inv X O σ H s)(d:H D=some (.aR xs))(j:xs.length<sizeLine)(r:bY y v)(h:∀s',Inv X O σ (aX H D (.aR (xs++[y]))) s'->Q .none s'):wpAny (model X.prog X.w) X.A (call (.builtin "list.append") [.ref D,v]) Q E s:=by
 refine cE (I.dS D _ d) λi f=>bI f λits n c e=>?_;have o:=c.length;refine append_at (hsz:=by rw[cS];omega) e λh' g a=>?_;refine h { s with heap:=h' } (I.write (t':=s.toks) (by rw[d];trivial) (.inl rfl) (λb u l q=>(g.2 b l).trans q) ⟨_,a⟩ (⟨by rw[dC];exact j,br (its++[v]) (n+1) (c.append (.cons r .nil)) ?_⟩));rw[a];simp
def Qs(X:Cx)(ifs:List Expr)(t:TT):Prop:=
 ∀O s σ H Q,Inv X O σ H s->t σ H Q->
  wpAny (model X.prog X.w) X.A (forIn ifs true λc r=>if r=true then do let a <-isTrue c X.env (eval c X.env);pure (ForInStep.yield a) else pure (ForInStep.yield r)) (TP X O σ Q) X.xe s
def JA:TT:=λ_ H Q=>Q true H
theorem yx:Qs X [] JA:=λ_ _ _ H _ I h=>wpAny_tests_nil (ab H I h)
theorem yw{c:Expr}{t:TT}(h:PT X c t):Qs X [c] t:=λO s σ H Q I hw=>wpAny_tests_one (h O s σ H Q I hw)
end
theorem EX{t:Sem α}{Q b:α->Shared->Prop}{M:Model}(h:wpAny M A t Q (λ_ _=>False) s)(c:∀a s,Q a s->b a s):wpAny M A t b E s:=d7 h c λ_ _ z=>False.elim z
theorem zq{R:Result->Shared->Prop}{b:Expr}{B q:Value}(a:Nat->Shared->Prop)
  (turn:∀n s,a n s->wpAny (model prog w) A (pyNext B) (λr g=>match r with
   | none=>R (.ok .next) g
   | some v=>wpAny (model prog w) A (letOwnedTupleGo b B v) (λ_ f=>wpAny (model prog w) A (assign b env v) (λ_ k=>
     wpAny (model prog w) A (forIn ifs true λc r=>if r=true then do let t <-isTrue c env (eval c env);pure (ForInStep.yield t) else pure (ForInStep.yield r)) (λt d=>
      if t=true then wpAny (model prog w) A (eval elt env) (λx j=>
       wpAny (model prog w) A (call (.builtin "list.append") [q,x]) (λ_ i=>∃m,m<n/\a m i) (notedBy (model prog w) A env λe s'=>R (.error e) s') j) (notedBy (model prog w) A env λe s'=>R (.error e) s') d
      else ∃m,m<n/\a m d) (notedBy (model prog w) A env λe s'=>R (.error e) s') k) (notedBy (model prog w) A env λe s'=>R (.error e) s') f) (notedBy (model prog w) A env λe s'=>R (.error e) s') g) (notedBy (model prog w) A env λe s'=>R (.error e) s') s)
  (n:Nat) (h:a n s) :
  codeAny (model prog w) A (.compLoop (.ListComp elt [⟨b,iter,ifs,0⟩] I pos) 0 B q env) R s:=by
 refine codeAny_loop rfl a (λn s C=>?_) n h;show wpAny _ A ((compTurn (.ListComp elt [⟨b,iter,ifs,0⟩] I pos) 0 B q env).onRaise (λx=>do noteFrame x env;theTreesLotGoes x)) _ _ s;refine wpAny_noted ?_;rw[compTurn_list];refine ag (wpAny_standAt (ag (d7 (turn n s C) (λr g o=>?_) λ_ _ h'=>h')));cases r with
 | none=>exact au o
 | some v=>
  refine ag (d7 o (λ_ f p=>?_) λ_ _ h'=>h');refine ag (d7 p (λ_ k z=>ag (d7 z (λt d l=>?_) λ_ _ h'=>h')) λ_ _ h'=>h');cases t with
  | false=>exact au ⟨rfl,l⟩
  | true=>
   exact ag (ag (d7 l (λx j y=>ag (d7 y (λ_ i u=>au (au ⟨rfl,u⟩)) λ_ _ h'=>h')) λ_ _ h'=>h'))
section
variable{X:Cx}
def QC(wi:TI)(g:TG)(tt:TT)(te:TE)(vs:List Nat):TE:=fun σ H Q=>wi σ H λJ H1=>∀D,H1 D=none->∃W:Nat->Nat->Hp->Prop,(∃m,W 0 m (aX H1 D (.aR [])))/\∀i m H,W i m H->
 (J.stop i H/\Q (.ref D) H)\/(J.go i H/\∃d:Hp->Prop,(∀H',d H'->∃e,e<m/\W (i+1) e H')/\∀x H',J.Ju i H x H'->g x (gX σ vs) H' λa H2=>gX a vs=gX σ vs/\tt a H2 λb h=>
  if b=true then te a h λy f=>∃c,f D=some (.aR c)/\c.length<sizeLine/\d (aX f D (.aR (c++[y]))) else d h)
theorem Ep{Q:VK}{pos':Pos}{use:Option (Value->Sem Unit)}{Qf:Value->Shared->Prop}(hc:X.calm=true)(hN:X.N.Nodup)(a:Inv X O σ H s)(hi:PI X tg iter wi)(ok:Ci X.N X.env.scope I own)(hg:∀s H C cl fp,PG (X.zy s H I (compEnvC I cl C X.env) fp) tg g)(ht:∀s H C cl fp,Qs (X.zy s H I (compEnvC I cl C X.env) fp) ifs tt)(he:∀s H C cl fp,PE (X.zy s H I (compEnvC I cl C X.env) fp) elt te)(hs:∀x,foldedSetIterable iter X.env x=pure x)(h:QC wi g tt te (own.map (·.2)) σ H Q)(Wg:∀D C s' m H',Inv X O σ H' s'->Q (.ref D) H'->s'.heap.Ns C m->wz X O H' C->compPost (model X.prog X.w) X.A X.xe use Qf (.ref D) C (.ok .next) s'):
  wpAny (model X.prog X.w) X.A (comprehension (.ListComp elt [⟨tg,iter,ifs,0⟩] I pos) I X.env pos' (newList []) false (eval iter X.env) use) Qf X.xe s:=by
 have K:∀y∈I.names,y.2=.free->∃c,X.env.cells.lookup y.1=some c:=λy hy e=>by
  rcases ok.free y hy e with k | k
  ·exact a.ok.has _ (.inl k)
  ·exact a.ok.has _ (.inr k)
 refine wpAny_comprehension_free (use:=use) rfl hs (Du K) ok.kind (λy hy e=>by rw[ok.uniq y hy,e])
  (dY (hi O s σ H _ a h) λxv s1 hx=>dY hx λVe N h2=>?_)
 refine e9 h2 λit fp tn J H2 l=>sj l λe I2 T Z f2 q=>?_;subst e;refine jz (Bm ?_) (by show 0<=sizeLine;decide);generalize hD:N.heap.objs.size=D;have Wt:H2 D=none:=I2.dS.fresh (qj hD);obtain⟨W,⟨m0,w0⟩,turn⟩:=q D Wt;generalize Tw:({ N with heap:=N.heap.push { cls:=.type "list",data:=.seq ([]:List Value).toArray } }:Shared)=d;have I3:Inv X O σ (aX H2 D (.aR [])) d:=by
  rw[<-Tw];refine I2.laid (t':=N.toks) (λb o e=>bT _ e) (qj hD) (⟨bZ _,br [] 0 (.nil) ?_⟩);rw[<-hD];exact cu _ rfl
 have h3:d.heap=N.heap.push { cls:=.type "list",data:=.seq ([]:List Value).toArray }:=by rw[<-Tw]
 have sz:∀b∈fp,b<N.heap.objs.size:=λb f=>by
  refine ae (T.obj _ _ Z b f) λo e _=>?_;exact bo e
 have L:∀b∈fp,wz X O (aX H2 D (.aR [])) b/\b<d.heap.objs.size:=λb f=>by
  have QO:=sz b f;refine⟨⟨?_,(f2 b f).2⟩,by rw[h3,f7];exact m6 QO⟩;rw[ao (by rw[<-hD];exact b8 QO)];exact(f2 b f).1
 have Ut:tn 0 d.heap:=T.keep _ _ _ Z λb _ o e=>by rw[h3];exact bT _ e
 have I4:=B9 I3 ok hN L;have pg:=hg d (aX H2 D (.aR [])) d.heap.objs.size (cellsFrom (d.heap.objs.size+1) I.names (dO X.env.cells I.names [])) fp;have pt:=ht d (aX H2 D (.aR [])) d.heap.objs.size (cellsFrom (d.heap.objs.size+1) I.names (dO X.env.cells I.names [])) fp;have pe:=he d (aX H2 D (.aR [])) d.heap.objs.size (cellsFrom (d.heap.objs.size+1) I.names (dO X.env.cells I.names [])) fp;show codeAny _ _ (.compStart (.ListComp elt [⟨tg,iter,ifs,0⟩] I pos) 0 (.ref it) (.ref D) (compEnvC I (cellsFrom (d.heap.objs.size+1) I.names (dO X.env.cells I.names [])) d.heap.objs.size X.env)) (compPost (model X.prog X.w) X.A X.xe use Qf (.ref D) d.heap.objs.size) { d with heap:=pushCells (d.heap.push { cls:=.type "dict",data:=.dict #[] }) I.names };have Tq:∀b∈fp,(aX H2 D (.aR [])) b=none:=λb f=>(L b f).1.1;generalize V3:compEnvC I (cellsFrom (d.heap.objs.size+1) I.names (dO X.env.cells I.names [])) d.heap.objs.size X.env=t at I4 pg pt pe ⊢;have cL:t.locals=d.heap.objs.size:=by subst V3;rfl
 generalize Wr:aX H2 D (.aR [])=B at I3 I4 pg pt pe w0 Tq L;generalize Vz:({ d with heap:=pushCells (d.heap.push { cls:=.type "dict",data:=.dict #[] }) I.names }:Shared)=s4 at I4 ⊢;have Y:tn 0 s4.heap:=T.keep _ _ _ Ut λb _ o e=>by rw[<-Vz];exact qp _ _ _ _ (bT _ e)
 have w:∀{U:St} {H':Hp} {s':Shared},Inv (X.zy d B I t fp) [] U H' s'->(∀b∈fp,H' b=none)->∀b∈fp,wz (X.zy d B I t fp) [] H' b:=fun{U H' s'} S P b f=>
  ⟨P b f,(S.ok.LH b f).1,S.ok.zh b f,.inl f,λx c e=>(S.ok.LH b f).2 x c e,λp hp=>absurd (show p∈([]:List (Addr×Obj))++[] from hp) (by simp)⟩
 have F:codeAny (model X.prog X.w) X.A (.compLoop (.ListComp elt [⟨tg,iter,ifs,0⟩] I pos) 0 (.ref it) (.ref D) t) (compPost (model X.prog X.w) X.A X.xe use Qf (.ref D) d.heap.objs.size) s4:=by
  refine zq (λn s'=>∃i H',Inv (X.zy d B I t fp) [] (gX σ (own.map (·.2))) H' s'/\tn i s'.heap/\(∀b∈fp,H' b=none)/\W i n H') ?_ m0 (eK 0 B I4 Y Tq w0);rintro n s5 ⟨i,M,I5,V,n5,w5⟩;rcases turn i n M w5 with⟨stop,qq⟩ | ⟨go,Nx,Wj,step⟩
  ·have td:=T.done (X.zy d B I t fp) rfl rfl rfl hc i [] s5 _ M (λ_ _=>False) I5 (w I5 n5) V stop;refine EX td λr s6 l=>cE l λhr R=>?_;subst hr;have I7:Inv X O σ M s6:=I3.Ql (ch:=fp) R.os R.base R.dS R.bare λb f=>(oX ((L b f).1.2.2.2.1) ((L b f).1.2.1) ((L b f).1.2.2.2.2.1) <| (L b f).1.2.2.2.2.2)
   have nC:M d.heap.objs.size=none:=by
    have z:M t.locals=none:=R.free;rw[cL]at z;exact z
   refine ae R.loc λm P _=>?_;have P:s6.heap.Ns t.locals m:=P;rw[cL]at P;exact Wg D d.heap.objs.size s6 m M I7 qq P (I3.KD (a0 _) nC)
  ·have ti:=T.item (X.zy d B I t fp) rfl rfl rfl hc i [] s5 _ M (λ_ _=>False) I5 (w I5 n5) V go;refine EX ti λr s6 l=>ae l λu hr h6=>?_;subst hr;refine EX h6 λ_ s7 l=>e_ l λx H7 I7 r7 y7 l=>cE l λG n7=>?_;have Xx:=I7.pinned (w I7 n7) (T.obj _ _ G);refine EX (pg _ s7 _ H7 x u _ Xx r7 (step x H7 y7)) λ_ s8 l=>aF l λA H8 I8 Tv q8=>?_;refine EX (pt _ s8 A H8 _ I8 q8) λb s9 l=>ae l λH9 I9 q9=>?_;have fin:∀{s':Shared} {H':Hp},Inv (X.zy d B I t fp) ([]++vh fp s7.heap) A H' s'->Nx H'->∃m,m<n/\∃i H',Inv (X.zy d B I t fp) [] (gX σ (own.map (·.2))) H' s'/\tn i s'.heap/\(∀b∈fp,H' b=none)/\W i m H':=fun{s' H'} S nx=>by
    refine ae (Wj H' nx) λm' hm w'=>?_;have E:∀b∈fp,∀o,s7.heap.get? b=some o->s'.heap.get? b=some o/\H' b=none:=λb f o e=>
     let z:=S.pin (b,o) (iV _ (iV _ (pJ f e)))
     ⟨z.1,z.2.1⟩
    have hl:(gX σ (own.map (·.2))).length=A.length:=by rw[<-Tv,nD]
    refine(ab m' hm <| eK (i+1) H' ((S.rn (O:=[])).weak hl (λj v e=>?_)) (T.keep _ _ _ G λb f o e=>(E b f o e).1) (λb f=>?_) w')
    ·rw[<-Tv]at e;exact(so e).1
    ·refine ae (T.obj _ _ G b f) λo e _=>?_;exact(E b f o e).2
   cases b with
   | false=>
    simp only[fc,cx]at q9 ⊢;exact fin I9 q9
   | true=>
    simp only[dh]at q9 ⊢;refine EX (pe _ s9 A H9 _ I9 q9) λz X3 l=>aF l λyv Y4 Xz UJ l=>aH l λacc Su Sb nx=>?_;exact NT (X:=X.zy d B I t fp) Xz Su Sb UJ λX2 Xy=>fin Xy nx
 exact codeAny_compStart_list F (T.self X.A 0 _ _ _ Y F)
theorem A_(hc:X.calm=true)(t:X.N.Nodup)(hi:PI X tg iter wi)(i:Ci X.N X.env.scope I own)(n:∀s H C c fp,PG (X.zy s H I (compEnvC I c C X.env) fp) tg g)(j:∀s H C c fp,Qs (X.zy s H I (compEnvC I c C X.env) fp) ifs tt)(p:∀s H C c fp,PE (X.zy s H I (compEnvC I c C X.env) fp) elt te)(k:∀x,foldedSetIterable iter X.env x=pure x:=by intro _;rfl):
  PE X (.ListComp elt [⟨tg,iter,ifs,0⟩] I pos) (QC wi g tt te (own.map (·.2))):=by
 intro O s σ H Q a h;rw[eval_ListComp];refine Ep hc t a hi i n j p k h λD C s' m H' B q l f=>(ab m l <| λu d=>?_)
 refine sj f λA z F y w v=>?_;exact(aO (.ref D) H' (B.turned (t':=s'.toks) (λb o r e=>(d.2 b r).trans e) A z y w v) rfl q)
theorem Hh{y:Str}{l:Pos}{d:Pos}(hc:X.calm=true)(t:X.N.Nodup)(G:X.N[i]?=some y)(j:X.env.scope.names.lookup y=some .local)(p:swapsWith (.ListComp elt [⟨tg,iter,ifs,0⟩] I pos) (some (.Name y l)) d.line X.env=pure true)(hi:PI X tg iter wi)(F:Ci X.N X.env.scope I own)(P:∀s H C k fp,PG (X.zy s H I (compEnvC I k C X.env) fp) tg g)(J:∀s H C k fp,Qs (X.zy s H I (compEnvC I k C X.env) fp) ifs tt)(Q:∀s H C k fp,PE (X.zy s H I (compEnvC I k C X.env) fp) elt te)(K:∀x,foldedSetIterable iter X.env x=pure x:=by intro _;rfl):
  PS X (.Assign [.Name y l] (.ListComp elt [⟨tg,iter,ifs,0⟩] I pos) d) (Mb (QC wi g tt te (own.map (·.2))) (Ew i)):=by
 intro O s σ H D c h;rw[exec_Assign_Name_used _ _ _ _ p];refine ag (wpAny_standAt (ag ?_));show wpAny _ X.A (do let _ <-comprehension (.ListComp elt [⟨tg,iter,ifs,0⟩] I pos) I X.env (firstIterPos [⟨tg,iter,ifs,0⟩] pos) (newList []) false (eval iter X.env) (some (assign (.Name y l) X.env))) _ _ s;have h:QC wi g tt te (own.map (·.2)) σ H (λx H1=>Ew i x σ H1 D.nx):=h;refine ag (dY (Ep (Qf:=λ_ s'=>SP X O D .next s') hc t c hi F P J Q K h λL C s' m H' Z q N f=>?_) λ_ s' M=>au (au M));show wpAny _ _ (assign (.Name y l) X.env (.ref L)) _ _ _;refine wpAny_assign_Name (wX (v:=V.ref L) Z t G (.inl j) rfl (λE Y A=>ae A λa B S=>?_) (.inr j));refine sj f λW w f2 U u T=>?_;have r:C≠a:=by
  rcases S with z | z
  ·rw[z];exact w
  ·exact λe=>u y a z e.symm
 refine(ab m (N.sameBut B r) <| λh3 n=>?_);exact(br _ H' (Y.turned (t':=E.toks) (λb o R e=>(n.2 b R).trans e) W w U u T) q)
theorem JC{b:List Comprehension}{a:Pos}{y:Str}{l:Nat}(f:env.scope.kind=.function)(d:env.scope.names.lookup y=some .local)(e:(a.line==pos.line)=true)(h:(I.names.any λ(n,k)=>n==y&&(k==.local || k==.cell))=false):swapsWith (.ListComp elt b I pos) (some (.Name y a)) l env=pure true:=by
 have c:env.kindOf y=some .local:=d;have g:env.blockKind=.function:=by unfold Env.blockKind;rw[f];rfl
 unfold swapsWith;simp only[g,c,h,show(Expr.ListComp elt b I pos).pos=pos from rfl,e];rfl
end
theorem Ib{lo:Int}{vs:List Nat}{H1:Hp}{l:Hp->Prop}(Pv:Nat->Hp->Prop)(h0:Pv 0 (aX H1 D (.aR [])))
  (q:∀i H,i<n->Pv i H->g (.int (lo+i)) (gX σ vs) H λa H2=>gX a vs=gX σ vs/\tt a H2 λb h=>
   if b=true then te a h λy f=>∃c,f D=some (.aR c)/\c.length<sizeLine/\Pv (i+1) (aX f D (.aR (c++[y]))) else Pv (i+1) h) (r:∀H,Pv n H->l H) :
  ∃W:Nat->Nat->Hp->Prop,(∃m,W 0 m (aX H1 D (.aR [])))/\∀i m H,W i m H->
   ((Jt lo n).stop i H/\l H)\/((Jt lo n).go i H/\∃j:Hp->Prop,(∀H',j H'->∃k,k<m/\W (i+1) k H')/\∀x H',(Jt lo n).Ju i H x H'->g x (gX σ vs) H' λa H2=>gX a vs=gX σ vs/\tt a H2 λb h=>
    if b=true then te a h λy f=>∃c,f D=some (.aR c)/\c.length<sizeLine/\j (aX f D (.aR (c++[y]))) else j h):=by
 refine(ab (λi m H=>m=n-i/\i<=n/\Pv i H) (a8 n (by simp) (bZ _) h0) ?_);rintro i m H ⟨rfl,hi,p⟩
 by_cases d:i<n
 ·refine .inr (⟨d,ab (Pv (i+1)) (λH' o=>⟨n-(i+1),by omega,rfl,d,o⟩) <| λx H' y=>?_⟩);obtain⟨e,y⟩:=y;subst e y;exact q i _ d p
 ·have e:i=n:=by omega
  subst e;exact .inl ⟨a0 _,r H p⟩
theorem tX{K:PySem.W.Frag}{vs:List Nat}{H1:Hp}{n:Hp->Prop}(Pv:Nat->Hp->Prop)(h0:Pv 0 (aX H1 D (.aR [])))(s:∀i H,i<=xs.length->Pv i H->dM K H a xs)
  (r:∀i x H,xs[i]?=some x->Pv i H->g x (gX σ vs) H λc H2=>gX c vs=gX σ vs/\tt c H2 λb j=>
   if b=true then te c j λy h=>∃d,h D=some (.aR d)/\d.length<sizeLine/\Pv (i+1) (aX h D (.aR (d++[y]))) else Pv (i+1) j) (t:∀H,Pv xs.length H->n H) :
  ∃W:Nat->Nat->Hp->Prop,(∃m,W 0 m (aX H1 D (.aR [])))/\∀i m H,W i m H->
   ((LW K a).stop i H/\n H)\/((LW K a).go i H/\∃k:Hp->Prop,(∀H',k H'->∃l,l<m/\W (i+1) l H')/\∀x H',(LW K a).Ju i H x H'->g x (gX σ vs) H' λc H2=>gX c vs=gX σ vs/\tt c H2 λb j=>
    if b=true then te c j λy h=>∃d,h D=some (.aR d)/\d.length<sizeLine/\k (aX h D (.aR (d++[y]))) else k j):=by
 refine(ab (λi m H=>m=xs.length-i/\i<=xs.length/\Pv i H) (a8 xs.length (by simp) (bZ _) h0) ?_);rintro i m H ⟨rfl,hi,p⟩;have q:=s i H hi p
 by_cases f:i<xs.length
 ·refine .inr (⟨(br xs (xs[i]) q <| by simp[f]),ab (Pv (i+1)) (λH' o=>⟨xs.length-(i+1),by omega,rfl,f,o⟩) <| λx H' y=>?_⟩);refine cE y λe y=>?_;subst e;exact r i x _ (y xs q) p
 ·have e:i=xs.length:=by omega
  subst e;exact .inl ⟨(ab xs q <| a0 _),t H p⟩
noncomputable def Qm(N:List Str)(a I:Scope)(own:List (Str×Nat)):Bool:=
 (match I.kind with | .function=>true | _=>false)&&(I.names.all λy=>decide (I.names.lookup y.1=some y.2))&&(own.all λp=>decide (N[p.2]?=some p.1))&&
  (I.names.all λy=>match y.2 with
   | .free=>(match a.names.lookup y.1 with | some .cell=>true | some .free=>true | _=>false)
   | .local=>decide (y.1∈own.map (·.1)) || decide (y.1∉N)
   | .cell=>decide (y.1∈own.map (·.1)) || decide (y.1∉N)
   | _=>true)
theorem l'{N:List Str}{b:Scope}(h:Qm N b I own=true):Ci N b I own:=by
 unfold Qm at h;simp only[c5,m3,jZ]at h;obtain⟨⟨⟨h1,h2⟩,d⟩,c⟩:=h;refine⟨?_,h2,d,λy a e=>?_,λy a e=>?_⟩
 ·split at h1
  ·assumption
  ·cases h1
 ·have q:=c y a;simp only[e]at q;split at q <;> first | exact .inl (by assumption) | exact .inr (by assumption) | cases q
 ·have q:=c y a;rcases e with e | e <;> (simp only[e,qA,jZ]at q;exact q)
section
variable{κ:Type}[DecidableEq κ]
noncomputable def gz(cH:List (κ×V))(k:κ):Option V:=(cH.find? λa=>decide (a.1=k)).map (·.2)
noncomputable def hW(cH:List (κ×V))(k:κ)(v:V):List (κ×V):=
 if (cH.any λa=>decide (a.1=k))=true then cH.map (λa=>if a.1=k then (a.1,v) else a) else cH++[(k,v)]
theorem Gg{k:κ}:gz ([]:List (κ×V)) k=none:=rfl
theorem fi{p:κ×V}{r:List (κ×V)}{k:κ}(e:p.1=k):gz (p::r) k=some p.2:=by simp[gz,i7,e]
theorem fj{p:κ×V}{r:List (κ×V)}{k:κ}(e:¬p.1=k):gz (p::r) k=gz r k:=by simp[gz,i7,e]
theorem nG(k:κ):∀cH:List (κ×V),(cH.any λa=>decide (a.1=k))=(gz cH k).isSome
 | []=>rfl
 | p::r=>by
  rw[jP]
  by_cases e:p.1=k
  ·simp only[fi e,bE e,Bool.true_or,Option.isSome_some]
  ·rw[fj e,di e,Bool.false_or];exact nG k r
theorem Az(k j:κ)(y:V):∀cH:List (κ×V),gz (cH.map λa=>if a.1=k then (a.1,y) else a) j=(gz cH j).map λx=>if j=k then y else x
 | []=>rfl
 | p::r=>by
  have b:=Az k j y r;rw[bw]
  by_cases h:p.1=k
  ·rw[ak h]
   by_cases e:p.1=j
   ·rw[fi (p:=(p.1,y)) e,fi e,qD,ak (e.symm.trans h)]
   ·rw[fj (p:=(p.1,y)) e,fj e,b]
  ·rw[ai h]
   by_cases e:p.1=j
   ·rw[fi (p:=p) e,fi e,qD,ai (λz=>h (e.trans z))]
   ·rw[fj (p:=p) e,fj e,b]
theorem wV(k j:κ)(y:V):∀cH:List (κ×V),gz cH k=none->gz (cH++[(k,y)]) j=if j=k then some y else gz cH j
 | [],_=>by
  by_cases e:k=j
  ·rw[ak e.symm];exact fi (p:=(k,y)) e
  ·rw[ai (λz=>e z.symm)];exact fj (p:=(k,y)) e
 | p::r,a=>by
  rw[iT];have b:¬p.1=k:=λz=>by rw[fi z]at a;cases a
  rw[fj b]at a;have c:=wV k j y r a
  by_cases e:p.1=j
  ·rw[fi e,fi e,ai (λz=>b (e.trans z))]
  ·rw[fj e,fj e,c]
theorem Gf(cH:List (κ×V))(k j:κ)(y:V):gz (hW cH k y) j=if j=k then some y else gz cH j:=by
 unfold hW
 by_cases a:(cH.any λb=>decide (b.1=k))=true
 ·rw[ak a,Az];rw[nG]at a
  by_cases e:j=k
  ·refine aA (Ah.1 a) λx c=>?_;rw[ak e,e,c,qD,ak rfl]
  ·rw[ai e];cases gz cH j with
   | none=>rfl
   | some x=>rw[qD,ai e]
 ·rw[ai a];refine wV k j y cH ?_;rw[nG]at a;cases q:gz cH k with
  | none=>rfl
  | some x=>rw[q]at a;exact(a rfl).elim
theorem je(cH:List (κ×V))(k:κ)(v:V):(hW cH k v).length<=cH.length+1:=by
 unfold hW;split
 ·rw[aZ];omega
 ·rw[dC,dj,m2];omega
theorem mH.sN{o:Option V}{u:Option Value}(r:mH o u):o.isSome=u.isSome:=by
 cases o with
 | none=>cases u with
  | none=>rfl
  | some _=>exact(show False from r).elim
 | some _=>cases u with
  | none=>exact(show False from r).elim
  | some _=>rfl
theorem mH.getD{o:Option V}{u:Option Value}{d:V}{a:Value}(r:mH o u)(b:bY d a):bY (o.getD d) (u.getD a):=by
 cases o with
 | none=>cases u with
  | none=>exact b
  | some _=>exact(show False from r).elim
 | some _=>cases u with
  | none=>exact(show False from r).elim
  | some _=>exact r
theorem KV.val{cH:List (κ×V)}{vs:List (κ×Value)}(r:KV cH vs)(k:κ):mH (gz cH k) (valueAt vs k):=by
 unfold KV at r
 induction r with
 | nil=>exact True.intro
 | @cons p q ps a h t d=>
  refine cE h λh1 h2=>?_
  by_cases e:p.1=k
  ·have c:q.1=k:=h1.symm.trans e;have b:valueAt (q::a) k=some q.2:=by simp[valueAt,i7,c]
   rw[fi e,b];exact h2
  ·have c:¬q.1=k:=λz=>e (h1.trans z);have b:valueAt (q::a) k=valueAt a k:=by simp[valueAt,i7,c]
   rw[fj e,b];exact d
theorem KV.any{cH:List (κ×V)}{vs:List (κ×Value)}(r:KV cH vs)(k:κ):(cH.any λa=>decide (a.1=k))=vs.any λa=>decide (a.1=k):=by
 unfold KV at r
 induction r with
 | nil=>rfl
 | cons h t b=>rw[jP,jP,b,h.1]
theorem KV.MI{cH:List (κ×V)}{vs:List (κ×Value)}(r:KV cH vs)(k:κ)(b:bY y u):
  KV (cH.map λa=>if a.1=k then (a.1,y) else a) (vs.map λa=>if a.1=k then (a.1,u) else a):=by
 unfold KV at r ⊢
 induction r with
 | nil=>exact .nil
 | @cons p q ps d h t c=>
  rw[bw,bw];refine .cons ?_ c;refine cE h λh1 h2=>?_
  by_cases e:p.1=k
  ·rw[ak e,ak (h1.symm.trans e)];exact⟨h1,b⟩
  ·rw[ai e,ai (λz=>e (h1.trans z))];exact⟨h1,h2⟩
theorem KV.put{cH:List (κ×V)}{vs:List (κ×Value)}(r:KV cH vs)(k:κ)(a:bY y u):KV (hW cH k y) (stored vs k u):=by
 unfold hW stored;rw[r.any k]
 by_cases e:(vs.any λb=>decide (b.1=k))=true
 ·rw[ak e,ak e];exact r.MI k a
 ·rw[ai e,ai e];exact fF r ⟨rfl,a⟩
theorem KV.length{cH:List (κ×V)}{vs:List (κ×Value)}(r:KV cH vs):cH.length=vs.length:=ba r
end
theorem Es{k:Key}(r:bY (kV k) u):(d9 P w).is k u=true:=by
 cases k with
 | inl i=>refine aA (show ∃t,u=Value.int i t from r) λt e=>?_;subst e;exact Bp P w i t
 | inr x=>refine aA (show ∃t,u=Value.str x t from r) λt e=>?_;subst e;exact Bo P w x t
theorem xF{P:Program}{w:World}:∀{a:List Key} {us:List Value},Vals (a.map kV) us->ItemsAre (d9 P w) a us
 | [],_,r=>by rw[i2]at r;cases r;exact .nil
 | k::a,_,r=>by
  rw[bw]at r;cases r with
  | cons h t=>exact .cons (Es h) (xF t)
abbrev KT(H:Hp):List (List Key×V)->List (List Key×Addr×Value)->Prop:=Paired λp q=>p.1=q.1/\H q.2.1=some (.bG (p.1.map kV))/\bY p.2 q.2.2
theorem KT.val{xs:List (List Key×Addr×Value)}(r:KT H cH xs)(k:List Key):mH (gz cH k) ((atKey xs k).map (·.2)):=by
 induction r with
 | nil=>exact True.intro
 | @cons p q ps a h t d=>
  refine fb h λh1 _ h2=>?_
  by_cases e:p.1=k
  ·have c:q.1=k:=h1.symm.trans e;have b:atKey (q::a) k=some q.2:=by simp[atKey,i7,c]
   rw[fi e,b];exact h2
  ·have c:¬q.1=k:=λz=>e (h1.trans z);have b:atKey (q::a) k=atKey a k:=by simp[atKey,i7,c]
   rw[fj e,b];exact d
theorem KT.MI{xs:List (List Key×Addr×Value)}(r:KT H cH xs)(k:List Key)(b:bY y u):
  KT H (cH.map λa=>if a.1=k then (a.1,y) else a) (xs.map (putAt k u)):=by
 induction r with
 | nil=>exact .nil
 | @cons p q ps f h t c=>
  rw[bw,bw];refine .cons ?_ c;refine fb h λh1 h2 d=>?_;unfold putAt
  by_cases e:p.1=k
  ·rw[ak e,ak (h1.symm.trans e)];exact(cO h1 h2 b)
  ·rw[ai e,ai (λz=>e (h1.trans z))];exact(cO h1 h2 d)
theorem KT.put{xs:List (List Key×Addr×Value)}(r:KT H cH xs)(k:List Key)(d:H b=some (.bG (k.map kV)))(a:bY y u):
  KT H (hW cH k y) (storedH xs k b u):=by
 have e:(cH.any λc=>decide (c.1=k))=(atKey xs k).isSome:=by
  rw[nG,(r.val k).sN,uk]
 unfold hW storedH;rw[e]
 by_cases q:(atKey xs k).isSome=true
 ·rw[ak q,ak q];exact r.MI k a
 ·rw[ai q,ai q];exact fF r (cO rfl d a)
theorem KT.keeps{xs:List (List Key×Addr×Value)}(r:KT H cH xs)(a:∀b ys,H b=some (.bG ys)->H' b=some (.bG ys)):KT H' cH xs:=
 Paired.fx r λ_ _ z=>(cO z.1 (a _ _ z.2.1) z.2.2)
section
variable{P:Program}{w:World}{H:Hp}{h:Heap}{a:Addr}
theorem Lo{u:HO}(b:mN P w H h)(e:Rd H a u):dR P w H h a u:=e.ok b
theorem BX{cH:List (Key×V)}(b:mN P w H h)(e:Rd H a (.dK cH)):cH.length<=sizeLine/\(a==sysModules)=false/\∃vs,KV cH vs/\h.DictOf (d9 P w) a vs:=
 show dR P w H h a (.dK cH) from Lo b e
theorem Qj{cH:List (Key×V)}(b:mN P w H h)(e:H a=some (.dK cH)):cH.length<=sizeLine/\(a==sysModules)=false/\∃vs,KV cH vs/\h.DictOf (d9 P w) a vs:=BX b (.inl e)
theorem sM{c:List Key}(d:mN P w H h)(e:H a=some (.bG (c.map kV))):(tupleKind (d9 P w)).is h c a:=by
 refine cE (show dR P w H h a (.bG (c.map kV)) from d a _ e) λ_ b=>ae b λits r b=>aH b λo h1 h2 b=>aA b λn f=>?_;exact(eQ o its.toArray n h1 h2 f <| by simpa using xF r)
theorem BV(c:mN P w H h)(e:Rd H a (.dT cH)):cH.length<=sizeLine/\(a==sysModules)=false/\
  ∃xs,KT H cH xs/\h.DictOfH (tupleKind (d9 P w)) a xs:=by
 refine fb (show dR P w H h a (.dT cH) from Lo c e) λz y b=>ae b λxs r b=>aN b λo es b=>dG b λep h1 h2 j i g=>?_;refine(cO z y <| ab xs r ⟨o,es,ep,h1,h2,j,i,λx hx=>?_,g⟩);have all:∀{l:List (List Key×V)} {m:List (List Key×Addr×Value)},KT H l m->∀x∈m,(tupleKind (d9 P w)).is h x.1 x.2.1:=by
  intro l m q
  induction q with
  | nil=>intro x hx;exact nomatch hx
  | @cons p q ps k d t f=>
   intro x hx;rcases aY.1 hx with e | hx
   ·subst e;exact sM c (by rw[<-d.1];exact d.2.1)
   ·exact f x hx
 exact all r x hx
theorem LK(b:mN P w H h)(e:H a=some (.dT cH)):cH.length<=sizeLine/\(a==sysModules)=false/\
  ∃xs,KT H cH xs/\h.DictOfH (tupleKind (d9 P w)) a xs:=BV b (.inl e)
end
def sX(H:Hp)(a:Addr)(y:V)(r:Option V):Prop:=
 (∃cH k,Rd H a (.dK cH)/\y=kV k/\r=gz cH k)\/∃cH k b,Rd H a (.dT cH)/\y=.ref b/\H b=some (.bG (k.map kV))/\r=gz cH k
def F0(H:Hp)(a:Addr)(y v:V)(H':Hp):Prop:=
 (∃cH k,H a=some (.dK cH)/\y=kV k/\cH.length<sizeLine/\H'=aX H a (.dK (hW cH k v)))\/
 ∃cH k b,H a=some (.dT cH)/\y=.ref b/\H b=some (.bG (k.map kV))/\cH.length<sizeLine/\H'=aX H a (.dT (hW cH k v))
theorem sX.t{k:List Key}(e:H a=some (.dT cH))(c:H b=some (.bG (k.map kV))):sX H a (.ref b) (gz cH k):=.inr (eQ cH k b (.inl e) rfl c rfl)
theorem F0.t{k:List Key}{v:V}(e:H a=some (.dT cH))(d:H b=some (.bG (k.map kV)))(c:cH.length<sizeLine):
  F0 H a (.ref b) v (aX H a (.dT (hW cH k v))):=.inr (fh cH k b e rfl d c rfl)
section
variable{X:Cx}{O:List (Addr×Obj)}{σ:St}{H:Hp}{s:Shared}{a:Addr}{y v:V}{u r:Value}{o:Option V}{A:Around}{E:Value->Shared->Prop}
theorem Inv.big(I:Inv X O σ H s):sysModules<s.heap.objs.size:=by
 have h:mainGlobals<s.heap.objs.size:=(I.mod.glob.keeps I.bk).lt;exact mT (by decide) h
theorem FU(q:A.units+1<cLine)(I:Inv X O σ H s)(g:sX H a y (some v))(n:bY y u)(h:∀f s',Inv X O σ H s'->bY v f->Q f s'):
  wpAny (model X.prog X.w) A (getItem (.ref a) u) Q E s:=by
 rcases g with⟨cH,k,e,m,l⟩ | ⟨cH,k,b,e,m,w,l⟩
 ·subst m;refine fb (BX I.dS e) λz t i=>ae i λvs d dd=>?_;refine ae (mH.some_of (v:=v) (o:=valueAt vs k) (by rw[l];exact d.val k)) λf hw c=>?_;exact wpAny_getItem_of (Es n) dd.mapOf hw (h f _ (I.tok _) c)
 ·subst m;cases(show u=Value.ref b from n);refine fb (BV I.dS e) λz t i=>ae i λxs d dd=>?_;refine ae (mH.some_of (v:=v) (o:=(atKey xs k).map (·.2)) (by rw[l];exact d.val k)) λf hw c=>?_;refine ae (z8.1 hw) λp r j=>?_;refine wpAny_getItem_heap (qI q) (sM I.dS w) dd r ?_;rw[j];exact h f _ (I.tok _) c
theorem oO{h':Heap}{t':Nat}{ob:HO}(I:Inv X O σ H s)(mu:LU (H a))(d:Heap.SameBut a s.heap h')(f:∃q,h'.get? a=some q)(c:dR X.prog X.w (aX H a ob) h' a ob):
  Inv X O σ (aX H a ob) { s with heap:=h',toks:=t' }:=
 I.write (x:=a) (e:=a) mu (.inl rfl) (λb q g z=>(d.2 b g).trans z) f c
theorem zk{h':Heap}{cH:List (Key×V)}{vs:List (Key×Value)}(z:cH.length<=sizeLine)(c:(a==sysModules)=false)(b:KV cH vs)(dd:h'.DictOf (d9 P w) a vs):
  dR P w H' h' a (.dK cH):=(cO z c <| ab vs b dd)
theorem FT{Q:Unit->Shared->Prop}(G:A.units+1<cLine)(I:Inv X O σ H s)(g:F0 H a y v H')(B:bY y u)(C:bY v r)(h:∀s',Inv X O σ H' s'->Q () s'):
  wpAny (model X.prog X.w) A (setItem (.ref a) u r) Q E s:=by
 rcases g with⟨cH,k,e,w,l,x⟩ | ⟨cH,k,b,e,w,F,l,x⟩
 ·subst w x;refine fb (Qj I.dS e) λz t i=>ae i λvs d dd=>?_;have m:vs.length<=sizeLine:=by rw[<-d.length];exact z
  have p:(hW cH k v).length<=sizeLine:=by have:=je cH k v;omega
  refine wpAny_setItem_pairs (hsz:=m) (Es B) dd λh' f o=>h _ ?_;have J:∃q,h'.get? a=some q:=let ⟨q,_,_,j,_⟩:=f;⟨q,j⟩;exact oO I (by rw[e];exact True.intro) o J (zk p t (d.put k C) f)
 ·subst w x;cases(show u=Value.ref b from B);refine fb (LK I.dS e) λz t i=>ae i λxs d dd=>?_;have m:xs.length<=sizeLine:=by rw[<-ba d];exact z
  have p:(hW cH k v).length<=sizeLine:=by have:=je cH k v;omega
  refine wpAny_setItem_heap (hsz:=m) (qI G) (sM I.dS F) dd λh' f o=>h _ ?_;refine aN f λq es i=>dG i λep j h2 M L i=>cE i λ_ K=>?_;refine oO I (by rw[e];exact True.intro) o ⟨q,j⟩ (cO p t <| aa ((d.put k F C).keeps λc ys D=>?_) <| fh q es ep j h2 M L K);rw[ao (a3 D e (λz=>nomatch z))];exact D
end
def Qu(i:Expr):Prop:=∀a iv,subscripted i false a iv=operate [a,iv] (getItem a iv)
theorem JD{value a:Expr}{T id:String}(m:typeLookup (.type T) "__getitem__"=pure (some (.builtin id)))(l:Qu a)(h:wpAny (model prog w) A (eval value env) (λo e=>wpAny (model prog w) A (eval a env) (λi b=>b.TypeIs o T/\wpAny (model prog w) A (getItem o i) Q E b) E e) E s):
  wpAny (model prog w) A (eval (.Subscript value a pos) env) Q E s:=by
 refine Subscript_ (d7 h (λo e j=>d7 j (λi b c=>?_) λ_ _ x=>x) λ_ _ x=>x);refine cE c λk c=>?_;unfold subscriptTail;refine ag ?_;rw[getitemInPython_of_ne k.not_modules];refine ag (lF k m ?_);have f:wpAny (model prog w) A (subscripted a false o i) (λr d=>wpAny (model prog w) A (letTemporaryGo value o r >>= λ_=>pure r) Q E d) E b:=by
  rw[l o i];exact wpAny_operating (d7 c (λr d g=>ag (wpAny_letTemporaryGo (au g))) λ_ _ x=>x)
 first
  | exact au (ag f)
  | exact ag (au (ag f))
  | exact ag f
theorem B1{X:Cx}{o:Option V}(I:Inv X O σ H s)(g:sX H a y o):s.TypeIs (.ref a) "dict":=by
 rcases g with⟨cH,k,e,_,_⟩ | ⟨cH,k,b,e,_,_,_⟩
 ·refine fb (BX I.dS e) λ_ _ c=>ae c λvs _ dd=>?_;exact dd.typeIs
 ·refine fb (BV I.dS e) λ_ _ c=>ae c λxs _ dd=>?_;exact dd.typeIs
def Ov(td ty:TE):TE:=fun σ H Q=>td σ H λx H1=>ty σ H1 λy H2=>∃a v,x=.ref a/\sX H2 a y (some v)/\Q v H2
def OH(td ty tv:TE):TS:=λD σ H=>tv σ H λv H1=>td σ H1 λx H2=>ty σ H2 λy c=>∃a b,x=.ref a/\F0 c a y v b/\D.nx σ b
section
variable{X:Cx}{o i e value:Expr}{pos pos' Rr:Pos}{td ty tv:TE}
theorem mr(m:X.A.units+1<cLine)(p:PE X o td)(hi:PE X i ty)(n:Qu i):PE X (.Subscript o i pos) (Ov td ty):=by
 intro O s σ H Q I h;refine JD PySem.F.slot_dict_getitem.lookup n (dY (p O s σ H _ I h) λu e b=>aF b λx H1 r j l=>dY (hi O e σ H1 _ r l) λiv z b=>aF b λy H2 d f b=>aF b λa v ex g k=>?_);subst ex;obtain rfl:u=Value.ref a:=j;exact⟨B1 d g,FU m d g f λt w q c=>(aO v H2 q c k)⟩
theorem D_(p:X.A.units+1<cLine)(t:PE X o td)(hi:PE X i ty)(n:PE X value tv)(q:swapsWith value (some (.Subscript o i pos')) pos.line X.env=pure false):
  PS X (.Assign [.Subscript o i pos'] value pos) (OH td ty tv):=by
 intro O s σ H D I h;refine wpAny_Assign_Subscript (dY (n O s σ H _ I h) λr d b=>aF b λv H1 B j m=>dY (t O d σ H1 _ B m) λu c b=>aF b λx H2 A f l=>dY (hi O c σ H2 _ A l) λiv F b=>aF b λy G z e b=>aF b λa C ex g k=>?_) q;subst ex;obtain rfl:u=Value.ref a:=f;exact FT p z g e j λE w=>(br σ C w k)
end
theorem IH(h:Heap)(a:sysModules<h.objs.size):dR P w H (h.push { cls:=.type "dict",data:=.dict #[] }) h.objs.size (.dT []):=
 (cO (bZ _) (lQ.2 (bu (b8 a))) <| ab [] (.nil) <| fh _ (#[]) 0 (cu _ rfl) (cO rfl rfl rfl) rfl rfl List.nodup_nil)
def L9:TE:=λ_ H Q=>∀p,H p=none->Q (.ref p) (aX H p (.dT []))
section
variable{X:Cx}{pos:Pos}
theorem vj:PE X (.Dict [] [] pos) L9:=λO s σ H Q I h=>
 wpAny_Dict_empty (aO (.ref s.heap.objs.size) _ (I.laid (a:=s.heap.objs.size) (o:=.dT []) (t':=s.toks) (λ_ _ q=>bT _ q) (a0 _) (IH s.heap I.big)) rfl <| h _ (I.dS.fresh (a0 _)))
end
structure M2(X:Cx)(o:Expr)(m:Str)(iF:Pos)(e f:Expr)(jk:Pos):Prop where
 base:attributeBase o m X.env (eval o X.env)=eval o X.env
 few:((backTo jk (starEach [e,f] X.env)).all (λx=>!x.1)&&(backToKw jk (keywordEach [] X.env)).all (λx=>x.1.isSome)
  &&decide (([e,f]:List Expr).length+([]:List Keyword).length+(if ([]:List Keyword).isEmpty then 0 else 1)<30))=true
 line:(iF.endLine==jk.line)=true
 trees:backTo jk (starEach [e,f] X.env)=[(false,eval e X.env),(false,eval f X.env)]
def S9(H:Hp)(a:Addr):Prop:=(∃cH,Rd H a (.dK cH))\/∃cH,Rd H a (.dT cH)
theorem Ii{X:Cx}(I:Inv X O σ H s)(d:S9 H a):
  s.TypeIs (.ref a) "dict"/\(∀b,Value.ref a=.ref b->∃f,s.heap.get? b=some f/\f.dict=none)/\(a==sysModules)=false:=by
 rcases d with⟨cH,e⟩ | ⟨cH,e⟩
 ·refine fb (BX I.dS e) λ_ g c=>ae c λvs _ dd=>?_;refine(cO dd.typeIs (λb q=>?_) g);cases q;refine aN dd λf _ c=>aH c λ_ h1 h2 _=>?_;exact(ab f h1 h2.2.1)
 ·refine fb (BV I.dS e) λ_ g c=>ae c λxs _ dd=>?_;refine(cO dd.typeIs (λb q=>?_) g);cases q;refine aN dd λf _ c=>aH c λ_ h1 h2 _=>?_;exact(ab f h1 h2.2.1)
section
variable{X:Cx}{O:List (Addr×Obj)}{σ:St}{H:Hp}{s:Shared}{a:Addr}{y d:V}{u r:Value}{o:Option V}{A:Around}{E:Value->Shared->Prop}
theorem NL(q:A.units+1<cLine)(I:Inv X O σ H s)(g:sX H a y o)(n:bY y u)(p:bY d r)(h:∀m s',Inv X O σ H s'->bY (o.getD d) m->Q m s'):
  wpAny (model X.prog X.w) A (call (.builtin "dict.get") [.ref a,u,r]) Q E s:=by
 rcases g with⟨cH,k,e,j,l⟩ | ⟨cH,k,b,e,j,t,l⟩
 ·subst j;refine fb (BX I.dS e) λz i f=>ae f λvs c dd=>?_;refine qe nj dd.typeIs uK (uL _ _ _) (meets_dict_get_default (d9 X.prog X.w) a (Es n) i r) (aa dd.mapOf <| h _ _ (I.tok _) ?_);rw[l];exact(c.val k).getD p
 ·subst j;cases(show u=Value.ref b from n);refine fb (BV I.dS e) λz i f=>ae f λxs c dd=>?_;refine qe nj dd.typeIs uK (uL _ _ _) (meetsH_dict_get_default (tupleKind (d9 X.prog X.w)) a b i r) (⟨qI q,aO k xs (sM I.dS t) dd <| h _ _ (I.tok _) ?_⟩);rw[l];exact(c.val k).getD p
end
def Ma(td ty tx:TE):TE:=fun σ H Q=>td σ H λx H1=>∃a,x=.ref a/\S9 H1 a/\ty σ H1 λy H2=>tx σ H2 λz b=>∃o,sX b a y o/\Q (o.getD z) b
section
variable{X:Cx}{o e f:Expr}{iF jk:Pos}{td ty tx:TE}
theorem Hw(A:X.A.units+1<cLine)(B:PE X o td)(D:PE X e ty)(C:PE X f tx)(m:M2 X o "get" iF e f jk):PE X (.Call (.Attribute o "get" iF) [e,f] [] jk) (Ma td ty tx):=by
 intro O s σ H Q I h;refine qE m.base m.few m.line uM nj zX (dY (B O s σ H _ I h) λu n b=>aF b λx H1 i r b=>aH b λa ex d w=>?_);subst ex;obtain rfl:u=Value.ref a:=r;refine fb (Ii i d) λk j _=>?_;refine(cO k j ?_);rw[m.trees];refine qX rfl (qP (jX (dY (D O n σ H1 _ i w) λiv l ⟨y,H2,G,q,v⟩=>
  jX (dY (C O l σ H2 _ G v) λP M b=>aF b λz J F p b=>ae b λN g t=>qB ?_))))
 exact NL A F g q p λK L E c=>(aO _ J E c t)
end
section
variable{X:Cx}{O:List (Addr×Obj)}{σ:St}{H:Hp}{s:Shared}{h':Heap}
theorem Inv.EV{t':Nat}{ch:List Addr}{T:Addr}{h:HO}(I:Inv X O σ H s)(k:∀b o,b∉ch->s.heap.get? b=some o->h'.get? b=some o)(d:∀b∈ch,wz X O H b)(j:s.heap.objs.size<=T)(i:dR X.prog X.w (aX H T h) h' T h):Inv X O σ (aX H T h) { s with heap:=h',toks:=t' }:=by
 have g:H T=none:=I.dS.fresh j;have f:∀b u,H b=some u->b∉ch:=λb u e z=>by
  have q:=(d b z).1;rw[q]at e;cases e
 refine I.step (g':=s.gens) (d':=s.drawn) (ch:=ch) (λb a=>(oX ((d b a).2.2.2.1) ((d b a).2.1) ((d b a).2.2.2.2.1) <| (d b a).2.2.2.2.2)) (λb o _ _ hc e _=>k b o hc e) (λb o _ _ hc e _=>⟨o.slots,k b o hc e⟩)
  (λb o _ e n=>?_) (λb o hc e=>⟨o,k b o hc e⟩) (λb xs e=>?_) (λb o u e=>?_) (λb ps e=>⟨#[],?_⟩) (λm t=>?_) (λb u e=>?_) I.bare
 ·rw[ao (b8 (cK (bo e) j))];exact n
 ·rw[ao (aQ e g)];exact e
 ·rw[ao (aQ e g)];exact e
 ·rw[ao (aQ e g),e];simp
 ·refine aN t λo es l=>ae l λep p r=>?_;exact⟨o,es,ep,k _ o (λz=>(d _ z).2.1 rfl) p,r⟩
 ·by_cases a:b=T
  ·subst a;rw[ah]at e;cases e;exact i
  ·rw[ao a]at e;refine(I.dS b u e).uW (λc v hc q=>k c v ?_ q) (λc q=>by rw[ao (aQ q g)];exact q) λc xs q=>by rw[ao (aQ q g)];exact q
   rcases hc with z | z
   ·rw[z];exact f b u e
   ·exact f c _ z
theorem Inv.lock{u:HO}(I:Inv X O σ H s)(h:H d=some u)(mu:LU (some u)):∃od,Inv X O σ (aX H d (.oI od u)) s:=by
 have x:=I.dS d u h;have ex:∃od,s.heap.get? d=some od:=by
  cases u with
  | aR xs=>refine cE x λ_ a=>bI a λ_ _ _ e=>?_;exact⟨_,e⟩
  | dK cH=>refine fb x λ_ _ a=>ae a λ_ _ a=>aN a λo _ a=>ae a λ_ e _=>?_;exact⟨o,e⟩
  | dT cH=>refine fb x λ_ _ a=>ae a λ_ _ a=>aN a λo _ a=>ae a λ_ e _=>?_;exact⟨o,e⟩
  | set S n=>refine aN x λo _ a=>bI a λ_ _ e _=>?_;exact⟨o,e⟩
  | ins C dx fs=>refine fb x λ_ _ a=>fb a λ_ e _=>?_;exact⟨_,e⟩
  | ext f=>obtain⟨_,⟨_,e⟩,_⟩:=x;exact⟨_,e⟩
  | _=>exact False.elim mu
 refine aA ex λod e=>?_;have c:dR X.prog X.w (aX H d (.oI od u)) s.heap d (.oI od u):=by
  refine⟨e,x.uW (λb v _ q=>q) (λb q=>?_) λb xs q=>?_⟩
  ·rw[ao (λz=>by rw[z,h]at q;cases q;exact mu)];exact q
  ·rw[ao (λz=>by rw[z,h]at q;cases q;exact mu)];exact q
 exact⟨od,I.write (x:=d) (e:=d) (t':=s.toks) (h':=s.heap) (by rw[h];exact mu) (.inl rfl) (λb v _ q=>q) ⟨od,e⟩ c⟩
theorem Inv.Pm{u:HO}(I:Inv X O σ H s)(h:H d=some u)(mu:LU (some u)):∀o' a,X.LZ d≠some (.oI o' a):=λo' a e=>by
 have q:=I.base.zf d o' a e;rw[h]at q;cases q;exact mu
theorem Inv.unlock{u:HO}(I:Inv X O σ H s)(h:H d=some (.oI od u))(l:∀o' f,X.LZ d≠some (.oI o' f)):Inv X O σ (aX H d u) s:=by
 have a:∀b o,H b=some o->(∀o' f,o≠.oI o' f)->b≠d:=λb o e g z=>by
  rw[z,h]at e;cases e;exact g _ _ rfl
 have neN:∀b,H b=none->b≠d:=λb e z=>by rw[z,h]at e;cases e
 refine⟨I.ok,I.os,I.bare,⟨I.base.keep,I.base.slot,λb o e n j=>?_,I.base.there,λb xs e=>?_,λb o x e=>?_,λb ps e=>?_⟩,I.loc,I.cell,?_,λx c e=>?_,λp k=>?_,λb o e=>?_,I.len⟩
 ·rw[ao (neN b (I.base.free b o e n j))];exact I.base.free b o e n j
 ·have q:=I.base.gY b xs e;rw[ao (a b _ q (λ_ _ z=>nomatch z))];exact q
 ·have q:=I.base.zf b o x e;rw[ao (λz=>by rw[z]at e;exact l _ _ e)];exact q
 ·refine aA (I.base.AF b ps e) λm q=>?_;exact⟨m,by rw[ao (a b _ q (λ_ _ z=>nomatch z))];exact q⟩
 ·rw[ao (neN _ I.free)];exact I.free
 ·rw[ao (neN c (I.iA x c e))];exact I.iA x c e
 ·refine fb (I.pin p k) λe n r=>?_;exact(cO e (by rw[ao (neN _ n)];exact n) r)
 ·by_cases i:b=d
  ·rw[i,ah]at e;cases e;rw[i];refine cE (I.dS d _ h) λ_ x=>?_;exact x.uW (λc v _ q=>q) (λc q=>by rw[ao (a c _ q (λ_ _ z=>nomatch z))];exact q) λc xs q=>by rw[ao (a c _ q (λ_ _ z=>nomatch z))];exact q
  ·rw[ao i]at e;exact(I.dS b o e).uW (λc v _ q=>q) (λc q=>by rw[ao (a c _ q (λ_ _ z=>nomatch z))];exact q) λc xs q=>by rw[ao (a c _ q (λ_ _ z=>nomatch z))];exact q
end
section
variable{X:Cx}
theorem Hk{R:It->Hp->Prop}{J:It}{a:Nat->Heap->Prop}{tk:Nat}(I:Inv X O σ H s)(o:Obj)(T:Turn X.prog X.w X.K tg J [s.heap.objs.size] s.heap.objs.size a)(st:a 0 (s.heap.push o))(q:R J H):QV X O σ tg R (.ref s.heap.objs.size) { s with heap:=s.heap.push o,toks:=tk }:=by
 refine(cI s.heap.objs.size [s.heap.objs.size] a J H rfl (I.kept λb d e=>bT _ e) T st (λb c=>?_) q);have e:b=s.heap.objs.size:=by simpa using c
 subst e;exact I.KD (a0 _) (I.dS.fresh (a0 _))
end
def Qv(lo c:Int)(n:Nat):It:=⟨λi _=>i<n,λi H x H'=>H'=H/\x=.int (lo+(i:Nat)*c),λi _=>n<=i⟩
theorem AB{K:PySem.W.Frag}(a:Addr)(lo c:Int)(n:Nat):Turn P w K tg (Qv lo c n) [a] a (λi h=>IsRangeIter h a (lo+(i:Nat)*c) ((n:Int)-(i:Nat)) c) where
 mem:=by simp
 obj:=λi h st b d=>by
  have e:b=a:=by simpa using d
  subst e;exact(aa st <| λv z=>nomatch z)
 keep:=λi h h' st k=>k a (by simp) _ st
 item:=by
  intro X m hw p hc i O s σ H E I g st l;subst m hw p;refine sj (g a (by simp)) λy x F u r q=>?_;have W:=Walks.range (prog:=X.prog) (w:=X.w) (I.ok.hd hc) a lo c n;refine W.item i s _ _ l st λv h' B D f C=>?_;refine aA D λt j=>?_;subst j;have J:Inv X O σ H { s with heap:=h',toks:=B }:=I.turned (λb o d e=>C b o (by simpa using d) e) y x u r q;exact(aa rfl <| Iu (s:={ s with heap:=h',toks:=B }) (n:="range_iterator") f rfl rfl (by decide) (e8 (.int (lo+(i:Nat)*c)) H J ⟨t,rfl⟩ ⟨rfl,rfl⟩ f <| λb d=>(g b d).1))
 done:=by
  intro X m hw p hc i O s σ H E I g st l;subst m hw p;refine sj (g a (by simp)) λy x F u r q=>?_;exact wpAny_pyNext_range_end (I.ok.hd hc) st (by have:n<=i:=l;omega) λh' G=>⟨rfl,I.turned (t':=s.toks) (λb o d e=>G b o d e) y x u r q⟩
 self:=λA i s Q E st h=>wpAny_pyIter_rangeiter st h
def T'(i j c:Int)(n:Nat):Prop:=c≠0/\c.natAbs<1073741824/\Builtin.Range.small i j c=true/\Builtin.Range.rangeSize i j c=n
def PQ(ta:TA):TI:=fun σ H R=>ta σ H λvs H1=>∃i j c n,vs=[.int i,.int j,.int c]/\T' i j c n/\R (Qv i c n) H1
section
variable{X:Cx}{tg:Expr}
theorem E_{a b c:Expr}{ta:TA}{p:Pos}(C:Gl X "range")(B:X.mg "range"=none)(D:PA X [a,b,c] ta)(A:starEach [a,b,c] X.env=(false,eval a X.env)::starEach [b,c] X.env:=by rfl)(u:(backTo pos (starEach [b,c] X.env)).any (·.1)=false:=by rfl):
  PI X tg (.Call (.Name "range" p) [a,b,c] [] pos) (PQ ta):=by
 intro O s σ H R I h;refine Call_ (sI I C B boot_range (uQ (dY (D pos O s σ H _ I h) λus g w=>aF w λvs H1 N x z=>?_) A u));obtain⟨i,j,k,n,e,⟨L,K,J,G⟩,q⟩:=z;subst e;cases x with
 | cons r f=>
  cases f with
  | cons y f=>
   cases f with
   | cons m f=>
    cases f;refine aA r λt d=>?_;subst d;refine aA y λv d=>?_;subst d;refine aA m λl d=>?_;subst d;refine call_range_3 L ?_ (.inl (z9 K));refine wpAny_pyIter_range (IsRange.new ..) J ?_;have M:Inv X O σ H1 { g with heap:=g.heap.push { cls:=.type "range",data:=.fields #[.int i t,.int j v,.int k l] } }:=N.kept (t':=g.toks) λb o e=>bT _ e;refine Hk (tk:=g.toks) M _ (AB _ i k n) ?_ q;have F:i+((0:Nat):Int)*k=i:=by simp
    have E:(n:Int)-((0:Nat):Int)=Builtin.Range.rangeSize i j k:=by rw[G];simp
    show IsRangeIter _ _ (i+((0:Nat):Int)*k) ((n:Int)-((0:Nat):Int)) k;rw[F,E];exact cu _ rfl
end
section
variable{prog:Program}{w:World}{A:Around}{E:Value->Shared->Prop}{s:Shared}
theorem FA{o:Obj}(e:(d==sysModules)=false)(b:s.heap.get? d=some o)(hc:o.ExactDict)(a:o.data=.dict es ep)(f:Q (.ref s.heap.objs.size) { s with heap:=s.heap.push { cls:=.type "dict_keyiterator",data:=.fields #[.ref d,.int 0 0,.int es.size 0,.int ep 0] } }):
  wpAny (model prog w) A (pyIter (.ref d)) Q E s:=by
 have c:s.TypeIs (.ref d) "dict":=(ab o b hc.1)
 refine ud c F.slot_dict_iter (iS F.slot_dict_iter c F.entry_dict_iter ?_ (F.args_dict_iter_1 _));unfold Builtin.«dict.__iter__»;refine ag ?_;unfold Builtin.Dict.dictSlotNone;refine ag (uw c ?_);show wpAny _ _ (pure (Value.ref d)) _ _ s;refine au ?_;show wpAny _ _ (Builtin.Dict.showsAll d >>= _) _ _ s;unfold Builtin.Dict.showsAll;rw[ai (by rw[e];exact b')];refine ag (au ?_);refine ag (jW b a ?_);refine ag (lE b a ?_);refine ag (jz (au (aa rfl <| aO ("dict_keyiterator") _ (aa (cu _ rfl) rfl) oy.lookup ?_)));simpa[rawInt] using f
theorem wJ{b:Addr}{p:DictEntry}{Q:Option Value->Shared->Prop}(a:s.heap.IsKeyIter b d i n ep)(f:s.heap.get? d=some od)(h:od.data=.dict es ep)(k:es.size=n)(q:es[i]?=some p)(r:∀h',h'.IsKeyIter b d (i+1) n ep->Heap.SameBut b s.heap h'->Q (some p.key) { s with heap:=h' }):wpAny (model prog w) A (pyNext (.ref b)) Q E s:=by
 refine aH (id a) λo l hc j=>?_;unfold pyNext;refine ag (mQ (q_ (name:=Str.ofString "__next__") a.typeIs oy
  (iS oy a.typeIs Ab ?_ (Ad _))))
 refine ag (au ?_);refine ag ?_;refine ag ?_
 first | refine ag (rk a.typeIs (au ?_)) | refine ag (rg a.typeIs (au ?_))
 refine ag (lD l j ?_);have e:Builtin.Dict_items.ownsTuple "dict_keyiterator"=false:=by decide
 simp only[e,fc,cx];show wpAny _ _ (if (Value.ref d==Value.none)=true then _ else _) _ _ s;rw[ai (show ¬((Value.ref d==Value.none)=true) from b')];refine ag (au ?_);refine ag (jW f h ?_);rw[ai (by rw[k];simp)];refine ag (au ?_);refine ag (lE f h ?_);rw[ai (by simp)];refine au ?_;refine aA (Am.1 q) λg m=>?_;simp only[show ¬((i:Int)<0) from by omega,cx,lK,Aj g];refine ag ?_
 first | refine ag (rk a.typeIs (au ?_)) | refine ag (rg a.typeIs (au ?_))
 refine ag (wpAny_isOneOf_keyiter a.typeIs ?_);show wpAny _ _ (setField (.ref b) 1 (rawInt ((i:Int)+1)) >>= _) _ _ s;refine ag (t8 l j (by simp) ?_);have c:(s.heap.update b (Obj.mapFields (·.setIfInBounds 1 (rawInt ((i:Int)+1))))).IsKeyIter b d (i+1) n ep:=
  (cz (m9 _ l (Obj.isFreed_of_fields (Obj.data_mapFields j _))) ((Obj.cls_mapFields ..).trans hc) <| by rw[Obj.data_mapFields j];simp[rawInt])
 refine ag (eO ?_);refine ag (wpAny_isOneOf_keyiter (s:={ s with heap:=s.heap.update b (Obj.mapFields (·.setIfInBounds 1 (rawInt ((i:Int)+1)))) }) c.typeIs ?_);show wpAny _ _ (pure es[i].key) _ _ _;rw[m];exact au (au (aa rfl <| au (r _ c (kB ..))))
theorem yO{k:Addr}{Q:Option Value->Shared->Prop}(r:A.handled=none)(c:s.heap.IsKeyIter k d i n ep)(g:s.heap.get? d=some od)(j:od.data=.dict es ep)(e:es.size=n)(l:n<=i)(t:∀h',Heap.ExtBut k s.heap h'->Q none { s with heap:=h' }):wpAny (model prog w) A (pyNext (.ref k)) Q E s:=by
 refine aH (id c) λo p hc q=>?_;unfold pyNext;refine ag (mQ (q_ (name:=Str.ofString "__next__") c.typeIs oy
  (iS oy c.typeIs Ab ?_ (Ad _))))
 refine ag (au ?_);refine ag ?_;refine ag ?_
 first | refine ag (rk c.typeIs (au ?_)) | refine ag (rg c.typeIs (au ?_))
 refine ag (lD p q ?_);have f:Builtin.Dict_items.ownsTuple "dict_keyiterator"=false:=by decide
 simp only[f,fc,cx];show wpAny _ _ (if (Value.ref d==Value.none)=true then _ else _) _ _ s;rw[ai (show ¬((Value.ref d==Value.none)=true) from b')];refine ag (au ?_);refine ag (jW g j ?_);rw[ai (by rw[e];simp)];refine ag (au ?_);refine ag (lE g j ?_);rw[ai (by simp)];refine au ?_;have h:es.size<=i:=by rw[e];exact l
 simp only[show ¬((i:Int)<0) from by omega,cx,lK,zZ h];refine ag ?_
 first | refine ag (rk c.typeIs (au ?_)) | refine ag (rg c.typeIs (au ?_))
 show wpAny _ _ (setField (.ref k) 0 .none >>= _) _ _ s;refine ag (t8 p q (by simp) ?_);show wpAny _ _ (newExc (.type "StopIteration") [] >>= _) _ _ _;refine ag ?_;simp only[newExc,newTuple];refine ag (jz ?_ (by size_fits));refine ag (m:=firstArgMember _ _) (p_ (a:=Value.none) (by first | rfl | (simp only[firstArgMember];rfl)) ?_);refine jz ?_ (by size_fits);simp only[raiseNew];refine ag (wpAny_handled ?_);rw[show A.in1.handled=none from r];refine ag (au (wpAny_throw ?_));refine ag (lG (T:="StopIteration") (b:=true) (aa (cu _ rfl) rfl) isSubtype_stop ?_);exact au (t _ (((kB ..).extBut.push _).push _))
end
theorem EE{o:Obj}{a:Array DictEntry}{b:Nat}(h:o.data=.dict es ep)(h':o.data=.dict a b):a=es/\b=ep:=by
 rw[h]at h';cases h';exact⟨rfl,rfl⟩
end L2
section
namespace Tc
open PySem PyProof.Rows
end Tc
end
section
namespace TL
open PySem PySem.Builtin PySem.Builtin.Str PySem.StrLaws
end TL
end
namespace L2
open PySem PySem.Spec PyProof.Rows
end L2
namespace XW
open PySem PySem.W PySem.Calls PyProof.Rows
end XW
namespace L2
open PySem PySem.Spec PyProof.Rows
variable{H:Hp}{x qual:Str}{A B:Prop}{f:Addr}{st:Stmt}
noncomputable def inClass(s:Stmt)(j:Nat):Stmt:=match s with
 | .ClassDef _ _ _ body _ _ _ _ _ _ _=>body.getD j (.Pass ⟨0,0,0,0⟩)
 | _=>.Pass ⟨0,0,0,0⟩
def iC(s:Stmt):Arguments:=match s with
 | .FunctionDef _ a _ _ _ _ _ _ _ _=>a
 | _=>{ posonlyargs:=[],args:=[],vararg:=none,kwonlyargs:=[],kw_defaults:=[],kwarg:=none,defaults:=[] }
def fO(s:Stmt):List Stmt:=match s with
 | .FunctionDef _ _ b _ _ _ _ _ _ _=>b
 | _=>[]
noncomputable def aK(s:Stmt):Scope:=match s with
 | .FunctionDef _ _ _ _ _ _ a _ _ _=>a
 | _=>{ kind:=.function,names:=[],isGenerator:=false,isCoroutine:=false }
abbrev iG:L3:=λ_ _ _ _ _ _=>False
abbrev E0:XK:=λ_ _ _=>False
theorem xh{X:Cx}:Passes iG X E0:=λ_ _ _ _ _ _ _ h=>h.elim
structure ju(K:PySem.W.Frag)(x qual:Str)(st:Stmt)(f:Addr)(fd:FuncData):Prop where
 ex:∃oc od kV doc pm an wd ct U1,
  fd=PySem.W.fnOf x qual (iC st) (fO st) (aK st) .none kV doc pm an wd ct/\K.lookup f=some ⟨oc,od,.func fd,U1⟩/\PySem.W.codeIn K wd qual=true
 kp:PySem.W.keepIn K (.ref f)=true
section
variable{P:Program}{w:World}{K:PySem.W.Frag}{mg:Str->Option Value}{base:Heap}
theorem ju.ok{fd:FuncData}{N ps:List Str}{k:Nat}{sp:Sp}(F:ju K x qual st f fd)(S:bc N ps (aK st))(len:∀vs H Q E,sp vs H Q E->vs.length=ps.length)
  (c:∀b A a s H vs Q E,fB k (A.deeper (envOfC qual (aK st) s.heap.objs.size f b))->sp vs H Q E->
   ∃t,EO (zo iG P w K mg base N qual (aK st) f b A a s H E).Ly (fO st) t/\t { nx:=λ_ H'=>Q .gH H',rt:=Q } (start N vs) H):dw P w K mg base iG (k+1) f fd ps sp:=by
 refine aN F.ex λo od d=>e9 d λkV m n r b d=>aF d λp j e lk i=>?_;subst e;refine LG lk i S len λA a s H vs Q E l g=>?_;refine ae (c b A a s H vs Q E l g) λt h q=>?_;exact(ab t h.Ly q)
theorem ju.binds{fd:FuncData}{ps:List Str}(F:ju K x qual st f fd)(h:∀kV a e i b g us,us.length=ps.length->bindArgs (PySem.W.fnOf x qual (iC st) (fO st) (aK st) .none kV a e i b g) ⟨us,[]⟩=pure (ps.zip us)):Binds K fd ps []:=by
 refine aN F.ex λl od c=>e9 c λkV a e i b c=>aF c λg j d lk k=>?_;subst d;exact .all (h kV a e i b g)
theorem Iy{i:Value}{od h:Option Addr}{d:Array (Option Value)}{kV b e a g:Value}(l:K.lookup f=some ⟨i,od,.func (PySem.W.fnOf x qual (iC st) (fO st) (aK st) .none kV b e h a g),d⟩)(c:PySem.W.codeIn K a qual=true)(k:PySem.W.keepIn K (.ref f)=true):ju K x qual st f (PySem.W.fnOf x qual (iC st) (fO st) (aK st) .none kV b e h a g):=⟨⟨i,od,kV,b,e,h,a,g,d,rfl,l,c⟩,k⟩
end
theorem tG{A:Around}{k:Nat}(a:fB k A):A.units+1<cLine:=fe (zP (by decide:1<=64) _) a.units
section
variable{X:Cx}
theorem pv(i:Nat){pos:Pos}(d:X.N[i]?=some x:=by rfl)(b:Oc X.env.scope x:=by first | exact Or.inl rfl | exact Or.inr (Or.inl rfl) | exact Or.inr (Or.inr rfl))(c:(x==("__debug__":Str))=false:=by decide)(a:(x==("__classdict__":Str))=false:=by decide):PE X (.Name x pos) (nJ i):=MR d b c a
end
theorem Ig(h:B):if false=true then A else B:=by
 rw[ai b'];exact h
theorem PK(h:A):if true=true then A else B:=by
 rw[ak rfl];exact h
theorem eL{c:Prop}[Decidable c](h1:c->A)(h2:¬c->B):if c then A else B:=by
 by_cases h:c
 ·rw[ak h];exact h1 h
 ·rw[ai h];exact h2 h
def aW(H H':Hp):Prop:=∀b o,H b=some o->H' b=some o
theorem aW.refl(H:Hp):aW H H:=λ_ _ h=>h
theorem aW.trans{H1 H2:Hp}(a:aW H H1)(b:aW H1 H2):aW H H2:=λc o h=>b c o (a c o h)
theorem aW.free{H':Hp}(e:aW H H'){l:Addr}(h:H' l=Option.none):H l=Option.none:=by
 cases q:H l with
 | none=>rfl
 | some o=>
  rw[e l o q]at h;cases h
theorem aW.seq{K:PySem.W.Frag}{H':Hp}{a:Addr}{xs:List V}(e:aW H H')(h:dM K H a xs):dM K H' a xs:=by
 rcases h with(h | ⟨o,h⟩) | h
 ·exact .inl (.inl (e _ _ h))
 ·exact .inl (.inr ⟨o,e _ _ h⟩)
 ·exact .inr h
section
variable{κ:Type}[DecidableEq κ]
theorem yP:∀{l:List κ} {k:κ},l.Nodup->¬k∈l->(l++[k]).Nodup
 | [],k,_,_=>by simp
 | a::r,k,h,b=>by
  refine cE (cR.1 h) λh1 h2=>?_;show(a::(r++[k])).Nodup;refine cR.2 ⟨λm=>?_,yP h2 λm=>b (aY.2 (Or.inr m))⟩;rcases cJ.1 m with q | q
  ·exact h1 q
  ·exact b (aY.2 (Or.inl (eP.1 q).symm))
end
theorem at_of{xs:List V}{z:Int}{j:Nat}{v:V}(e:z=(j:Int))(h:xs[j]?=some v):wA xs z=some v:=by
 rw[e];exact aG h
theorem Po{α:Type}{l:List α}(c:l.Nodup){i j:Nat}{x:α}(a:l[i]?=some x)(b:l[j]?=some x):i=j:=by
 refine aA (bF.1 a) λh1 e=>?_;refine aA (bF.1 b) λh2 d=>?_;exact(List.getElem_inj c).1 (e.trans d.symm)
end L2
namespace M
open Ql55
variable{a p q r z u v n c:At}{b x y m y0 h τ:Rat}{s:Both}{t:Sided}{α:Type}{l r':List (At×At)}{P:Rat->Prop}{d w t' d':At×At}{k N i j I φ:Nat}{J:List (Nat×Nat)}{Y:Bool}{κ:Int×Int}{ks:List (Int×Int)}
theorem ff{a:Rat}(h:0<a)(k:0<b):0<a*b:=qi h k
theorem wK{a:Rat}(h:a<0)(k:b<0):0<a*b:=by
 have:=qi (show 0 < -a by grind) (show 0 < -b by grind);grind
theorem Em{a:Rat}(h:0<a)(k:b<0):a*b<0:=by
 have:=qi h (show 0 < -b by grind);grind
theorem F_{a:Rat}(h:a<0)(k:0<b):a*b<0:=by
 have:=qi (show 0 < -a by grind) k;grind
theorem dA{a:Rat}(h:0<=a)(k:0<=b):0<=a*b:=qz h k
theorem tM{a:Rat}(h:a<=0)(k:b<=0):0<=a*b:=by
 have:=qz (show 0<=-a by grind) (show 0<=-b by grind);grind
theorem sF{a:Rat}(h:0<=a)(k:b<=0):a*b<=0:=by
 have:=qz h (show 0<=-b by grind);grind
theorem rK{a:Rat}(h:a<=0)(k:0<=b):a*b<=0:=by
 have:=qz (show 0<=-a by grind) k;grind
theorem Cj(a:Rat):a<0\/a=0\/0<a:=by grind
theorem bL{a:Rat}(h:0<a*b):(0<a/\0<b)\/(a<0/\b<0):=by
 rcases Cj a with d | d | d <;> rcases Cj b with c | c | c
 ·exact .inr ⟨d,c⟩
 ·subst c;grind
 ·have:=F_ d c;grind
 all_goals first | exact .inl ⟨d,c⟩ | (subst d;grind) | (subst c;grind) | (have:=Em d c;grind)
theorem i0{a:Rat}(h:a*b<0):(0<a/\b<0)\/(a<0/\0<b):=by
 have:=bL (a:=-a) (b:=b) (by grind);grind
theorem fK{a:Rat}(h:0<a*b)(k:0<b):0<a:=by
 grind[bL]
theorem vx{a:Rat}(h:a*b<0)(k:0<b):a<0:=by
 grind[i0]
theorem fC{a:Rat}(h:0<a*b)(k:0<=b):0<a/\0<b:=by
 grind[bL]
theorem fD{a:Rat}(h:a*b<0)(k:0<=b):a<0/\0<b:=by
 rcases i0 h with h | h <;> grind
theorem cg{a:Rat}(h:a*b=0)(k:b≠0):a=0:=by
 grind
theorem wsum{s t:Rat}(b:0<x)(a:0<y)(d:0<=s)(c:0<t):0<x*s+y*t:=by
 have:=dA (b0 b) d;have:=ff a c;grind
theorem s_{s t:Rat}(d:x<0)(c:y<0)(b:0<=s)(a:0<t):x*s+y*t<0:=by
 have:=wsum (show 0 < -x by grind) (show 0 < -y by grind) b a;grind
noncomputable def px{α:Type}(p:α->Bool):List α->Bool
 | []=>false
 | x::l=>p x^^px p l
theorem HE{α:Type}(p:α->Bool):∀l:List α,((l.filter p).length%2==1)=px p l
 | []=>rfl
 | x::l=>by
  have a:=HE p l;rw[h9];show _=(p x^^px p l)
  grind
theorem cP{α:Type}{p q:α->Bool}:∀{l:List α},(∀x,x∈l->p x=q x)->px p l=px q l
 | [],_=>rfl
 | x::l,h=>by
  show(p x^^px p l)=(q x^^px q l)
  rw[h x (by simp),cP λy a=>h y (by simp[a])]
theorem nN{α:Type}(p q:α->Bool):∀l:List α,px (λx=>p x^^q x) l=(px p l^^px q l)
 | []=>rfl
 | x::l=>by
  show((p x^^q x)^^px _ l)=((p x^^px p l)^^(q x^^px q l))
  rw[nN p q l];cases p x <;> cases q x <;> cases px p l <;> cases px q l <;> rfl
theorem ja{α:Type}:∀l:List α,px (λ_=>false) l=false
 | []=>rfl
 | x::l=>by
  show(false^^px _ l)=false;rw[ja l];rfl
theorem kT{α β:Type}(f:α->β)(p:β->Bool):∀l:List α,px p (l.map f)=px (λx=>p (f x)) l
 | []=>rfl
 | x::l=>by
  show(p (f x)^^px p (l.map f))=(p (f x)^^_)
  rw[kT f p l]
theorem jJ{α:Type}(p:α->Bool):∀l m:List α,px p (l++m)=(px p l^^px p m)
 | [],m=>by simp[px]
 | x::l,m=>by
  show(p x^^px p (l++m))=((p x^^px p l)^^px p m)
  rw[jJ p l m,jQ]
theorem yr{p:α->Bool}{l m:List α}(h:l.Perm m):px p l=px p m:=by
 induction h with
 | nil=>rfl
 | cons x _ a=>show(p x^^_)=(p x^^_);rw[a]
 | swap x y l=>
  show(p y^^(p x^^px p l))=(p x^^(p y^^px p l))
  cases p x <;> cases p y <;> cases px p l <;> rfl
 | trans _ _ c b=>rw[c,b]
theorem sA{α:Type}(p q:α->Bool):∀l:List α,px p (l.filter q)=px (λx=>q x&&p x) l
 | []=>rfl
 | x::l=>by
  rw[h9];show _=((q x&&p x)^^px _ l)
  cases h:q x
  ·simp[sA p q l]
  ·simp only[dh,gR];show(p x^^px p (l.filter q))=_;rw[sA p q l]
abbrev Seg:=At×At
variable{e e':Seg}{L E':List Seg}
def iO(L:List Seg):Prop:=∀f:At->Bool,px (λe=>f e.1^^f e.2) L=false
noncomputable def eM(q:At)(e:Seg):Bool:=
 (decide (e.1.2<=q.2)&&(decide (q.2<e.2.2)&&decide (0<cross e.1 e.2 q))) || (decide (e.2.2<=q.2)&&(decide (q.2<e.1.2)&&decide (cross e.1 e.2 q<0)))
noncomputable def c_(q:At)(e:Seg):Bool:=
 (decide (e.1.1<=q.1)&&(decide (q.1<e.2.1)&&decide (cross e.1 e.2 q<0))) || (decide (e.2.1<=q.1)&&(decide (q.1<e.1.1)&&decide (0<cross e.1 e.2 q)))
def iM(L:List Seg)(q:At):Bool:=px (eM q) L
def l5(L:List Seg)(q:At):Bool:=px (c_ q) L
theorem eG(a b c:At):cross b a c=- cross a b c:=by unfold cross;grind
theorem tJ(q a b:At):eM q (b,a)=eM q (a,b):=by
 unfold eM;rw[eG];grind
def AW(q c:At):Bool:=decide (q.1<c.1)&&decide (q.2<c.2)
theorem Aw(h:cross e.1 e.2 q≠0\/e.1.1=e.2.1\/e.1.2=e.2.2):(eM q e^^c_ q e)=(AW q e.1^^AW q e.2):=by
 obtain⟨⟨l,k⟩,⟨j,i⟩⟩:=e;obtain⟨g,f⟩:=q;unfold eM c_ AW;simp only[]at h ⊢;have B:cross (l,k) (j,i) (g,f)=(l-g)*(i-f)-(k-f)*(j-g):=by unfold cross;grind
 rw[B]at h ⊢;generalize D:l-g=p at *;generalize s:k-f=o at *;generalize C:j-g=n at *;generalize r:i-f=m at *;have A:decide (k<=f)=decide (o<=0):=by grind
 have z:decide (f<i)=decide (0<m):=by grind
 have y:decide (i<=f)=decide (m<=0):=by grind
 have x:decide (f<k)=decide (0<o):=by grind
 have w:decide (l<=g)=decide (p<=0):=by grind
 have v:decide (g<j)=decide (0<n):=by grind
 have u:decide (j<=g)=decide (n<=0):=by grind
 have t:decide (g<l)=decide (0<p):=by grind
 rw[A,z,y,x,w,v,u,t]
 by_cases d:0<p <;> by_cases c:0<o <;> by_cases b:0<n <;> by_cases a:0<m
 all_goals
  first | rw[show decide (p<=0)=false by grind] | rw[show decide (p<=0)=true by grind]
  first | rw[show decide (o<=0)=false by grind] | rw[show decide (o<=0)=true by grind]
  first | rw[show decide (n<=0)=false by grind] | rw[show decide (n<=0)=true by grind]
  first | rw[show decide (m<=0)=false by grind] | rw[show decide (m<=0)=true by grind]
  simp only[d,c,b,a,decide_true,mW,gR,jw,i4,mY,Bool.false_or,jx,iQ,Bool.xor_self,mX,Bool.xor_true,Bool.true_xor,ie,ua]
 all_goals try rfl
 ·have:=sF (b0 d) (bM.1 a);have:=ff c b;grind
 ·have:=ff d a;have:=sF (b0 c) (bM.1 b);grind
 ·grind
 ·have:=ff d a;have:=rK (bM.1 c) (b0 b);grind
 ·have:=sF (b0 d) (bM.1 a);have:=tM (bM.1 c) (bM.1 b);grind
 ·have:=rK (bM.1 d) (b0 a);have:=ff c b;grind
 ·have:=tM (bM.1 d) (bM.1 a);have:=sF (b0 c) (bM.1 b);grind
 ·grind
 ·have:=tM (bM.1 d) (bM.1 a);have:=rK (bM.1 c) (b0 b);grind
 ·have:=rK (bM.1 d) (b0 a);have:=tM (bM.1 c) (bM.1 b);grind
def fU(e:Seg)(q r:At):Prop:=0<cross e.1 e.2 q*cross e.1 e.2 r\/0<cross q r e.1*cross q r e.2\/(cross e.1 e.2 q=0/\cross e.1 e.2 r=0)
def iE(e:Seg)(q r:At):Prop:=cross e.1 e.2 q*cross e.1 e.2 r<0/\cross q r e.1*cross q r e.2<0
noncomputable def N2(q r c:At):Bool:=decide (q.2<c.2)&&(decide (c.2<=r.2)&&decide (cross q r c<0))
theorem oQ{b:At}(h:a.2<=b.2):eM q (a,b)=(decide (a.2<=q.2)&&(decide (q.2<b.2)&&decide (0<cross a b q))):=by
 unfold eM;dsimp only
 by_cases d:b.2<=q.2
 ·by_cases c:q.2<a.2
  ·exact absurd (Rat.le_trans h d) (c4.2 c)
  ·simp[c]
 ·simp[d]
section
variable{ay k_ qy ry c1 c2 d1 d2:Rat}
theorem Pz(f:c1*(ry-qy)=-d1*(k_-qy)-d2*(qy-ay))(e:c2*(ry-qy)=-d1*(k_-ry)-d2*(ry-ay))(A:0<c1*c2\/0<d1*d2\/(c1=0/\c2=0))(i:ay<=qy)(h:qy<=ry)(g:ry<k_):(0<c1↔0<c2):=by
 rcases A with A | A | ⟨A,B⟩
 ·rcases bL A with A | A <;> grind
 ·rcases bL A with⟨A,B⟩ | ⟨A,B⟩
  ·have d:=wsum B A (s:=qy-ay) (t:=k_-qy) (by grind) (by grind);have c:=wsum B A (s:=ry-ay) (t:=k_-ry) (by grind) (by grind);have:=fD (a:=c1) (b:=ry-qy) (by grind) (by grind);have:=fD (a:=c2) (b:=ry-qy) (by grind) (by grind);grind
  ·have d:=s_ B A (s:=qy-ay) (t:=k_-qy) (by grind) (by grind);have c:=s_ B A (s:=ry-ay) (t:=k_-ry) (by grind) (by grind);have:=fC (a:=c1) (b:=ry-qy) (by grind) (by grind);grind[fC]
 ·grind
theorem Nk(e:-d2*(k_-ay)=c1*(ry-k_)+c2*(k_-qy))(d:c1*(ry-qy)=-d1*(k_-qy)-d2*(qy-ay))(A:0<c1*c2\/0<d1*d2\/(c1=0/\c2=0))(h:ay<=qy)(g:qy<k_)(f:k_<=ry):(0<c1↔d2<0):=by
 rcases A with A | A | ⟨A,B⟩
 ·rcases bL A with⟨A,B⟩ | ⟨A,B⟩
  ·have c:=wsum A B (s:=ry-k_) (t:=k_-qy) (by grind) (by grind);have:=fC (a:=-d2) (b:=k_-ay) (by grind) (by grind);grind
  ·have c:=s_ A B (s:=ry-k_) (t:=k_-qy) (by grind) (by grind);have:=fD (a:=-d2) (b:=k_-ay) (by grind) (by grind);grind
 ·rcases bL A with⟨A,B⟩ | ⟨A,B⟩
  ·have c:=wsum B A (s:=qy-ay) (t:=k_-qy) (by grind) (by grind);have:=fD (a:=c1) (b:=ry-qy) (by grind) (by grind);grind
  ·have c:=s_ B A (s:=qy-ay) (t:=k_-qy) (by grind) (by grind);have:=fC (a:=c1) (b:=ry-qy) (by grind) (by grind);grind
 grind[cg]
theorem Nh(e:-d1*(k_-ay)=c1*(ry-ay)+c2*(ay-qy))(d:c2*(ry-qy)=-d1*(k_-ry)-d2*(ry-ay))(A:0<c1*c2\/0<d1*d2\/(c1=0/\c2=0))(h:qy<ay)(g:ay<=ry)(f:ry<k_):(0<c2↔d1<0):=by
 rcases A with A | A | ⟨A,B⟩
 ·rcases bL A with⟨A,B⟩ | ⟨A,B⟩
  ·have c:=wsum A B (s:=ry-ay) (t:=ay-qy) (by grind) (by grind);have:=fC (a:=-d1) (b:=k_-ay) (by grind) (by grind);grind
  ·have c:=s_ A B (s:=ry-ay) (t:=ay-qy) (by grind) (by grind);have:=fD (a:=-d1) (b:=k_-ay) (by grind) (by grind);grind
 ·rcases bL A with⟨A,B⟩ | ⟨A,B⟩
  ·have c:=wsum B A (s:=ry-ay) (t:=k_-ry) (by grind) (by grind);have:=fD (a:=c2) (b:=ry-qy) (by grind) (by grind);grind
  ·have c:=s_ B A (s:=ry-ay) (t:=k_-ry) (by grind) (by grind);have:=fC (a:=c2) (b:=ry-qy) (by grind) (by grind);grind
 ·have:=cg (a:=-d1) (b:=k_-ay) (by grind) (by grind);grind
theorem Kh(g:-d1*(k_-ay)=c1*(ry-ay)+c2*(ay-qy))(f:-d2*(k_-ay)=c1*(ry-k_)+c2*(k_-qy))(e:c1-c2=d2-d1)(A:0<c1*c2\/0<d1*d2\/(c1=0/\c2=0))(j:qy<ay)(i:ay<=k_)(h:k_<=ry):(d1<0↔d2<0):=by
 rcases A with A | A | ⟨A,B⟩
 ·rcases bL A with⟨A,B⟩ | ⟨A,B⟩
  ·have d:=wsum A B (s:=ry-ay) (t:=ay-qy) (by grind) (by grind);have c:=wsum A B (s:=ry-k_) (t:=k_-qy) (by grind) (by grind);have:=fC (a:=-d1) (b:=k_-ay) (by grind) (by grind);have:=fC (a:=-d2) (b:=k_-ay) (by grind) (by grind);grind
  ·have d:=s_ A B (s:=ry-ay) (t:=ay-qy) (by grind) (by grind);have c:=s_ A B (s:=ry-k_) (t:=k_-qy) (by grind) (by grind);have:=fD (a:=-d1) (b:=k_-ay) (by grind) (by grind);have:=fD (a:=-d2) (b:=k_-ay) (by grind) (by grind);grind
 ·rcases bL A with A | A <;> grind
 ·grind
end
def gives(e:Seg)(q r:At):Bool:=(eM q e^^eM r e)^^(N2 q r e.1^^N2 q r e.2)
theorem B_{b:At}(o:q.2<=r.2)(f:a.2<=b.2)(A:fU (a,b) q r):gives (a,b) q r=false:=by
 unfold gives;rw[oQ f,oQ f];unfold N2;unfold fU at A;dsimp only at A ⊢;have l:-cross q r a*(b.2-a.2)=cross a b q*(r.2-a.2)+cross a b r*(a.2-q.2):=by unfold cross;grind
 have j:-cross q r b*(b.2-a.2)=cross a b q*(r.2-b.2)+cross a b r*(b.2-q.2):=by unfold cross;grind
 have i:cross a b q*(r.2-q.2)=-cross q r a*(b.2-q.2)-cross q r b*(q.2-a.2):=by unfold cross;grind
 have h:cross a b r*(r.2-q.2)=-cross q r a*(b.2-r.2)-cross q r b*(r.2-a.2):=by unfold cross;grind
 have n:cross a b q-cross a b r=cross q r b-cross q r a:=by unfold cross;grind
 generalize cross a b q=c1 at *;generalize cross a b r=c2 at *;generalize cross q r a=d1 at *;generalize cross q r b=d2 at *
 by_cases g:a.2<=q.2
 ·by_cases s:b.2<=q.2
  ·grind
  ·by_cases c:b.2<=r.2
   ·have k:=Nk j i A g (by grind) c;have m:q.2<b.2:=by grind
    have e:¬r.2<b.2:=by grind
    have p:¬q.2<a.2:=by grind
    simp_all
   ·have k:=Pz i h A g o (by grind);grind
 ·by_cases d:a.2<=r.2
  ·by_cases c:b.2<=r.2
   ·have k:=Kh l j n A (by grind) f c;grind
   ·have k:=Nh l h A (by grind) d (by grind);have m:q.2<a.2:=by grind
    have e:r.2<b.2:=by grind
    simp_all
  ·have e:¬b.2<=r.2:=by grind
   simp[g,d,e]
theorem x2{b:At}(t:q.2<=r.2)(j:a.2<=b.2)(A:iE (a,b) q r):gives (a,b) q r=true:=by
 unfold gives;rw[oQ j,oQ j];unfold N2;unfold iE at A;dsimp only at A ⊢;have s:cross a b q-cross a b r=cross q r b-cross q r a:=by unfold cross;grind
 have p:(cross a b q-cross a b r)*(b.2-q.2)=cross a b q*(r.2-q.2)+cross q r b*(b.2-a.2):=by unfold cross;grind
 have o:(cross a b q-cross a b r)*(a.2-r.2)=cross a b r*(r.2-q.2)+cross q r a*(b.2-a.2):=by unfold cross;grind
 have n:b.2=q.2->r.2=q.2->b.2=a.2->cross a b q=0:=by unfold cross;grind
 generalize cross a b q=c1 at *;generalize cross a b r=c2 at *;generalize cross q r a=d1 at *;generalize cross q r b=d2 at *;obtain⟨A,B⟩:=A;have c:(0<c1/\c2<0/\d1<0/\0<d2)\/(c1<0/\0<c2/\0<d1/\d2<0):=by
  rcases i0 A with A | A <;> rcases i0 B with B | B <;> grind
 have g:¬b.2<=q.2:=by
  intro h;rcases c with k | k
  ·have f:=dA (a:=c1) (b:=r.2-q.2) (by grind) (by grind);have e:=dA (a:=d2) (b:=b.2-a.2) (by grind) (by grind);have d:=sF (a:=c1-c2) (b:=b.2-q.2) (by grind) (by grind);have m:=cg (a:=b.2-q.2) (b:=c1-c2) (by grind) (by grind);have l:=cg (a:=r.2-q.2) (b:=c1) (by grind) (by grind);grind
  ·have f:=rK (a:=c1) (b:=r.2-q.2) (by grind) (by grind);have e:=rK (a:=d2) (b:=b.2-a.2) (by grind) (by grind);have d:=tM (a:=c1-c2) (b:=b.2-q.2) (by grind) (by grind);have m:=cg (a:=b.2-q.2) (b:=c1-c2) (by grind) (by grind);have l:=cg (a:=r.2-q.2) (b:=c1) (by grind) (by grind);grind
 have i:a.2<=r.2:=by
  refine bM.1 λh=>?_;rcases c with k | k
  ·have f:=rK (a:=c2) (b:=r.2-q.2) (by grind) (by grind);have e:=rK (a:=d1) (b:=b.2-a.2) (by grind) (by grind);have d:=ff (a:=c1-c2) (b:=a.2-r.2) (by grind) (by grind);grind
  ·have f:=dA (a:=c2) (b:=r.2-q.2) (by grind) (by grind);have e:=dA (a:=d1) (b:=b.2-a.2) (by grind) (by grind);have d:=F_ (a:=c1-c2) (b:=a.2-r.2) (by grind) (by grind);grind
 grind
theorem vN(a b q r:At):gives (b,a) q r=gives (a,b) q r:=by
 unfold gives;rw[tJ q a b,tJ r a b];dsimp only;rw[mZ (N2 q r b)]
theorem fU.swap{b:At}(A:fU (a,b) q r):fU (b,a) q r:=by
 unfold fU at *;dsimp only at *;rw[eG a b,eG a b];grind
theorem iE.swap{b:At}(A:iE (a,b) q r):iE (b,a) q r:=by
 unfold iE at *;dsimp only at *;rw[eG a b,eG a b];grind
theorem fU.turn(A:fU e q r):fU e r q:=by
 unfold fU at *;rw[eG q r,eG q r];grind
theorem iE.turn(A:iE e q r):iE e r q:=by
 unfold iE at *;rw[eG q r,eG q r];grind
theorem Cb(c:q.2<=r.2)(A:fU e q r):gives e q r=false:=by
 obtain⟨a,b⟩:=e
 by_cases h:a.2<=b.2
 ·exact B_ c h A
 ·rw[<-vN];exact B_ c (by grind) A.swap
theorem zD(c:q.2<=r.2)(A:iE e q r):gives e q r=true:=by
 obtain⟨a,b⟩:=e
 by_cases h:a.2<=b.2
 ·exact x2 c h A
 ·rw[<-vN];exact x2 c (by grind) A.swap
theorem tj(C:iO L)(X:Seg->Bool)(h:∀e,e∈L->(X e=true/\iE e q r)\/(X e=false/\fU e q r)):(iM L q^^iM L r)=px X L:=by
 have a:∀q r:At,q.2<=r.2->(∀e,e∈L->(X e=true/\iE e q r)\/(X e=false/\fU e q r))->(iM L q^^iM L r)=px X L:=by
  intro q r b h;have d:px X L=px (λe=>gives e q r) L:=cP λe c=>by
   rcases h e c with⟨x,A⟩ | ⟨x,A⟩
   ·rw[x,zD b A]
   ·rw[x,Cb b A]
  rw[d];unfold gives;rw[nN,C (N2 q r),nN,jx];rfl
 by_cases b:q.2<=r.2
 ·exact a q r b h
 ·rw[mZ];refine a r q (by grind) λe c=>?_;rcases h e c with⟨x,A⟩ | ⟨x,A⟩
  ·exact .inl ⟨x,A.turn⟩
  ·exact .inr ⟨x,A.turn⟩
theorem transport(C:iO L)(h:∀e,e∈L->fU e q r):iM L q=iM L r:=by
 have:=tj C (λ_=>false) λe a=>.inr ⟨rfl,h e a⟩;grind[ja]
def Ev(P:Rat->Prop):Prop:=∃d:Rat,0<d/\∀x,0<x->x<=d->P x
theorem Ev.of(h:∀x,0<x->P x):Ev P:=(ab 1 (by grind) <| λx a _=>h x a)
theorem Ev.mono{Q:Rat->Prop}(h:Ev P)(k:∀x,0<x->P x->Q x):Ev Q:=by
 refine ae h λd b h=>?_;exact(ab d b <| λx a c=>k x a (h x a c))
theorem Ev.and{Q:Rat->Prop}(h:Ev P)(k:Ev Q):Ev λx=>P x/\Q x:=by
 refine ae h λd f h=>?_;refine ae k λd' b k=>?_
 by_cases e:d<=d'
 ·exact(ab d f <| λx a c=>⟨h x a c,k x a (by grind)⟩)
 ·exact(ab d' b <| λx a c=>⟨h x a (by grind),k x a c⟩)
theorem Ev.get(h:Ev P):∃x,0<x/\P x:=by
 refine ae h λd a h=>?_;exact(ab d a <| h d a (by grind))
theorem Ev.all{α:Type}{P:α->Rat->Prop}:∀{l:List α},(∀a,a∈l->Ev (P a))->Ev λx=>∀a,a∈l->P a x
 | [],_=>.of λx _ a h=>by simp at h
 | b::l,h=>by
  refine((h b (by simp)).and (Ev.all (l:=l) λa c=>h a (by simp[c]))).mono λx _ k a c=>?_;grind
theorem Ev.const{p:Prop}(h:Ev λ_=>p):p:=by
 refine ae h.get λx _ h=>?_;exact h
theorem N1(x:Rat):x<=x*x+1/\- x<=x*x+1:=by
 rcases(ic:0<=x\/x<=0) with h | h
 ·have h0:=dA h h;rcases(ic:x<=1\/1<=x) with k | k
  ·constructor <;> grind
  ·have:=dA h (show 0<=x-1 by grind);constructor <;> grind
 ·have h0:=tM h h;rcases(ic:-1<=x\/x<=-1) with k | k
  ·constructor <;> grind
  ·have:=tM h (show x+1<=0 by grind);constructor <;> grind
theorem pO{a:Rat}(h:0<a):Ev λx=>0<a+x*b:=by
 have c:0<b*b+1:=by
  have:=(N1 b)
  rcases Cj b with k | k | k
  ·grind
  ·subst k;grind
  ·grind
 refine(ab (a/(b*b+1)/2) ?_ <| λx d i=>?_)
 ·have:0<a/(b*b+1):=by
   refine c4.1 λk=>?_;have:=rK k (b0 c);have e:a/(b*b+1)*(b*b+1)=a:=by grind
   grind
  grind
 ·have e:a/(b*b+1)*(b*b+1)=a:=by grind
  have g:=dA (show 0<=a/(b*b+1)/2-x by grind) (b0 c);have f:=dA (b0 d) (show 0<=b*b+1+b by have:=(N1 b);grind);grind
theorem vT{a:Rat}(h:a<0):Ev λx=>a+x*b<0:=by
 refine(pO (a:=-a) (b:=-b) (by grind)).mono λx _ k=>by grind
theorem kP(a b:Rat):Ev λx=>(0<a+x*b↔(0<a\/(a=0/\0<b)))/\(a+x*b<0↔(a<0\/(a=0/\b<0))):=by
 rcases Cj a with h | h | h
 ·exact(vT (b:=b) h).mono λx _ k=>by constructor <;> grind
 ·subst h;refine .of λx c=>?_;grind[Cj,Em,ff]
 ·exact(pO (b:=b) h).mono λx _ k=>by constructor <;> grind
noncomputable def bp(m n:At)(x:Rat):At:=(m.1+x*n.1,m.2+x*n.2)
theorem dg(a b m n:At)(x:Rat):cross a b (bp m n x)=cross a b m+x*((b.1-a.1)*n.2-(b.2-a.2)*n.1):=by
 unfold cross bp;dsimp only;grind
noncomputable def seg(e:Edge):Seg:=(at_ e.1,at_ e.2)
def dX(d:Drawing):List Seg:=(edges d).map seg
theorem Dr(m n:At)(e:Edge):Ev λx=>crosses m n e=eM (bp m n x) (seg e):=by
 have j:=kP ((at_ e.1).2-m.2) (- n.2);have i:=kP ((at_ e.2).2-m.2) (- n.2);have h:=kP (cross (at_ e.1) (at_ e.2) m) (((at_ e.2).1-(at_ e.1).1)*n.2-((at_ e.2).2-(at_ e.1).2)*n.1);refine(j.and (i.and h)).mono λx u g=>fb g λs r q=>?_;unfold crosses eM seg;dsimp only;rw[dg];generalize hc:cross (at_ e.1) (at_ e.2) m=c at *;generalize t:((at_ e.2).1-(at_ e.1).1)*n.2-((at_ e.2).2-(at_ e.1).2)*n.1=z at *;unfold bp;dsimp only;generalize (at_ e.1).2=b at *;generalize (at_ e.2).2=a at *;have f:decide (b<=m.2+x*n.2)=(decide (b<m.2) || (b==m.2&&decide (0<=n.2))):=by grind
 have d:decide (a<=m.2+x*n.2)=(decide (a<m.2) || (a==m.2&&decide (0<=n.2))):=by grind
 have p:decide (m.2+x*n.2<a)=!(decide (a<m.2) || (a==m.2&&decide (0<=n.2))):=by rw[<-d];grind
 have o:decide (m.2+x*n.2<b)=!(decide (b<m.2) || (b==m.2&&decide (0<=n.2))):=by rw[<-f];grind
 have l:decide (0<c+x*z)=decide (0<if c=0 then z else c):=by
  split <;> grind
 have k:decide (c+x*z<0)=decide ((if c=0 then z else c)<0):=by
  split <;> grind
 rw[f,d,p,o,l,k]
theorem CS(d:Drawing)(m n:At):Ev λx=>odd d m n=iM (dX d) (bp m n x):=by
 refine(Ev.all (l:=edges d) λe _=>Dr m n e).mono λx _ h=>?_;unfold odd iM dX;rw[HE,kT];exact cP h
theorem Ld(C:iO L)(p:At):Ev λx=>l5 L p=iM L (bp p (0,1) x):=by
 have g:∀e,e∈L->Ev λx=>c_ p e=c_ (bp p (0,1) x) e/\(cross e.1 e.2 (bp p (0,1) x)≠0\/e.1.1=e.2.1\/e.1.2=e.2.2):=by
  intro e _;refine(kP (cross e.1 e.2 p) (e.2.1-e.1.1)).mono λx j f=>cE f λi h=>?_;have b:cross e.1 e.2 (bp p (0,1) x)=cross e.1 e.2 p+x*(e.2.1-e.1.1):=by rw[dg];grind
  rw[b];unfold c_;rw[b];generalize cross e.1 e.2 p=c at *;have d:(bp p (0,1) x).1=p.1:=by unfold bp;dsimp only;grind
  grind
 refine(Ev.all g).mono λx _ k=>?_;unfold iM l5;have d:px (c_ p) L=px (c_ (bp p (0,1) x)) L:=cP λe a=>(k e a).1;rw[d];have l:px (λe=>eM (bp p (0,1) x) e^^c_ (bp p (0,1) x) e) L=false:=by
  rw[cP λe a=>Aw (k e a).2];exact C (AW (bp p (0,1) x))
 grind[nN]
def On(e:Seg)(z:At):Prop:=cross e.1 e.2 z=0/\(z.1-e.1.1)*(z.1-e.2.1)<=0/\(z.2-e.1.2)*(z.2-e.2.2)<=0
instance (e:Seg) (z:At):Decidable (On e z):=by unfold On;infer_instance
noncomputable def aI(a b:At)(t:Rat):At:=(a.1+t*(b.1-a.1),a.2+t*(b.2-a.2))
theorem g9(a b p q:At)(t:Rat):cross a b (aI p q t)=cross a b p+t*(cross a b q-cross a b p):=by
 unfold cross aI;dsimp only;grind
theorem gW(a b:At){t:Rat}(h0:0<=t)(c:t<=1):On (a,b) (aI a b t):=by
 unfold On aI cross;dsimp only;have k:t*(t-1)<=0:=sF h0 (by grind);have s:∀y:Rat,0<=y*y:=λy=>by
  rcases(ic:0<=y\/y<=0) with h | h
  ·exact dA h h
  ·exact tM h h
 refine(cO (by grind) ?_ ?_)
 ·have:=rK k (s (b.1-a.1));grind
 ·have:=rK k (s (b.2-a.2));grind
theorem oM(h:x*(x-y)<=0)(k:y≠0):0<=x/y/\x/y<=1:=by
 have e:x/y*y=x:=by grind
 generalize x/y=t at *;subst e;have a:0<y*y:=by
  grind[Cj,wK,ff]
 have b:t*y*(t*y-y)=t*(t-1)*(y*y):=by grind
 rw[b]at h;have c:t*(t-1)<=0:=by
  refine bM.1 λz=>?_;have:=ff z a;grind
 constructor
 ·refine bM.1 λz=>?_;have:=wK z (show t-1<0 by grind);grind
 ·refine bM.1 λz=>?_;have:=ff (show 0<t by grind) (show 0<t-1 by grind);grind
theorem fq{b:At}:On (a,b) z↔∃t,0<=t/\t<=1/\z=aI a b t:=by
 constructor
 ·rintro⟨c,l,k⟩;dsimp only at c l k;unfold cross at c
  by_cases i:b.1-a.1=0
  ·by_cases g:b.2-a.2=0
   ·refine(a8 0 (by grind) (by grind) ?_);have s:∀y:Rat,y*y<=0->y=0:=λy m=>by
     rcases Cj y with h | h | h
     ·have:=wK h h;grind
     ·exact h
     ·have:=ff h h;grind
    have j:=s (z.1-a.1) (by grind);have n:=s (z.2-a.2) (by grind);unfold aI;grind
   ·refine cE (oM (x:=z.2-a.2) (y:=b.2-a.2) (by grind) g) λf d=>?_;refine(cz f d ?_);have e:(z.2-a.2)/(b.2-a.2)*(b.2-a.2)=z.2-a.2:=by grind
    have j:=cg (a:=z.1-a.1) (b:=b.2-a.2) (by grind) g;unfold aI;grind
  ·refine cE (oM (x:=z.1-a.1) (y:=b.1-a.1) (by grind) i) λf d=>?_;refine(cz f d ?_);have e:(z.1-a.1)/(b.1-a.1)*(b.1-a.1)=z.1-a.1:=by grind
   generalize (z.1-a.1)/(b.1-a.1)=t at *;have j:=cg (a:=z.2-a.2-t*(b.2-a.2)) (b:=b.1-a.1) (by grind) i;unfold aI;grind
 ·rintro⟨t,h0,c,rfl⟩;exact gW a b h0 c
theorem wm(h:∀z,On e z->On (q,r) z->False):fU e q r:=by
 obtain⟨a,b⟩:=e;unfold fU;dsimp only;refine d8 λc=>?_;have p:cross a b q*cross a b r<=0:=bM.1 λk=>c (.inl k);have l:cross q r a*cross q r b<=0:=bM.1 λk=>c (.inr (.inl k));have o:¬(cross a b q=0/\cross a b r=0):=λk=>c (.inr (.inr k));have n:cross a b q-cross a b r=cross q r b-cross q r a:=by unfold cross;grind
 have v:(cross a b q-cross a b r)*q.1+cross a b q*(r.1-q.1)=(cross a b q-cross a b r)*a.1-cross q r a*(b.1-a.1):=by unfold cross;grind
 have u:(cross a b q-cross a b r)*q.2+cross a b q*(r.2-q.2)=(cross a b q-cross a b r)*a.2-cross q r a*(b.2-a.2):=by unfold cross;grind
 generalize cross a b q=c1 at *;generalize cross a b r=c2 at *;generalize cross q r a=d1 at *;generalize cross q r b=d2 at *;have d:c1-c2≠0:=by
  grind[Cj,wK,ff]
 refine cE (oM (x:=c1) (y:=c1-c2) (by grind) d) λg f=>?_;have m:-d1*(-d1-(c1-c2))=d1*d2:=by rw[n];grind
 refine cE (oM (x:=-d1) (y:=c1-c2) (by rw[m];exact l) d) λj i=>?_;have w:c1/(c1-c2)*(c1-c2)=c1:=by grind
 have A:-d1/(c1-c2)*(c1-c2)=-d1:=by grind
 refine h (aI q r (c1/(c1-c2))) ?_ (gW q r g f);have e:aI q r (c1/(c1-c2))=aI a b (-d1/(c1-c2)):=by
  generalize c1/(c1-c2)=t at *;generalize -d1/(c1-c2)=s at *;unfold aI;grind
 rw[e];exact gW a b j i
def box(z w:At)(d:Rat):Prop:=w.1-z.1<d/\z.1-w.1<d/\w.2-z.2<d/\z.2-w.2<d
theorem gM{a:Rat}(h:0<a)(k:0<b):0<a/b:=by
 refine c4.1 λz=>?_;have:=rK z (b0 k);have e:a/b*b=a:=by grind
 grind
theorem tV{d M:Rat}(g:x<d)(f:- x<d)(e:y<=M)(c:- y<=M):x*y<=d*M:=by
 rcases(ic:0<=x\/x<=0) with h | h
 ·have b:=dA h (show 0<=M-y by grind);have a:=dA (show 0<=d-x by grind) (show 0<=M by grind);grind
 ·have b:=dA (show 0<=-x by grind) (show 0<=M+y by grind);have a:=dA (show 0<=d+x by grind) (show 0<=M by grind);grind
theorem away(h:¬On e z):∃d:Rat,0<d/\∀w,box z w d->¬On e w:=by
 obtain⟨a,b⟩:=e;unfold On at h;dsimp only at h
 by_cases hc:cross a b z=0
 ·by_cases l:(z.1-a.1)*(z.1-b.1)<=0
  ·have q:0<(z.2-a.2)*(z.2-b.2):=c4.1 λk=>h (cO hc l k);rcases bL q with⟨i,g⟩ | ⟨i,g⟩
   ·by_cases o:z.2-a.2<=z.2-b.2
    ·refine(ab (z.2-a.2) i <| λw hw c=>?_);have:=ff (show 0<w.2-a.2 by unfold box at hw;grind) (show 0<w.2-b.2 by unfold box at hw;grind);have:=c.2.2;grind
    ·refine(ab (z.2-b.2) g <| λw hw c=>?_);have:=ff (show 0<w.2-a.2 by unfold box at hw;grind) (show 0<w.2-b.2 by unfold box at hw;grind);have:=c.2.2;grind
   ·by_cases o:a.2-z.2<=b.2-z.2
    ·refine(ab (a.2-z.2) (by grind) <| λw hw c=>?_);have:=wK (show w.2-a.2<0 by unfold box at hw;grind) (show w.2-b.2<0 by unfold box at hw;grind);have:=c.2.2;grind
    ·refine(ab (b.2-z.2) (by grind) <| λw hw c=>?_);have:=wK (show w.2-a.2<0 by unfold box at hw;grind) (show w.2-b.2<0 by unfold box at hw;grind);have:=c.2.2;grind
  ·rcases bL (c4.1 l) with⟨i,g⟩ | ⟨i,g⟩
   ·by_cases o:z.1-a.1<=z.1-b.1
    ·refine(ab (z.1-a.1) i <| λw hw c=>?_);have:=ff (show 0<w.1-a.1 by unfold box at hw;grind) (show 0<w.1-b.1 by unfold box at hw;grind);have:=c.2.1;grind
    ·refine(ab (z.1-b.1) g <| λw hw c=>?_);have:=ff (show 0<w.1-a.1 by unfold box at hw;grind) (show 0<w.1-b.1 by unfold box at hw;grind);have:=c.2.1;grind
   ·by_cases o:a.1-z.1<=b.1-z.1
    ·refine(ab (a.1-z.1) (by grind) <| λw hw c=>?_);have:=wK (show w.1-a.1<0 by unfold box at hw;grind) (show w.1-b.1<0 by unfold box at hw;grind);have:=c.2.1;grind
    ·refine(ab (b.1-z.1) (by grind) <| λw hw c=>?_);have:=wK (show w.1-a.1<0 by unfold box at hw;grind) (show w.1-b.1<0 by unfold box at hw;grind);have:=c.2.1;grind
 ·have C:=N1 (b.1-a.1);have B:=N1 (b.2-a.2);generalize A:(b.1-a.1)*(b.1-a.1)+1+((b.2-a.2)*(b.2-a.2)+1)=M at *;have p:b.1-a.1<=M/\-(b.1-a.1)<=M/\b.2-a.2<=M/\-(b.2-a.2)<=M:=by grind
  have n:0<M:=by
   have r:0<=(b.1-a.1)*(b.1-a.1):=by
    rcases(ic:0<=b.1-a.1\/b.1-a.1<=0) with h | h
    ·exact dA h h
    ·exact tM h h
   grind
  have f:∀w d,box z w d->On (a,b) w->cross a b z<=2*(d*M)/\- cross a b z<=2*(d*M):=by
   intro w d hw c;have m:cross a b w=0:=c.1;have e:cross a b z=(b.1-a.1)*(z.2-w.2)-(b.2-a.2)*(z.1-w.1):=by
    have:cross a b z=cross a b z-cross a b w:=by grind
    rw[this];unfold cross;grind
   unfold box at hw;have v:=tV (x:=z.2-w.2) (y:=b.1-a.1) (d:=d) (M:=M) (by grind) (by grind) (by grind) (by grind);have u:=tV (x:=z.1-w.1) (y:=b.2-a.2) (d:=d) (M:=M) (by grind) (by grind) (by grind) (by grind);have t:=tV (x:=w.2-z.2) (y:=b.1-a.1) (d:=d) (M:=M) (by grind) (by grind) (by grind) (by grind);have s:=tV (x:=w.1-z.1) (y:=b.2-a.2) (d:=d) (M:=M) (by grind) (by grind) (by grind) (by grind);rw[e];constructor <;> grind
  rcases Cj (cross a b z) with j | j | j
  ·refine(ab (- cross a b z/(4*M)) (gM (by grind) (by grind)) <| λw hw c=>?_);have:=f w _ hw c;have e:- cross a b z/(4*M)*M=- cross a b z/4:=by grind
   rw[e]at this;grind
  ·exact absurd j hc
  ·refine(ab (cross a b z/(4*M)) (gM (by grind) (by grind)) <| λw hw c=>?_);have:=f w _ hw c;have e:cross a b z/(4*M)*M=cross a b z/4:=by grind
   rw[e]at this;grind
theorem vU{d K:Rat}(h:0<d):Ev λx=>x*K<d:=by
 refine(pO (a:=d) (b:=-K) h).mono λx _ k=>by grind
theorem xJ{d:Rat}(h:0<d):Ev λx=>x<d:=(vU (K:=1) h).mono λx _ k=>by grind
theorem conv{u v t d:Rat}(h0:0<=t)(g:t<=1)(f:u<d)(e:v<d):u+t*(v-u)<d:=by
 have a:=dA h0 (show 0<=d-v by grind);have b:=dA (show 0<=1-t by grind) (show 0<=d-u by grind)
 by_cases k:t=0
 ·subst k;grind
 ·have c:=ff (show 0<t by grind) (show 0<d-v by grind);grind
theorem IY{t d:Rat}(h0:0<=t)(c:t<=1)(b:box z q d)(a:box z r d):box z (aI q r t) d:=by
 unfold box aI at *;dsimp only;have h:=conv h0 c b.1 a.1
 have g:=conv h0 c b.2.1 a.2.1
 have f:=conv h0 c b.2.2.1 a.2.2.1
 have e:=conv h0 c b.2.2.2 a.2.2.2
 grind
theorem DC(z u:At){d:Rat}(h:0<d):Ev λx=>box z (bp z u x) d:=by
 refine((vU (K:=u.1) h).and ((vU (K:=-u.1) h).and ((vU (K:=u.2) h).and (vU (K:=-u.2) h)))).mono λx _ k=>?_;unfold box bp;dsimp only;grind
theorem pI(h:¬On e z)(u v:At):Ev λx=>fU e (bp z u x) (bp z v x):=by
 refine ae (away h) λd b k=>?_;refine((DC z u b).and (DC z v b)).mono λx _ c=>cE c λl j=>wm λw hw i=>?_;refine aH (fq.1 i) λt g f a=>?_;subst a;exact k _ (IY g f l j) hw
def Clear(e:Seg)(p q:At):Prop:=(On e p/\On e q)\/∀t,0<t->t<1->¬On e (aI p q t)
theorem hH(p q:At)(s t u:Rat):aI (aI p q s) (aI p q t) u=aI p q (s+u*(t-s)):=by
 unfold aI;exact a9 (by dsimp only;grind) (by dsimp only;grind)
theorem conv'{u v t:Rat}(h0:0<=t)(a:t<=1)(c:0<u)(b:0<v):0<u+t*(v-u):=by
 have:=conv (u:=-u) (v:=-v) (t:=t) (d:=0) h0 a (by grind) (by grind)
 grind
theorem B6(C:Clear e p q){s t:Rat}(l:0<s)(c:s<1)(k:0<t)(b:t<1):fU e (aI p q s) (aI p q t):=by
 rcases C with⟨j,i⟩ | h
 ·refine .inr (.inr ⟨?_,?_⟩)
  ·rw[g9,j.1,i.1];grind
  ·rw[g9,j.1,i.1];grind
 ·refine wm λz g m=>?_;refine aH (fq.1 m) λu f d a=>?_;subst a;rw[hH]at g;exact h _ (conv' f d l k) (conv f d c b) g
theorem Ca(A:fU e q r)(n:At):Ev λx=>fU e (bp q n x) (bp r n x):=by
 unfold fU at *;have i:∀x,cross (bp q n x) (bp r n x) e.1=cross q r e.1+x*(-((r.1-q.1)*n.2-(r.2-q.2)*n.1)):=λx=>by unfold cross bp;dsimp only;grind
 have j:∀x,cross (bp q n x) (bp r n x) e.2=cross q r e.2+x*(-((r.1-q.1)*n.2-(r.2-q.2)*n.1)):=λx=>by unfold cross bp;dsimp only;grind
 let f:=(e.2.1-e.1.1)*n.2-(e.2.2-e.1.2)*n.1
 let d:=-((r.1-q.1)*n.2-(r.2-q.2)*n.1)
 rcases A with A | A | ⟨A,B⟩
 ·rcases bL A with⟨c,a⟩ | ⟨c,a⟩
  ·refine((pO (b:=f) c).and (pO (b:=f) a)).mono λx _ h=>.inl ?_;rw[dg,dg];exact ff h.1 h.2
  ·refine((vT (b:=f) c).and (vT (b:=f) a)).mono λx _ h=>.inl ?_;rw[dg,dg];exact wK h.1 h.2
 ·rcases bL A with⟨c,a⟩ | ⟨c,a⟩
  ·refine((pO (b:=d) c).and (pO (b:=d) a)).mono λx _ h=>.inr (.inl ?_);rw[i,j];exact ff h.1 h.2
  ·refine((vT (b:=d) c).and (vT (b:=d) a)).mono λx _ h=>.inr (.inl ?_);rw[i,j];exact wK h.1 h.2
 ·refine .of λx g=>?_;grind[dg,Cj,Em,wK,ff]
theorem Cw(C:iO L)(K:∀e,e∈L->Clear e p q){s t:Rat}(d:0<s)(b:s<1)(c:0<t)(a:t<1)(n:At):
  Ev λx=>iM L (bp (aI p q s) n x)=iM L (bp (aI p q t) n x):=
 (Ev.all λe f=>Ca (B6 (K e f) d b c a) n).mono λx _ h=>transport C h
def c9(d n:At):Rat:=d.1*n.2-d.2*n.1
def aP(p q:At):At:=(q.1-p.1,q.2-p.2)
theorem along(h:On e p)(g:On e q)(f:p≠q):∃k:Rat,k≠0/\e.2.1-e.1.1=k*(q.1-p.1)/\e.2.2-e.1.2=k*(q.2-p.2):=by
 obtain⟨a,b⟩:=e;refine aH (fq.1 h) λs m l c=>?_;subst c;refine aH (fq.1 g) λt j i c=>?_;subst c;have d:t-s≠0:=by
  grind
 refine(a8 (1/(t-s)) ?_ ?_ ?_)
 ·grind
 ·unfold aI;grind
 ·unfold aI;grind
theorem g8(i:On e p)(h:On e q){t:Rat}(d:0<=t)(k:t<=1):On e (aI p q t):=by
 obtain⟨a,b⟩:=e;refine aH (fq.1 i) λs g l c=>?_;subst c;refine aH (fq.1 h) λu f j c=>?_;subst c;rw[hH];refine gW a b ?_ ?_
 ·have:=dA d f;have:=dA (show 0<=1-t by grind) g;grind
 ·have:=dA d (show 0<=1-u by grind);have:=dA (show 0<=1-t by grind) (show 0<=1-s by grind);grind
theorem sq_pos{k:Rat}(h:k≠0):0<k*k:=by
 grind[Cj,wK,ff]
theorem GF(C:iO L)(d:p≠q)(K:∀e,e∈L->Clear e p q){t:Rat}(l:0<t)(b:t<1){a:At}(r:0<c9 (aP p q) n)(o:0<c9 (aP p q) a):Ev λx=>iM L (bp (aI p q t) n x)=iM L (bp (aI p q t) a x):=by
 refine(Ev.all λe m=>?_).mono λx _ h=>transport C h;show Ev λx=>fU e (bp (aI p q t) n x) (bp (aI p q t) a x);rcases K e m with⟨g,f⟩ | k
 ·refine .of λx i=>.inl ?_;refine aH (along g f d) λc u c1 c2=>?_;have j:cross e.1 e.2 (aI p q t)=0:=by rw[g9,g.1,f.1];grind
  rw[dg,dg,j,c1,c2];have s:(0+x*(c*(q.1-p.1)*n.2-c*(q.2-p.2)*n.1))*(0+x*(c*(q.1-p.1)*a.2-c*(q.2-p.2)*a.1))=(x*x)*((c*c)*(c9 (aP p q) n*c9 (aP p q) a)):=by
   unfold c9 aP;dsimp only;grind
  rw[s];exact ff (ff i i) (ff (sq_pos u) (ff r o))
 ·exact pI (k t l b) n a
def l_(L:List Seg)(p q:At)(c:Bool):Prop:=∀t n,0<t->t<1->0<c9 (aP p q) n->Ev λx=>iM L (bp (aI p q t) n x)=c
theorem AJ(C:iO L)(i:p≠q)(K:∀e,e∈L->Clear e p q){s:Rat}{c:Bool}(k:0<s)(f:s<1)(r:0<c9 (aP p q) n)(h:Ev λx=>iM L (bp (aI p q s) n x)=c):l_ L p q c:=λt m o g j=>by
 refine(h.and ((GF C i K k f r j).and (Cw C K k f o g m))).mono λx _ l=>fb l λa b d=>?_;rw[<-d,<-b,a]
theorem kh(p q:At)(t:Rat):aI q p t=aI p q (1-t):=by
 unfold aI;grind
theorem Clear.rev(h:Clear e p q):Clear e q p:=by
 rcases h with h | h
 ·exact .inl ⟨h.2,h.1⟩
 ·exact .inr λt b a=>by grind[kh]
def holds(p q:At)(e:Seg):Bool:=decide (On e p/\On e q)
theorem Fz(C:iO L)(g:p≠q)(K:∀e,e∈L->Clear e p q){c v:Bool}(h:l_ L p q c)(M:l_ L q p v):(c^^v)=px (holds p q) L:=by
 obtain⟨n,j⟩:∃n,0<c9 (aP p q) n:=by
  have:q.1-p.1≠0\/q.2-p.2≠0:=by
   grind
  rcases this with k | k
  ·exact⟨(0,q.1-p.1),by unfold c9 aP;dsimp only;have:=sq_pos k;grind⟩
  ·exact⟨(-(q.2-p.2),0),by unfold c9 aP;dsimp only;have:=sq_pos k;grind⟩
 have J:=h (1/2) n (by grind) (by grind) j;have w:=M (1/2) (-n.1,-n.2) (by grind) (by grind) (by unfold c9 aP at *;grind);have em:aI q p (1/2)=aI p q (1/2):=by rw[kh];congr 1;grind
 rw[em]at w;have I:Ev λx=>∀e,e∈L->(holds p q e=true/\iE e (bp (aI p q (1/2)) n x) (bp (aI p q (1/2)) (-n.1,-n.2) x))\/(holds p q e=false/\fU e (bp (aI p q (1/2)) n x) (bp (aI p q (1/2)) (-n.1,-n.2) x)):=by
  refine Ev.all λe G=>?_
  by_cases k:On e p/\On e q
  ·refine .of λx i=>.inl ⟨bE k,?_⟩;refine cE k λo l=>?_;have E:cross e.1 e.2 (aI p q (1/2))=0:=by rw[g9,o.1,l.1];grind
   refine aH (along o l g) λc P c1 c2=>?_;have r:=sq_pos P;constructor
   ·rw[dg,dg,E,c1,c2];have t:(0+x*(c*(q.1-p.1)*n.2-c*(q.2-p.2)*n.1))*(0+x*(c*(q.1-p.1)*(-n.2)-c*(q.2-p.2)*(-n.1)))=-((x*x)*((c*c)*(c9 (aP p q) n*c9 (aP p q) n))):=by
     unfold c9 aP;dsimp only;grind
    rw[t];have:=ff (ff i i) (ff r (ff j j));grind
   ·obtain⟨a,b⟩:=e;refine aH (fq.1 o) λs T S f=>?_;subst f;refine aH (fq.1 l) λu R Q f=>?_;subst f;have F:s≠u:=λz=>g (by rw[z]);rw[hH];generalize U:s+1/2*(u-s)=m;have D:0<m/\m<1:=by
     grind
    dsimp only;have B:c9 (aP (aI a b s) (aI a b u)) n=(u-s)*c9 (aP a b) n:=by unfold c9 aP aI;dsimp only;grind
    rw[B]at j;have H:c9 (aP a b) n≠0:=by
     intro z
     simp_all
    have t:cross (bp (aI a b m) n x) (bp (aI a b m) (-n.1,-n.2) x) a=-(2*x*m*c9 (aP a b) n):=by
     unfold cross bp aI c9 aP;dsimp only;grind
    have O:cross (bp (aI a b m) n x) (bp (aI a b m) (-n.1,-n.2) x) b=2*x*(1-m)*c9 (aP a b) n:=by
     unfold cross bp aI c9 aP;dsimp only;grind
    rw[t,O];have N:-(2*x*m*c9 (aP a b) n)*(2*x*(1-m)*c9 (aP a b) n)=-(4*((x*x)*((m*(1-m))*(c9 (aP a b) n*c9 (aP a b) n)))):=by grind
    rw[N];have:=ff (ff i i) (ff (ff D.1 (show 0<1-m by grind)) (sq_pos H));grind
  ·refine(pI ?_ n (-n.1,-n.2)).mono λx _ A=>.inr ⟨di k,A⟩;rcases K e G with z | z
   ·exact absurd z k
   ·exact z (1/2) (by grind) (by grind)
 refine((J.and (w.and I)).mono λx _ y=>fb y λa b d=>?_:Ev λ_=>(c^^v)=px (holds p q) L).const;rw[<-tj C (holds p q) d,a,b]
theorem GS(L:List Seg)(q:At):Ev λx=>iM L q=iM L (bp q (1,0) x):=by
 refine(Ev.all (l:=L) (P:=λe x=>eM q e=eM (bp q (1,0) x) e) λe _=>?_).mono λx _ h=>cP h;refine(kP (cross e.1 e.2 q) (-(e.2.2-e.1.2))).mono λx f a=>cE a λd c=>?_;have b:cross e.1 e.2 (bp q (1,0) x)=cross e.1 e.2 q+x*(-(e.2.2-e.1.2)):=by rw[dg];grind
 unfold eM;rw[b];have g:(bp q (1,0) x).2=q.2:=by unfold bp;dsimp only;grind
 grind
theorem Gh(C:iO L){c:Bool}(h:p.1<q.1)(S:l_ L p q c):l5 L (aI p q (1/2))=c:=by
 have a:=S (1/2) (0,1) (by grind) (by grind) (by unfold c9 aP;dsimp only;grind);exact((a.and (Ld C (aI p q (1/2)))).mono λx _ k=>k.2.trans k.1).const
theorem nH(C:iO L){c:Bool}(h:p.1=q.1)(i:p.2<q.2)(S:l_ L q p c):l5 L (aI p q (1/2))=c:=by
 have d:0<(q.2-p.2)/2:=by grind
 refine aH (((Ld C (aI p q (1/2))).and (xJ d)).get) λx b a g=>?_;rw[a];have e:bp (aI p q (1/2)) (0,1) x=aI q p (1/2-x/(q.2-p.2)):=by
  unfold bp aI;grind
 rw[e];have l:=gM b (show 0<q.2-p.2 by grind);have j:x/(q.2-p.2)<1/2:=by
  refine c4.1 λz=>?_;have:=dA (show 0<=x/(q.2-p.2)-1/2 by grind) (show 0<=q.2-p.2 by grind);have:x/(q.2-p.2)*(q.2-p.2)=x:=by grind
  grind
 have f:=S (1/2-x/(q.2-p.2)) (1,0) (by grind) (by grind) (by unfold c9 aP;dsimp only;grind);exact((f.and (GS L _)).mono λx _ k=>k.2.trans k.1).const
theorem cn{b:At}:sooner a b=true↔a.1<b.1\/(a.1=b.1/\a.2<b.2):=by
 unfold sooner;simp
theorem cj(a:At):¬sooner a a=true:=by rw[cn];grind
theorem fI{b:At}(h:sooner a b=true)(k:sooner b c=true):sooner a c=true:=by rw[cn]at *;grind
theorem eY(a b:At):sooner a b=true\/a=b\/sooner b a=true:=by
 grind[cn,Prod.ext]
theorem bR{b:At}(h:sooner a b=true):a≠b:=λe=>cj b (by rw[e]at h;exact h)
theorem bA{b:At}(h:sooner a b=true):¬sooner b a=true:=λk=>cj a (fI h k)
theorem nM{s t:Rat}(h:sooner p q=true)(k:s<t):sooner (aI p q s) (aI p q t)=true:=by
 rw[cn]at *;unfold aI;dsimp only;rcases h with h | ⟨a,b⟩
 ·have:=ff (show 0<t-s by grind) (show 0<q.1-p.1 by grind);grind
 ·have:=ff (show 0<t-s by grind) (show 0<q.2-p.2 by grind);right;constructor
  ·rw[a];grind
  ·grind
theorem hJ(p q:At):aI p q 0=p:=by unfold aI;grind
theorem hI(p q:At):aI p q 1=q:=by unfold aI;grind
theorem j0{t:Rat}(h:sooner p q=true)(d:0<t)(c:t<1):sooner p (aI p q t)=true/\sooner (aI p q t) q=true:=by
 have a:=nM h d;have b:=nM h c;rw[hJ]at a;rw[hI]at b;exact⟨a,b⟩
theorem fQ{s t:Rat}(h:sooner p q=true):sooner (aI p q s) (aI p q t)=true↔s<t:=by
 grind[nM,cj,bA]
theorem jd{s t:Rat}(h:p≠q)(k:aI p q s=aI p q t):s=t:=by
 have b:(aI p q s).1=(aI p q t).1:=by rw[k]
 have a:(aI p q s).2=(aI p q t).2:=by rw[k]
 unfold aI at b a;grind
theorem eT(h:p≠q)(k:cross p q c=0):∃t,c=aI p q t:=by
 unfold cross at k
 by_cases z:q.1-p.1=0
 ·have y:q.2-p.2≠0:=λy=>h (a9 (by grind) (by grind));have d:=cg (a:=c.1-p.1) (b:=q.2-p.2) (by grind) y;refine⟨(c.2-p.2)/(q.2-p.2),?_⟩;have:(c.2-p.2)/(q.2-p.2)*(q.2-p.2)=c.2-p.2:=by grind
  unfold aI;grind
 ·refine⟨(c.1-p.1)/(q.1-p.1),?_⟩;have e:(c.1-p.1)/(q.1-p.1)*(q.1-p.1)=c.1-p.1:=by grind
  generalize (c.1-p.1)/(q.1-p.1)=t at *;have d:=cg (a:=c.2-p.2-t*(q.2-p.2)) (b:=q.1-p.1) (by grind) z;unfold aI;grind
def para(e f:Seg):Prop:=(e.2.1-e.1.1)*(f.2.2-f.1.2)=(e.2.2-e.1.2)*(f.2.1-f.1.1)
def Meet(e f:Seg)(z:At):Prop:=On e z/\((para e f/\(z=f.1\/z=f.2))\/(¬para e f/\On f z))
def Cut(E:List Seg)(e:Seg)(z:At):Prop:=∃f,f∈E/\Meet e f z
def bC(E:List Seg)(p q:At):Prop:=∃e,e∈E/\Cut E e p/\Cut E e q/\sooner p q=true/\∀z,Cut E e z->sooner p z=true->sooner z q=true->False
theorem Cut.on{E:List Seg}(h:Cut E e z):On e z:=by
 refine aH h λf _ h _=>?_;exact h
theorem rH(a b:At):On (a,b) a:=by
 have:=gW a b (t:=0) (by grind) (by grind);rw[hJ]at this;exact this
theorem nQ(a b:At):On (a,b) b:=by
 have:=gW a b (t:=1) (by grind) (by grind);rw[hI]at this;exact this
theorem iK(d:cross e.1 e.2 p=0)(b:cross e.1 e.2 q=0)(a:e.1≠e.2)(hc:cross e.1 e.2 c=0):cross p q c=0:=by
 obtain⟨s,rfl⟩:=eT a d;obtain⟨t,rfl⟩:=eT a b;obtain⟨u,rfl⟩:=eT a hc;unfold cross aI;dsimp only;grind
theorem en{E:List Seg}(N:∀e,e∈E->e.1≠e.2)(h:bC E p q):∀f,f∈E->Clear f p q:=by
 intro f C;refine dG h λe he P O L S=>?_;have j:=bR L
 by_cases D:∃t,0<t/\t<1/\On f (aI p q t)
 ·refine aH D λt I H K=>?_;have M:On e (aI p q t):=g8 P.on O.on (by grind) (by grind);have R:=j0 L I H
  by_cases J:para e f
  ·left;have l:∀c,cross f.1 f.2 c=0->cross p q c=0:=by
    intro c hc;refine aH (along P.on O.on j) λk X k1 k2=>?_;unfold para at J;have Y:=K.1;have F:k*((q.1-p.1)*(f.2.2-f.1.2)-(q.2-p.2)*(f.2.1-f.1.1))=0:=by grind
    have n:=cg (a:=(q.1-p.1)*(f.2.2-f.1.2)-(q.2-p.2)*(f.2.1-f.1.1)) (b:=k) (by grind) X;obtain⟨u,A⟩:=eT (N f C) hc;obtain⟨v,Z⟩:=eT (N f C) Y;have e3:cross p q c-cross p q (aI p q t)=(u-v)*((q.1-p.1)*(f.2.2-f.1.2)-(q.2-p.2)*(f.2.1-f.1.1)):=by
     rw[Z,A];unfold cross aI;dsimp only;grind
    have e4:cross p q (aI p q t)=0:=by unfold cross aI;dsimp only;grind
    rw[n,e4]at e3;grind
   have W:=l f.1 (by unfold cross;grind);have V:=l f.2 (by unfold cross;grind);obtain⟨d,F⟩:=eT j W;obtain⟨g,n⟩:=eT j V;have i:∀s c,c=aI p q s->(c=f.1\/c=f.2)->0<s->s<1->False:=by
    intro s c T hc h0 h1;have m:=j0 L h0 h1;rw[<-T]at m;refine S c (a8 f C ?_ <| .inl ⟨J,hc⟩) m.1 m.2;rw[T];exact g8 P.on O.on (by grind) (by grind)
   have B:On (f.1,f.2) (aI p q t):=K;rw[F,n]at B;refine aH (fq.1 B) λu G u1 A=>?_;rw[hH]at A;have A:=jd j A;have n1:=i d f.1 F (.inl rfl);have n2:=i g f.2 n (.inr rfl);have Q:d≠g:=λz=>N f C (by rw[F,n,z]);have a1:=dA G (show 0<=1-u by grind);have U:(d<=0/\1<=g)\/(g<=0/\1<=d):=by
    rcases(show d<g\/g<d by grind) with o | o
    ·have b1:=dA G (show 0<=g-d by grind);have b2:=dA (show 0<=1-u by grind) (show 0<=g-d by grind);left;grind
    ·have b1:=dA G (show 0<=d-g by grind);have b2:=dA (show 0<=1-u by grind) (show 0<=d-g by grind);grind
   have w:∀r,0<=r->r<=1->On f (aI p q r):=by
    intro r r0 r1;show On (f.1,f.2) _;rw[F,n];refine fq.2 (a8 ((r-d)/(g-d)) ?_ ?_ ?_)
    ·grind[oM,sF,rK]
    ·refine(oM (x:=r-d) (y:=g-d) ?_ (by grind)).2;grind[sF,rK]
    grind[hH]
   have o1:=w 0 (by grind) (by grind);have o2:=w 1 (by grind) (by grind);grind[hJ,hI]
  ·exact(S _ (a8 f C M <| .inr ⟨J,K⟩) R.1 R.2).elim
 ·exact .inr λt I H k=>D (a8 t I H k)
theorem vk{f:Seg}(a:p≠q)(m:On e p)(j:On e q)(i:On e' p)(h:On e' q):para e f↔para e' f:=by
 refine aH (along m j a) λk o g d=>?_;refine aH (along i h a) λl n c b=>?_;unfold para;rw[g,d,c,b];constructor
 ·grind
 grind
theorem sS{E:List Seg}(a:p≠q)(j:On e p)(i:On e q)(h:On e' p)(g:On e' q)(l:Cut E e z)(d:On e' z):Cut E e' z:=by
 refine aH l λf m _ k=>?_;refine(a8 f m d ?_);rcases k with⟨c,b⟩ | ⟨c,b⟩
 ·exact .inl ⟨(vk a j i h g).1 c,b⟩
 ·exact .inr ⟨λw=>c ((vk a j i h g).2 w),b⟩
theorem iD{E:List Seg}(N:∀e,e∈E->e.1≠e.2)(h:bC E p q)(a:e'∈E){t:Rat}(c:0<t)(b:t<1)(d:Cut E e' (aI p q t)):False:=by
 have K:=en N h e' a;refine dG h λe o i g f n=>?_;rcases K with⟨l,j⟩ | k
 ·have m:=j0 f c b;exact n _ (sS (bR f) l j i.on g.on d (g8 i.on g.on (by grind) (by grind))) m.1 m.2
 ·exact k t c b d.on
theorem gq{E:List Seg}(h:bC E p q):(∃e,e∈E/\Cut E e p)/\(∃e,e∈E/\Cut E e q):=by
 obtain⟨e,a,c,b,_⟩:=h;exact⟨(ab e a c),(ab e a b)⟩
theorem bq{E:List Seg}(h:bC E p q):sooner p q=true:=by
 refine dG h λe b d c a _=>?_;exact a
theorem mq{E:List Seg}(N:∀e,e∈E->e.1≠e.2){f d:At}(h:bC E p q)(j:bC E f d){s t:Rat}(L:0<s)(J:s<1)(I:0<t)(V:t<1)(e:aI p q s=aI f d t):p=f/\q=d:=by
 have B:=bq h;have n:=bq j;have a:=bR B;have C:=bR n;obtain⟨⟨ep,w,U⟩,⟨eq,r,S⟩⟩:=gq h;obtain⟨⟨Q,i,T⟩,⟨P,g,R⟩⟩:=gq j;refine dG (id j) λc b F D _ _=>?_;have K:=en N h c b;have m:On c (aI p q s):=by rw[e];exact g8 F.on D.on (by grind) (by grind)
 have K:On c p/\On c q:=by
  rcases K with K | K
  ·exact K
  ·exact absurd m (K s L J)
 obtain⟨u,A⟩:=eT a (iK K.1.1 K.2.1 (N c b) F.on.1);obtain⟨v,x⟩:=eT a (iK K.1.1 K.2.1 (N c b) D.on.1);have M:u<v:=(fQ B).1 (by simp_all);have O:s=u+t*(v-u):=by
  rw[A,x,hH]at e;exact jd a e
 have b1:=ff I (show 0<v-u by grind);have b2:=ff (show 0<1-t by grind) (show 0<v-u by grind);have X:¬0<u:=λz=>iD N h i z (by grind) (by simp_all);have W:¬v<1:=λz=>iD N h g (by grind) z (by simp_all);have Z:¬u<0:=λz=>by
  have o:p=aI f d (-u/(v-u)):=by
   grind[hH,hJ]
  have l:=gM (show 0 < -u by grind) (show 0<v-u by grind);have k:-u/(v-u)<1:=by
   refine c4.1 λy=>?_;have:=dA (show 0<=-u/(v-u)-1 by grind) (show 0<=v-u by grind);have:-u/(v-u)*(v-u)=-u:=by grind
   grind
  exact iD N j w l k (by rw[<-o];exact U)
 have Y:¬1<v:=λz=>by
  have o:q=aI f d ((1-u)/(v-u)):=by
   grind[hH,hI]
  have l:=gM (show 0<1-u by grind) (show 0<v-u by grind);have k:(1-u)/(v-u)<1:=by
   refine c4.1 λy=>?_;have:=dA (show 0<=(1-u)/(v-u)-1 by grind) (show 0<=v-u by grind);have:(1-u)/(v-u)*(v-u)=1-u:=by grind
   grind
  exact iD N j r l k (by rw[<-o];exact S)
 have H:u=0:=by grind
 have G:v=1:=by grind
 rw[A,x,H,G,hJ,hI];exact⟨rfl,rfl⟩
section
variable{α:Type}[DecidableEq α]
noncomputable def dd(l:List α):List α:=l.foldr (λp r=>match r with
 | q::_=>if p=q then r else p::r
 | []=>[p]) []
theorem EJ(x:α)(l:List α):dd (x::l)=match dd l with
 | q::r=>if x=q then q::r else x::q::r
 | []=>[x]:=by
 show(match dd l with | q::_=>if x=q then dd l else x::dd l | []=>[x])=_;cases h:dd l <;> rfl
theorem vA{y:α}:∀{l:List α},y∈dd l↔y∈l
 | []=>Iff.rfl
 | x::l=>by
  have a:=vA (y:=y) (l:=l);rw[EJ];cases h:dd l with
  | nil=>simp_all
  | cons q r=>
   grind
theorem kQ{R S:α->α->Prop}(m:∀a b,R a b->a=b\/S a b)(g:∀a b c,S a b->S b c->S a c):∀{l:List α},l.Pairwise R->(dd l).Pairwise S
 | [],_=>List.Pairwise.nil
 | x::l,h=>by
  have d:=kQ m g (dD.1 h).2;have n:=(dD.1 h).1;have j:=λy=>vA (y:=y) (l:=l);rw[EJ];cases e:dd l with
  | nil=>exact List.pairwise_singleton _ _
  | cons q r=>
   rw[e]at d j
   by_cases k:x=q
   ·simp only[ak k];exact d
   ·simp only[ai k];have i:S x q:=by
     grind
    refine dD.2 ⟨λy f=>?_,d⟩;rcases aY.1 f with rfl | f
    ·exact i
    ·exact g _ _ _ i ((dD.1 d).1 y f)
end
theorem c8{α:Type}{S:α->α->Prop}(k:∀a,¬S a a)(c:∀a b,S a b->¬S b a){x y:α}:∀{l:List α},l.Pairwise S->((x,y)∈l.zip (l.drop 1)↔x∈l/\y∈l/\S x y/\∀z,z∈l->S x z->S z y->False)
 | [],_=>by simp
 | [a],_=>by
  simp_all
 | a::b::l,h=>by
  have g:=dD.1 h;have p:=c8 k c (x:=x) (y:=y) g.2;have e:(a::b::l).zip ((a::b::l).drop 1)=(a,b)::(b::l).zip ((b::l).drop 1):=by
   simp
  rw[e,aY,p];constructor
  ·rintro(r | ⟨n,j,f,k4⟩)
   ·simp_all
   grind
  ·rintro⟨n,j,f,k4⟩;rcases aY.1 n with o | m
   ·left;rcases aY.1 j with i | d
    ·simp_all
    ·rcases aY.1 d with i | d
     ·rw[o,i]
     ·rw[o]at k4;exact(k4 b (by simp) (g.1 _ (by simp)) ((dD.1 g.2).1 _ d)).elim
   ·right;rcases aY.1 j with i | d
    ·rw[i]at f;exact absurd f (c _ _ (g.1 _ m))
    ·exact(oX m d f <| λz q=>k4 z (cN _ q))
theorem vL(l:List At):inOrder l=dd (l.mergeSort λa b=>!sooner b a):=by
 unfold inOrder dd
 congr 1
 funext p r
 cases r <;> rfl
theorem Fv(a b:At):((!sooner b a) || (!sooner a b))=true:=by
 grind[eY,bA,cj]
theorem le_trans'(a b c:At)(h:(!sooner b a)=true)(k:(!sooner c b)=true):(!sooner c a)=true:=by
 grind[Bool.not_eq_true',eY,fI]
theorem tF{l:List At}:z∈inOrder l↔z∈l:=by rw[vL,vA,qQ]
theorem dJ(l:List At):(inOrder l).Pairwise λa b=>sooner a b=true:=by
 rw[vL];refine kQ (R:=λa b=>(!sooner b a)=true) (S:=λa b=>sooner a b=true) ?_ (λa b c h k=>fI h k) (nq le_trans' Fv l);grind[eY]
def E(s:Both):List Seg:=(allEdges s).map seg
theorem Ji(s:Both):E s=dX s.a++dX s.b:=by unfold E dX allEdges;rw[b9]
theorem NS{a b:Corner}(h:at_ a=at_ b):a=b:=by
 unfold at_ at h;have c:=cy h;exact a9 (jU.1 c.1) (jU.1 c.2)
theorem km{d:Drawing}{e:Edge}(h:e∈edges d):e.1≠e.2:=by
 unfold edges at h;refine ae (bV.1 h) λr _ a=>?_;unfold edgesOf at a
 simp_all
theorem yi{d:Drawing}:∀e,e∈dX d->e.1≠e.2:=by
 intro e b;obtain⟨f,a,rfl⟩:=aw.1 b;exact λk=>km a (NS k)
theorem mI:∀e,e∈E s->e.1≠e.2:=by
 intro e a;grind[Ji,yi]
theorem G'{α:Type}(f:α->Bool):∀l m,l.length=m.length->px (λe:α×α=>f e.1^^f e.2) (l.zip m)=(px f l^^px f m)
 | [],[],_=>rfl
 | a::l,b::m,h=>by
  show((f a^^f b)^^px _ (l.zip m))=((f a^^px f l)^^(f b^^px f m))
  rw[G' f l m (by simpa using h)];cases f a <;> cases f b <;> cases px f l <;> cases px f m <;> rfl
 | [],_::_,h=>by simp at h
 | _::_,[],h=>by simp at h
theorem B5(r:Ring):∀f:At->Bool,px (λe=>f (seg e).1^^f (seg e).2) (edgesOf r)=false:=by
 intro f;unfold edgesOf;rw[sA];have a:px (λe:Edge=>(e.1 !=e.2)&&(f (seg e).1^^f (seg e).2)) (r.zip (r.drop 1++r.take 1))=px (λe:Edge=>f (at_ e.1)^^f (at_ e.2)) (r.zip (r.drop 1++r.take 1)):=by
  refine cP λe _=>?_;show((e.1 !=e.2)&&(f (at_ e.1)^^f (at_ e.2)))=_
  by_cases k:e.1=e.2
  ·rw[k];simp
  ·simp[k]
 rw[a,G' (λc=>f (at_ c))]
 ·have p:(r.drop 1++r.take 1).Perm r:=zW.trans (by rw[List.take_append_drop]);rw[yr p,Bool.xor_self]
 grind
theorem de(d:Drawing):iO (dX d):=by
 intro f;unfold dX;rw[kT];unfold edges
 induction d with
 | nil=>rfl
 | cons r d a=>rw[gv,jJ,a,B5 r f];rfl
theorem xu{e f:Edge}(v:e.1≠e.2):z∈meets e f↔Meet (seg e) (seg f) z:=by
 unfold meets Meet para seg;dsimp only;generalize y:at_ e.1=a;generalize x:at_ e.2=b;generalize hc:at_ f.1=c;generalize u:at_ f.2=g;have l:cross a b g-cross a b c=(b.1-a.1)*(g.2-c.2)-(b.2-a.2)*(g.1-c.1):=by unfold cross;grind
 have j:∀p,On (a,b) p↔cross a b p=0/\(decide ((p.1-a.1)*(p.1-b.1)<=0)&&decide ((p.2-a.2)*(p.2-b.2)<=0))=true:=by
  intro p;unfold On;simp
 by_cases d:cross a b c=cross a b g
 ·rw[ak d];have i:(b.1-a.1)*(g.2-c.2)=(b.2-a.2)*(g.1-c.1):=by grind
  simp only[i,jM,um,jN,p6]
  by_cases h0:cross a b c=0
  ·rw[ak h0,bh,j];grind
  grind
 ·rw[ai d];have i:¬(b.1-a.1)*(g.2-c.2)=(b.2-a.2)*(g.1-c.1):=by grind
  simp only[i,jN,qO,jM,false_or];have w:cross a b c-cross a b g≠0:=by grind
  have s:cross a b c/(cross a b c-cross a b g)*(cross a b c-cross a b g)=cross a b c:=by grind
  generalize A:cross a b c/(cross a b c-cross a b g)=t at *;show(z∈if 0<=t/\t<=1/\(decide (((aI c g t).1-a.1)*((aI c g t).1-b.1)<=0)&&decide (((aI c g t).2-a.2)*((aI c g t).2-b.2)<=0))=true then [aI c g t] else [])↔_;have r:cross a b (aI c g t)=0:=by rw[g9];grind
  constructor
  ·intro h;split at h
   ·grind[gW]
   ·simp at h
  ·rintro⟨n,m⟩;obtain⟨τ,q,o,rfl⟩:=fq.1 m;have k:=n.1;dsimp only at k;rw[g9]at k;grind
theorem eW{e:Edge}(d:e∈allEdges s):z∈inOrder (at_ e.1::at_ e.2::(allEdges s).flatMap (meets e))↔Cut (E s) (seg e) z:=by
 have a:e.1≠e.2:=by
  unfold allEdges at d;grind[km]
 rw[tF,aY,aY,bV];have self:∀z,z=at_ e.1\/z=at_ e.2->Cut (E s) (seg e) z:=by
  intro z c;refine(a8 (seg e) (aw.2 (ab e d rfl)) ?_ <| .inl ⟨?_,c⟩)
  ·rcases c with rfl | rfl
   ·exact rH _ _
   ·exact nQ _ _
  ·unfold para;grind
 constructor
 ·rintro(h | h | ⟨f,b,h⟩)
  ·exact self z (.inl h)
  ·exact self z (.inr h)
  ·exact(ab (seg f) (aw.2 (ab f b rfl)) <| (xu a).1 h)
 ·rintro⟨g,i,h⟩;obtain⟨f,b,rfl⟩:=aw.1 i;exact .inr (.inr (ab f b <| (xu a).2 h))
noncomputable def gV(x y:Piece):Bool:=sooner x.1 y.1 || (x.1==y.1&&!sooner y.2 x.2)
def ik(x y:Piece):Prop:=sooner x.1 y.1=true\/(x.1=y.1/\sooner x.2 y.2=true)
theorem tD(x:Piece):¬ik x x:=by
 rintro(h | ⟨_,h⟩)
 ·exact cj _ h
 ·exact cj _ h
theorem kU{x y z:Piece}(h:ik x y)(k:ik y z):ik x z:=by
 rcases h with h | ⟨b,d⟩ <;> rcases k with k | ⟨a,c⟩
 ·exact .inl (fI h k)
 ·exact .inl (by rw[<-a];exact h)
 ·exact .inl (by rw[b];exact k)
 ·exact .inr ⟨b.trans a,fI d c⟩
theorem tw(x y:Piece):ik x y\/x=y\/ik y x:=by
 rcases eY x.1 y.1 with h | h | h
 ·exact .inl (.inl h)
 ·rcases eY x.2 y.2 with k | k | k
  ·exact .inl (.inr ⟨h,k⟩)
  ·exact .inr (.inl (a9 h k))
  ·exact .inr (.inr (.inr ⟨h.symm,k⟩))
 ·exact .inr (.inr (.inl h))
theorem jb(x y:Piece):gV x y=true↔x=y\/ik x y:=by
 unfold gV ik;rw[qA,c5,gu,qJ];constructor
 ·grind[eY,Prod.ext]
 grind[cj,bA]
theorem o7(a b c:Piece)(h:gV a b=true)(k:gV b c=true):gV a c=true:=by
 grind[jb,kU]
theorem o8(a b:Piece):(gV a b || gV b a)=true:=by
 rw[qA,jb,jb];grind[tw]
theorem tu(s:Both):piecesOf s=dd (((allEdges s).flatMap λe=>(inOrder (at_ e.1::at_ e.2::(allEdges s).flatMap (meets e))).zip ((inOrder (at_ e.1::at_ e.2::(allEdges s).flatMap (meets e))).drop 1)).mergeSort gV):=by
 unfold piecesOf dd gV;dsimp only
 congr 1
 funext p r
 cases r <;> rfl
theorem A7(s:Both):(piecesOf s).Pairwise ik:=by
 rw[tu];exact kQ (R:=λa b=>gV a b=true) (λa b h=>(jb a b).1 h) (λ_ _ _=>kU) (nq o7 o8 _)
theorem vf{S:α->α->Prop}(c:∀a,¬S a a){l:List α}(h:l.Pairwise S):l.Nodup:=h.imp fun{a b} k e=>by simp_all
theorem vi(s:Both):(piecesOf s).Nodup:=vf tD (A7 s)
theorem rL:(p,q)∈piecesOf s↔bC (E s) p q:=by
 rw[tu,vA,qQ,bV];constructor
 ·rintro⟨e,c,h⟩;obtain⟨i,f,d,k4⟩:=(c8 cj (λa b h=>bA h) (dJ _)).1 h;exact⟨seg e,aw.2 (ab e c rfl),(eW c).1 i,(eW c).1 f,d,λz j=>k4 z ((eW c).2 j)⟩
 ·rintro⟨g,k,i,f,d,k4⟩;obtain⟨e,c,rfl⟩:=aw.1 k;exact(ab e c <| (c8 cj (λa b h=>bA h) (dJ _)).2 (oX ((eW c).2 i) ((eW c).2 f) d <| λz j=>k4 z ((eW c).1 j)))
inductive dc(J:List (Nat×Nat)):Nat->Nat->Prop where
 | refl (i:Nat):dc J i i
 | fwd {i u v:Nat}:dc J i u->(u,v)∈J->dc J i v
 | bwd {i u v:Nat}:dc J i v->(u,v)∈J->dc J i u
theorem dc.trans{a b c:Nat}(h:dc J a b)(k:dc J b c):dc J a c:=by
 induction k with
 | refl=>exact h
 | fwd _ m d=>exact .fwd d m
 | bwd _ m d=>exact .bwd d m
theorem dc.symm{a b:Nat}(h:dc J a b):dc J b a:=by
 induction h with
 | refl=>exact .refl _
 | fwd _ m c=>exact(dc.bwd (.refl _) m).trans c
 | bwd _ m c=>exact(dc.fwd (.refl _) m).trans c
theorem dc.inv{β:Type}{f:Nat->β}(d:∀p,p∈J->f p.1=f p.2){a b:Nat}(h:dc J a b):f a=f b:=by
 induction h with
 | refl=>rfl
 | fwd _ m c=>exact c.trans (d _ m)
 | bwd _ m c=>exact c.trans (d _ m).symm
noncomputable def eA(s:Array Nat×Bool)(j:Nat×Nat):Array Nat×Bool:=
 let a:=s.1.getD j.1 0
 let b:=s.1.getD j.2 0
 if a=b then s else ((s.1.setIfInBounds j.1 (min a b)).setIfInBounds j.2 (min a b),true)
theorem tm(J:List (Nat×Nat))(f:Nat)(m:Array Nat):spread J (f+1) m=if (J.foldl eA (m,false)).2=true then spread J f (J.foldl eA (m,false)).1 else (J.foldl eA (m,false)).1:=rfl
theorem BN(m:Array Nat)(i j v:Nat)(h:i<m.size):(m.setIfInBounds i v).getD j 0=if j=i then v else m.getD j 0:=by
 simp only[Array.getD_eq_getD_getElem?,Array.getElem?_setIfInBounds];grind
structure Mk(J:List (Nat×Nat))(N:Nat)(m:Array Nat):Prop where
 size:m.size=N
 le:∀i,i<N->m.getD i 0<=i
 con:∀i,i<N->dc J i (m.getD i 0)
theorem lR{m:Array Nat}{b:Bool}{u v:Nat}(g:m.size=N)(f:u<N)(d:v<N)(i:Nat):
  (eA (m,b) (u,v)).1.getD i 0=if i=u\/i=v then min (m.getD u 0) (m.getD v 0) else m.getD i 0:=by
 unfold eA;dsimp only
 by_cases e:m.getD u 0=m.getD v 0
 ·rw[ak e];split
  ·rename_i h;rcases h with rfl | rfl
   ·rw[e];simp
   ·rw[e];simp
  ·rfl
 ·rw[ai e];dsimp only;rw[BN _ _ _ _ (by simp_all),BN _ _ _ _ (by omega)]
  by_cases a:i=v
  ·simp[a]
  ·by_cases c:i=u <;> simp[a,c]
theorem Ct(m:Array Nat)(b:Bool)(j:Nat×Nat):(eA (m,b) j).1.size=m.size:=by
 unfold eA;dsimp only;split
 ·rfl
 ·simp
theorem Mk.step{m:Array Nat}{b:Bool}(h:Mk J N m){u v:Nat}(k:(u,v)∈J)(c:u<N)(a:v<N):Mk J N (eA (m,b) (u,v)).1:=by
 have j:=h.con u c;have g:=h.con v a;have n:=h.le u c;have l:=h.le v a;have f:dc J u v:=.fwd (.refl _) k;refine⟨by rw[Ct];exact h.size,λi d=>?_,λi d=>?_⟩
 ·rw[lR h.size c a];split
  ·omega
  ·exact h.le i d
 ·rw[lR h.size c a];split
  ·rename_i z;have e:min (m.getD u 0) (m.getD v 0)=m.getD u 0\/min (m.getD u 0) (m.getD v 0)=m.getD v 0:=by omega
   rcases z with rfl | rfl <;> rcases e with e | e <;> rw[e]
   ·exact j
   ·exact f.trans g
   ·exact f.symm.trans j
   ·exact g
  ·exact h.con i d
def LY(J:List (Nat×Nat))(i c:Nat):Prop:=dc J i c/\∀k,dc J i k->c<=k
theorem least(p:Nat->Prop):∀n,p n->∃c,p c/\∀k,p k->c<=k:=by
 intro n
 induction n using Nat.strongRecOn with
 | _ n b=>
  intro d
  by_cases h:∃k,k<n/\p k
  ·refine ae h λk e a=>?_;exact b k e a
  ·exact(ab n d <| λk a=>qH λz=>h (ab k z a))
theorem BE(J:List (Nat×Nat))(i:Nat):∃c,LY J i c:=least (dc J i) i (.refl i)
noncomputable def mu (J:List (Nat×Nat)) (i:Nat):Nat:=Classical.choose (BE J i)
theorem jG(J:List (Nat×Nat))(i:Nat):LY J i (mu J i):=Classical.choose_spec (BE J i)
theorem oG(h:dc J i k):mu J i=mu J k:=by
 have a:=jG J i;have b:=jG J k;have:=a.2 _ (h.trans b.1);have:=b.2 _ (h.symm.trans a.1);omega
theorem Mk.ge{m:Array Nat}(h:Mk J N m)(a:i<N):mu J i<=m.getD i 0:=(jG J i).2 _ (h.con i a)
theorem yG{J:List (Nat×Nat)}{N:Nat}(o:∀p,p∈J->p.1<N/\p.2<N):∀(K:List (Nat×Nat)),(∀p,p∈K->p∈J)->∀(m:Array Nat) (b:Bool),Mk J N m->
  Mk J N (K.foldl eA (m,b)).1/\
  (∀i,i<N->m.getD i 0=mu J i->(K.foldl eA (m,b)).1.getD i 0=mu J i)/\
  (∀p,p∈K->m.getD p.1 0=mu J p.1\/m.getD p.2 0=mu J p.2->(K.foldl eA (m,b)).1.getD p.1 0=mu J p.1/\(K.foldl eA (m,b)).1.getD p.2 0=mu J p.2)/\
  ((K.foldl eA (m,b)).2=false->b=false/\(K.foldl eA (m,b)).1=m/\∀p,p∈K->m.getD p.1 0=m.getD p.2 0)
 | [],_,m,b,h=>(oX h (λ_ _ e=>e) (λp a=>by simp at a) <| λe=>(cO e rfl <| λp a=>by simp at a))
 | (u,v)::K,n,m,b,h=>by
  have k:=n (u,v) (by simp);have c:=o _ k;have B:=h.step (b:=b) k c.1 c.2;have D:mu J u=mu J v:=oG (.fwd (.refl _) k);have F:=h.ge c.1;have E:=h.ge c.2;have d:∀i,i<N->m.getD i 0=mu J i->(eA (m,b) (u,v)).1.getD i 0=mu J i:=by
   intro i l e;rw[lR h.size c.1 c.2];grind
  have g:m.getD u 0=mu J u\/m.getD v 0=mu J v->(eA (m,b) (u,v)).1.getD u 0=mu J u/\(eA (m,b) (u,v)).1.getD v 0=mu J v:=by
   intro e;rw[lR h.size c.1 c.2,lR h.size c.1 c.2];grind
  obtain⟨A,j,y,x⟩:=yG o K (λp a=>n p (by simp[a])) (eA (m,b) (u,v)).1 (eA (m,b) (u,v)).2 B;have C:((u,v)::K).foldl eA (m,b)=K.foldl eA ((eA (m,b) (u,v)).1,(eA (m,b) (u,v)).2):=rfl;rw[C];refine(oX A (λi l e=>j i l (d i l e)) (λp a e=>?_) <| λe=>?_)
  ·rcases aY.1 a with rfl | a
   ·have:=g e;exact⟨j _ c.1 this.1,j _ c.2 this.2⟩
   ·have t:=o _ (n p (by simp[a]));refine y p a ?_;rcases e with e | e
    ·exact .inl (d _ t.1 e)
    ·exact .inr (d _ t.2 e)
  ·refine fb (x e) λf s r=>?_;have q:m.getD u 0=m.getD v 0/\b=false:=by
    unfold eA at f;dsimp only at f;split at f
    ·rename_i z;exact⟨z,f⟩
    ·cases f
   have w:eA (m,b) (u,v)=(m,b):=by unfold eA;dsimp only;rw[ak q.1]
   rw[w]at s r;rw[w];refine(cO q.2 s <| λp a=>?_);rcases aY.1 a with rfl | a
   ·exact q.1
   ·exact r p a
noncomputable def done (J:List (Nat×Nat)) (N:Nat) (m:Array Nat):Nat:=by
 classical exact((List.range N).filter λi=>decide (m.getD i 0=mu J i)).length
theorem k8{α:Type}{p q:α->Bool}(h:∀x,p x=true->q x=true):∀l:List α,(l.filter p).length<=(l.filter q).length
 | []=>a0 _
 | x::l=>by
  have a:=k8 h l;grind
theorem kZ{α:Type}{p q:α->Bool}(h:∀x,p x=true->q x=true):∀{l:List α} {y:α},y∈l->p y=false->q y=true->(l.filter p).length<(l.filter q).length
 | x::l,y,a,c,b=>by
  rw[h9,h9];rcases aY.1 a with rfl | a
  ·rw[ai (by simp_all),ak b];have:=k8 h l;simp;omega
  ·have d:=kZ h a c b
   by_cases e:p x=true
   ·simp_all
   grind
theorem wY{J:List (Nat×Nat)}{N:Nat}(j:∀p,p∈J->p.1<N/\p.2<N):∀(f:Nat) (m:Array Nat),Mk J N m->N<f+done J N m->
  Mk J N (spread J f m)/\∀p,p∈J->(spread J f m).getD p.1 0=(spread J f m).getD p.2 0
 | 0,m,h,K=>by
  exfalso;have:done J N m<=N:=by
   unfold done;exact fG (jB _ _) (by simp_all)
  omega
 | f+1,m,h,K=>by
  rw[tm];obtain⟨n,l,t,C⟩:=yG j J (λ_ b=>b) m false h
  by_cases e:(J.foldl eA (m,false)).2=true
  ·rw[ak e]
   by_cases all:∀i,i<N->m.getD i 0=mu J i
   ·
    have M1:∀i,i<N->(J.foldl eA (m,false)).1.getD i 0=mu J i:=λi c=>l i c (all i c);have B:∀(f:Nat) (m:Array Nat),Mk J N m->(∀i,i<N->m.getD i 0=mu J i)->Mk J N (spread J f m)/\∀p,p∈J->(spread J f m).getD p.1 0=(spread J f m).getD p.2 0:=by
     intro f
     induction f with
     | zero=>
      intro m h a;refine⟨h,λp b=>?_⟩;have d:=j p b;show m.getD p.1 0=m.getD p.2 0;rw[a _ d.1,a _ d.2];exact oG (.fwd (.refl _) b)
     | succ f o=>
      intro m h a;rw[tm];obtain⟨n,l,t,C⟩:=yG j J (λ_ b=>b) m false h;split
      ·exact o _ n λi c=>l i c (a i c)
      ·refine⟨n,λp b=>?_⟩;have d:=j p b;rw[l _ d.1 (a _ d.1),l _ d.2 (a _ d.2)];exact oG (.fwd (.refl _) b)
    exact B f _ n M1
   ·refine wY j f _ n ?_;have L:∃i,i<N/\m.getD i 0≠mu J i:=d8 λz=>all λi c=>d8 λy=>z (ab i c y);refine ae L λi c I=>?_;have r:∀i,i<N->m.getD (mu J i) 0=mu J (mu J i)/\mu J i<N:=by
     intro i c;have a:=jG J i;have lt:mu J i<N:=fe (a.2 _ (.refl i)) c;have M:mu J (mu J i)=mu J i:=(oG a.1).symm;have:=h.le _ lt;have:=h.ge lt;grind
    have s:∀k,dc J (mu J i) k->k<N->m.getD k 0≠mu J k->∃p,p∈J/\((m.getD p.1 0=mu J p.1/\m.getD p.2 0≠mu J p.2)\/(m.getD p.2 0=mu J p.2/\m.getD p.1 0≠mu J p.1)):=by
     intro k hc
     induction hc with
     | refl=>intro _ z;exact absurd (r i c).1 z
     | @fwd u v _ q o=>
      intro _ z
      by_cases y:m.getD u 0=mu J u
      ·exact(ab (u,v) q <| .inl ⟨y,z⟩)
      ·exact o (j _ q).1 y
     | @bwd u v _ q o=>
      intro _ z
      by_cases y:m.getD v 0=mu J v
      ·exact(ab (u,v) q <| .inr ⟨y,z⟩)
      ·exact o (j _ q).2 y
    refine ae (s i (jG J i).1.symm c I) λp b k=>?_;have d:=j p b;have lt:done J N m<done J N (J.foldl eA (m,false)).1:=by
     unfold done;have D:∀x,x∈List.range N->decide (m.getD x 0=mu J x)=true->decide ((J.foldl eA (m,false)).1.getD x 0=mu J x)=true:=by
      intro x E z;exact bE (l x (qw.1 E) (b_ z))
     have g:∀x,decide (x<N/\m.getD x 0=mu J x)=true->decide (x<N/\(J.foldl eA (m,false)).1.getD x 0=mu J x)=true:=by
      intro x z;have z:=b_ z;exact bE ⟨z.1,l x z.1 z.2⟩
     have F:∀m:Array Nat,(List.range N).filter (λi=>decide (m.getD i 0=mu J i))=(List.range N).filter (λi=>decide (i<N/\m.getD i 0=mu J i)):=by
      intro m;refine qL λx E=>?_
      simp_all
     rw[F,F];rcases k with⟨A,w⟩ | ⟨A,w⟩
     ·have z:=t p b (.inl A);exact kZ g (y:=p.2) (qw.2 d.2) (di λz=>w z.2) (bE ⟨d.2,z.2⟩)
     ·have z:=t p b (.inr A);exact kZ g (y:=p.1) (qw.2 d.1) (di λz=>w z.2) (bE ⟨d.1,z.1⟩)
    omega
  ·rw[ai e];refine fb (C (by simpa using e)) λ_ H G=>?_;rw[H];exact⟨h,G⟩
theorem HI(J:List (Nat×Nat))(N:Nat):Mk J N (List.range N).toArray:=by
 have g:∀i,i<N->(List.range N).toArray.getD i 0=i:=by
  simp_all
 refine⟨by simp,λi a=>?_,λi a=>?_⟩
 ·rw[g i a];exact a0 _
 ·rw[g i a];exact .refl i
theorem uY(c:∀p,p∈J->p.1<N/\p.2<N)(i:Nat)(b:i<N):(spread J (N+1) (List.range N).toArray).getD i 0=mu J i:=by
 obtain⟨h,k⟩:=wY c (N+1) _ (HI J N) (by omega);generalize spread J (N+1) (List.range N).toArray=m at *;have a:=jG J i;have lt:mu J i<N:=fe (a.2 _ (.refl i)) b;have e:=a.1.inv (f:=λi=>m.getD i 0) k;have:=h.le _ lt;have:=h.ge b;omega
theorem pj{f:List Bool}(v:∀p,p∈J->p.1<f.length/\p.2<f.length)(c:Bool)(R:List Nat)(s:R.Nodup)(G:∀r,r∈R->f[r]?=some c)(l:∀p,p∈J->f[p.1]?=f[p.2]?)(j:∀r,r∈R->∀r',r'∈R->dc J r r'->r=r')(u:∀i,f[i]?=some c->∃r,r∈R/\dc J i r):
  (((f.zipIdx.filter λx=>(spread J (f.length+1) (List.range f.length).toArray).getD x.2 0==x.2).map λx=>x.1).filter λb=>b==c).length=R.length:=by
 have H:(((f.zipIdx.filter λx=>(spread J (f.length+1) (List.range f.length).toArray).getD x.2 0==x.2).map λx=>x.1).filter λb=>b==c).length
   = ((f.zipIdx.filter λx=>((spread J (f.length+1) (List.range f.length).toArray).getD x.2 0==x.2)&&(x.1==c)).map λx=>x.2).length:=by
  rw[ue,aZ,aZ,List.filter_filter]
  congr 2
  funext x
  simp[qk]
 rw[H,<-aZ (f:=mu J) (as:=R)];refine List.Perm.length_eq ((uP ?_ ?_).2 ?_)
 ·have:(f.zipIdx.map λx=>x.2).Nodup:=by
   have e:f.zipIdx.map (λx=>x.2)=List.range f.length:=by
    grind[List.zipIdx_map_snd,List.range_eq_range']
   rw[e];exact List.nodup_range
  exact ur (List.Sublist.map _ jA) this
 ·have n:∀R:List Nat,R.Nodup->(∀r,r∈R->∀r',r'∈R->dc J r r'->r=r')->(R.map (mu J)).Nodup:=by
   intro R
   induction R with
   | nil=>intro _ _;exact List.Pairwise.nil
   | cons r R y=>
    intro s A;have q:=cR.1 s;rw[bw];refine cR.2 ⟨λz=>?_,y q.2 λa F b E=>A a (by simp[F]) b (by simp[E])⟩;refine ae (aw.1 z) λr' B e=>?_;have c1:dc J r r':=(jG J r).1.trans (by rw[<-e];exact(jG J r').1.symm);grind
  exact n R s j
 ·intro i;have g:∀a b,dc J a b->f[a]?=f[b]?:=λa b h=>h.inv (f:=λi=>f[i]?) l;constructor
  ·intro h;obtain⟨⟨b,k⟩,t,rfl⟩:=aw.1 h;obtain⟨D,o⟩:=bh.1 t;rw[c5,gu,gu]at o;dsimp only at o ⊢;have t:f[k]?=some b:=kG.1 D;have d:k<f.length:=(bF.1 t).1;rw[uY v k d]at o;grind[oG]
  ·intro h;obtain⟨r,C,rfl⟩:=aw.1 h;have hc:=G r C;have w:=(jG J r).1;have m:f[mu J r]?=some c:=by rw[<-g _ _ w];exact hc
   have d:mu J r<f.length:=(bF.1 m).1;refine aw.2 (ab (c,mu J r) (bh.2 ⟨kG.2 m,?_⟩) rfl);rw[c5,gu,gu];dsimp only;rw[uY v _ d];exact⟨(oG w).symm,rfl⟩
noncomputable def Bq(p:Piece):At:=((p.1.1+p.2.1)/2,(p.1.2+p.2.2)/2)
def H_(s:Both)(U:Nat)(p:Piece):Bool:=beside s U (Bq p) (-(p.2.2-p.1.2),p.2.1-p.1.1)
def GV(s:Both)(U:Nat)(p:Piece):Bool:=beside s U (Bq p) (p.2.2-p.1.2,-(p.2.1-p.1.1))
def Jm(s:Both)(U:Nat)(p:Piece):Sided:=⟨p,H_ s U p,GV s U p⟩
theorem AI(s:Both)(U:Nat):sided s U=(piecesOf s).map (Jm s U):=rfl
theorem aM{U:Nat}:t∈sided s U↔bC (E s) t.p.1 t.p.2/\t=Jm s U t.p:=by
 rw[AI,aw];constructor
 ·rintro⟨p,a,rfl⟩;exact⟨rL.1 a,rfl⟩
 ·rintro⟨h,e⟩;exact(ab t.p (rL.2 h) e.symm)
theorem tq(s:Both)(U:Nat):(sided s U).Nodup:=by
 rw[AI];have h:=vi s;generalize piecesOf s=l at h
 induction l with
 | nil=>simp_all
 | cons a l c=>
  have d:=cR.1 h;rw[bw];refine cR.2 ⟨λz=>?_,c d.2⟩;refine ae (aw.1 z) λb f e=>?_;have:b=a:=cq Sided.p e
  simp_all
theorem places_eq(l:List Rat):places l=dd (l.mergeSort λa b=>decide (a<=b)):=by
 unfold places dd
 congr 1
 funext p r
 cases r <;> rfl
theorem fL{l:List Rat}:x∈places l↔x∈l:=by rw[places_eq,vA,qQ]
theorem iI(l:List Rat):(places l).Pairwise (· < ·):=by
 rw[places_eq];refine kQ (R:=λa b=>decide (a<=b)=true) (S:=(· < ·)) ?_ (λa b c h k=>by grind) (nq ?_ ?_ l)
 ·grind
 ·grind
 grind
theorem gr{p:Piece}(h:p.1.1<p.2.1)(z:Rat):(z,height p z)=aI p.1 p.2 ((z-p.1.1)/(p.2.1-p.1.1)):=by
 unfold height aI;grind
theorem ki{p:Piece}(h:p.1.1<p.2.1)(x y t:Rat):height p (x+t*(y-x))=height p x+t*(height p y-height p x):=by
 unfold height;grind
theorem oH{p:Piece}(h:p.1.1<p.2.1)(t:Rat):height p (p.1.1+t*(p.2.1-p.1.1))=p.1.2+t*(p.2.2-p.1.2):=by
 unfold height;have a:p.2.1-p.1.1≠0:=by grind
 grind
theorem n'{p:Piece}(h:p.1.1<p.2.1):height p p.1.1=p.1.2:=by
 have:=oH h 0;grind
theorem lZ{p:Piece}(h:p.1.1<p.2.1):height p p.2.1=p.2.2:=by
 have:=oH h 1;grind
theorem fR{a:Rat}(h:a<x)(k:x<b):0<(x-a)/(b-a)/\(x-a)/(b-a)<1:=by
 refine⟨gM (by grind) (by grind),c4.1 λz=>?_⟩;have:=dA (show 0<=(x-a)/(b-a)-1 by grind) (show 0<=b-a by grind);have:(x-a)/(b-a)*(b-a)=x-a:=by grind
 grind
theorem kN{p q:Piece}(g:bC (E s) p.1 p.2)(f:bC (E s) q.1 q.2){z:Rat}(e:p.1.1<z)(d:z<p.2.1)(c:q.1.1<z)(b:z<q.2.1)(h:height p z=height q z):p=q:=by
 have a:=gr (p:=p) (by grind) z;have i:=gr (p:=q) (by grind) z;rw[h]at a;obtain⟨m,l⟩:=fR e d;obtain⟨k,j⟩:=fR c b;have:=mq mI g f m l k j (a.symm.trans i);exact a9 this.1 this.2
theorem Ce{u v:Rat}(a:0<u)(b:v<=0):∃t,0<t/\t<=1/\u+t*(v-u)=0:=by
 refine(a8 (u/(u-v)) (gM a (by grind)) ?_ ?_)
 ·refine bM.1 λz=>?_;have:=ff (show 0<u/(u-v)-1 by grind) (show 0<u-v by grind);have:u/(u-v)*(u-v)=u:=by grind
  grind
 grind
theorem BH{p q:Piece}(c:bC (E s) p.1 p.2)(b:bC (E s) q.1 q.2){z:Rat}(n:p.1.1<=x)(l:y<=p.2.1)(j:q.1.1<=x)(i:y<=q.2.1)(r:x<m)(o:m<y)(f:x<z)(d:z<y)(h:height p m<height q m):height p z<height q z:=by
 refine c4.1 λk=>?_;refine aH (Ce (u:=height q m-height p m) (v:=height q z-height p z) (by grind) (by grind)) λt g a e=>?_;have C:=ki (p:=p) (by grind) m z t;have B:=ki (p:=q) (by grind) m z t;have A:=conv' (u:=m-x) (v:=z-x) (t:=t) (by grind) a (by grind) (by grind);have w:=conv' (u:=y-m) (v:=y-z) (t:=t) (by grind) a (by grind) (by grind);have c1:x<m+t*(z-m):=by grind
 have c2:m+t*(z-m)<y:=by grind
 have e:=kN c b (z:=m+t*(z-m)) (by grind) (by grind) (by grind) (by grind) (by grind);subst e;grind
theorem zc{p q:Piece}(b:bC (E s) p.1 p.2)(a:bC (E s) q.1 q.2){z:Rat}(o:p.1.1<=x)(n:y<=p.2.1)(l:q.1.1<=x)(j:y<=q.2.1)(A:x<m)(r:m<y)(d:x<=z)(c:z<=y)(h:height p m<height q m):height p z<=height q z:=by
 refine bM.1 λk=>?_;refine aH (Ce (u:=height q m-height p m) (v:=(height q z-height p z)/2+(height q z-height p z)/2) (by grind) (by grind)) λt i g e=>?_;have F:=ki (p:=p) (by grind) m z t;have D:=ki (p:=q) (by grind) m z t;have f:t<1:=by
  refine c4.1 λw=>?_;have:t=1:=by grind
  subst this;grind
 have C:0<(1-t)*(m-x)+t*(z-x):=by
  have:=ff (show 0<1-t by grind) (show 0<m-x by grind);have:=dA (show 0<=t by grind) (show 0<=z-x by grind);grind
 have B:0<(1-t)*(y-m)+t*(y-z):=by
  have:=ff (show 0<1-t by grind) (show 0<y-m by grind);have:=dA (show 0<=t by grind) (show 0<=y-z by grind);grind
 have c1:x<m+t*(z-m):=by grind
 have c2:m+t*(z-m)<y:=by grind
 have e:=kN b a (z:=m+t*(z-m)) (by grind) (by grind) (by grind) (by grind) (by grind);subst e;grind
section
variable(s:Both)(U:Nat)
noncomputable def Xs:List Rat:=places ((sided s U).flatMap λx=>[x.p.1.1,x.p.2.1])
def Sl:List (List Sided):=[]::(((Xs s U).zip ((Xs s U).drop 1)).map λp=>slab ((sided s U).filter λx=>decide (x.p.1.1<x.p.2.1)) p.1 p.2)++(if Xs s U=[] then [] else [[]])
end
variable{s:Both}{U:Nat}
theorem mC:x∈Xs s U↔∃t,t∈sided s U/\(x=t.p.1.1\/x=t.p.2.1):=by
 unfold Xs;rw[fL,bV]
 simp_all
theorem x4:(Xs s U).Pairwise (· < ·):=iI _
structure cG(s:Both)(U:Nat)(x y:Rat)(a:List Sided):Prop where
 lt:x<y
 nodup:a.Nodup
 mem:∀t,t∈a↔t∈sided s U/\t.p.1.1<=x/\y<=t.p.2.1
 pw:a.Pairwise λt u=>height t.p ((x+y)/2)<height u.p ((x+y)/2)
 Lz:∀t,t∈sided s U->t.p.1.1<=x\/y<=t.p.1.1
 Ke:∀t,t∈sided s U->t.p.2.1<=x\/y<=t.p.2.1
theorem HJ{l:List Sided}:t∈slab l x y↔t∈l/\t.p.1.1<=x/\y<=t.p.2.1:=by
 unfold slab
 simp_all
theorem kH(h:(x,y)∈(Xs s U).zip ((Xs s U).drop 1)):cG s U x y (slab ((sided s U).filter λx=>decide (x.p.1.1<x.p.2.1)) x y):=by
 obtain⟨w,v,r,o⟩:=(c8 (S:=(· < ·)) (λa=>by grind) (λa b h=>by grind) x4).1 h;have n:(slab ((sided s U).filter λx=>decide (x.p.1.1<x.p.2.1)) x y).Nodup:=by
  unfold slab;refine(ux (zO _ _)).2 ?_;exact ur (jA.trans jA) (tq s U)
 have j:∀t,t∈slab ((sided s U).filter λx=>decide (x.p.1.1<x.p.2.1)) x y↔t∈sided s U/\t.p.1.1<=x/\y<=t.p.2.1:=by
  intro t;rw[HJ,bh,jZ];constructor
  ·simp_all
  grind
 refine⟨r,n,j,?_,?_,?_⟩
 ·have p:(slab ((sided s U).filter λx=>decide (x.p.1.1<x.p.2.1)) x y).Pairwise λt u=>decide (height t.p ((x+y)/2)<=height u.p ((x+y)/2))=true:=by
   unfold slab;refine nq ?_ ?_ _
   ·intro a b c h k;exact bE (Rat.le_trans (b_ h) (b_ k))
   grind
  have i:=List.Pairwise.and p n;refine kE ?_ i;rintro t u g q ⟨a,b⟩;have a:=b_ a;have m:=(j t).1 g;have l:=(j u).1 q;have f:=aM.1 m.1;have d:=aM.1 l.1;refine c4.1 λk=>b ?_;have e:=kN f.1 d.1 (z:=(x+y)/2) (by grind) (by grind) (by grind) (by grind) (by grind);rw[f.2,d.2,e]
 ·intro t g;refine d8 λk=>?_;exact o t.p.1.1 (mC.2 (ab t g <| .inl rfl)) (by grind) (by grind)
 ·intro t g;refine d8 λk=>?_;exact o t.p.2.1 (mC.2 (ab t g <| .inr rfl)) (by grind) (by grind)
theorem cG.keep{a:List Sided}(S:cG s U x y a){z:Rat}(e:x<z)(d:z<y):a.Pairwise λt u=>height t.p z<height u.p z:=by
 have l:=S.lt;refine kE ?_ S.pw;intro t u g f h;have c:=(S.mem t).1 g;have b:=(S.mem u).1 f;exact BH (aM.1 c.1).1 (aM.1 b.1).1 c.2.1 c.2.2 b.2.1 b.2.2 (by grind) (by grind) e d h
theorem cG.mJ{a:List Sided}(S:cG s U x y a){z:Rat}(e:x<=z)(d:z<=y):a.Pairwise λt u=>height t.p z<=height u.p z:=by
 have l:=S.lt;refine kE ?_ S.pw;intro t u g f h;have c:=(S.mem t).1 g;have b:=(S.mem u).1 f;exact zc (aM.1 c.1).1 (aM.1 b.1).1 c.2.1 c.2.2 b.2.1 b.2.2 (by grind) (by grind) e d h
theorem cG.nv{a:List Sided}(S:cG s U x y a)(h:t∈a):t.p.1.1<t.p.2.1:=by
 have:=(S.mem t).1 h;have:=S.lt;grind
theorem Dq{E:List Seg}(a:e∈E)(b:e.1≠e.2):Cut E e e.1/\Cut E e e.2:=
 ⟨(a8 e a (rH _ _) <| .inl ⟨by unfold para;grind,.inl rfl⟩),(a8 e a (nQ _ _) <| .inl ⟨by unfold para;grind,.inr rfl⟩)⟩
theorem sY{α:Type}{S:α->α->Prop}(Cj:∀a b,S a b\/a=b\/S b a)(i:∀a b c,S a b->S b c->S a c)(f:∀a,¬S a a){z:α}:∀{l:List α},l.Pairwise S->z∉l->(∃a,a∈l/\S a z)->(∃b,b∈l/\S z b)->
  ∃p q,(p,q)∈l.zip (l.drop 1)/\S p z/\S z q
 | [],_,_,⟨a,h,_⟩,_=>by simp at h
 | [c],_,_,⟨a,h,n⟩,⟨b,k,j⟩=>by
  simp at h k;subst h;subst k;exact absurd (i _ _ _ n j) (f _)
 | c::d::l,u,t,⟨a,h,n⟩,⟨b,k,j⟩=>by
  have g:=dD.1 u;have v:S c z:=by
   grind
  have e:(c::d::l).zip ((c::d::l).drop 1)=(c,d)::(d::l).zip ((d::l).drop 1):=by simp
  rw[e];rcases Cj z d with o | o | o
  ·exact(aO c d (by simp) v o)
  ·simp_all
  ·have s:∃b,b∈d::l/\S z b:=by
    grind
   refine bI (sY Cj i f g.2 (λy=>t (cN _ y)) (ab d (by simp) o) s) λp q m r=>?_;exact(br p q (cN _ m) r)
theorem r9(h:e.1≠e.2)(g:On e p)(f:On e q)(d:On e z)(c:sooner p z=true)(b:sooner z q=true):∃t,0<t/\t<1/\z=aI p q t:=by
 have a:=fI c b;obtain⟨t,rfl⟩:=eT (bR a) (iK g.1 f.1 h d.1);refine(a8 t ?_ ?_ rfl)
 ·refine(fQ a).1 ?_;rw[hJ];exact c
 ·refine(fQ a).1 ?_;rw[hI];exact b
theorem cover{s:Both}(d:e∈E s)(c:On e z):Cut (E s) e z\/∃p q t,bC (E s) p q/\On e p/\On e q/\0<t/\t<1/\z=aI p q t:=by
 by_cases hc:Cut (E s) e z
 ·exact .inl hc
 ·right;obtain⟨f,G,rfl⟩:=aw.1 d;have m:=mI _ d;obtain⟨c1,c2⟩:=Dq d m;have aR:=λz=>eW (s:=s) G (z:=z);have K:z≠(seg f).1:=λk=>hc (by rw[k];exact c1);have B:z≠(seg f).2:=λk=>hc (by rw[k];exact c2);have J:∃a b,Cut (E s) (seg f) a/\Cut (E s) (seg f) b/\sooner a z=true/\sooner z b=true:=by
   refine aH (fq.1 (show On ((seg f).1,(seg f).2) z from c)) λt v u j=>?_;have i:0<t:=by
    grind[hJ]
   have g:t<1:=by
    refine c4.1 λk=>B ?_;rw[j,show t=1 by grind,hI]
   rcases eY (seg f).1 (seg f).2 with o | o | o
   ·have:=j0 o i g;rw[<-j]at this;exact(bW c1 c2 this.1 this.2)
   ·exact absurd o m
   ·have:=j0 o (t:=1-t) (by grind) (by grind);rw[<-kh,<-j]at this;exact(bW c2 c1 this.1 this.2)
  refine e_ J λa b I H A y=>?_;refine aF (sY eY (λ_ _ _ h k=>fI h k) cj (dJ _) (λk=>hc ((aR z).1 k)) (ab a ((aR a).2 I) A) (ab b ((aR b).2 H) y)) λp q l x w=>?_;obtain⟨F,D,C,k4⟩:=(c8 cj (λa b h=>bA h) (dJ _)).1 l;have r:=(aR p).1 F;have n:=(aR q).1 D;refine aH (r9 m r.on n.on c x w) λt v u e=>?_;exact⟨p,q,t,⟨seg f,d,r,n,C,λz c=>k4 z ((aR z).2 c)⟩,r.on,n.on,v,u,e⟩
theorem KW{s:Both}(j:e∈E s)(hc:Cut (E s) e z):∃p q,bC (E s) p q/\On e p/\On e q/\(z=p\/z=q):=by
 obtain⟨f,D,rfl⟩:=aw.1 j;have B:=mI _ j;obtain⟨c1,c2⟩:=Dq j B;have aR:=λz=>eW (s:=s) D (z:=z);have k:∃b,Cut (E s) (seg f) b/\b≠z:=by
  grind
 refine ae k λb G t=>?_;have next:∀{l:List At},l.Pairwise (λa b=>sooner a b=true)->∀{z b},z∈l->b∈l->b≠z->∃p q,(p,q)∈l.zip (l.drop 1)/\(z=p\/z=q):=by
  intro l C
  induction l with
  | nil=>intro z b h;simp at h
  | cons c l x=>
   intro z b g F A;cases l with
   | nil=>
    simp at g F
    simp_all
   | cons d l=>
    have e:(c::d::l).zip ((c::d::l).drop 1)=(c,d)::(d::l).zip ((d::l).drop 1):=by simp
    rw[e];rcases aY.1 g with rfl | g
    ·exact(br z d (by simp) <| .inl rfl)
    ·by_cases i:z=d
     ·exact(br c d (by simp) <| .inr i)
     ·refine bI (x (dD.1 C).2 g (b:=d) (by simp) (λy=>i y.symm)) λp q m r=>?_;exact(br p q (cN _ m) r)
 refine bI (next (dJ _) ((aR z).2 hc) ((aR b).2 G) t) λp q m r=>?_;obtain⟨w,v,u,k4⟩:=(c8 cj (λa b h=>bA h) (dJ _)).1 m;have o:=(aR p).1 w;have n:=(aR q).1 v;exact(eK p q ⟨seg f,j,o,n,u,λz g=>k4 z ((aR z).2 g)⟩ o.on n.on r)
theorem Ds{s:Both}(d:e∈E s)(g:On e z):∃p q t,bC (E s) p q/\On e p/\On e q/\0<=t/\t<=1/\z=aI p q t:=by
 rcases cover d g with h | ⟨p,q,t,c,b,a,f,j,i⟩
 ·refine e_ (KW d h) λp q c b a f=>?_;rcases f with rfl | rfl
  ·exact⟨z,q,0,c,b,a,by grind,by grind,(hJ _ _).symm⟩
  ·exact⟨p,z,1,c,b,a,by grind,by grind,(hI _ _).symm⟩
 ·exact⟨p,q,t,c,b,a,by grind,by grind,i⟩
def pN(s:Both)(U:Nat)(z:At):Bool:=mixed U (iM (dX s.a) z) (iM (dX s.b) z)
variable{s:Both}{U:Nat}
theorem ir(h:e∈dX s.a):e∈E s:=by rw[Ji];simp_all
theorem iq(h:e∈dX s.b):e∈E s:=by rw[Ji];simp_all
theorem vQ(h:∀e,e∈E s->fU e q r):pN s U q=pN s U r:=by
 unfold pN;rw[transport (de s.a) λe a=>h e (ir a),transport (de s.b) λe a=>h e (iq a)]
def LS(s:Both)(U:Nat)(p q:At)(c:Bool):Prop:=∀t n,0<t->t<1->0<c9 (aP p q) n->Ev λx=>pN s U (bp (aI p q t) n x)=c
theorem pH(h:p≠q):0<c9 (aP p q) (-(q.2-p.2),q.1-p.1):=by
 unfold c9 aP;dsimp only;have:q.1-p.1≠0\/q.2-p.2≠0:=by
  grind
 have s:∀y:Rat,0<=y*y:=λy=>by
  rcases(ic:0<=y\/y<=0) with h | h
  ·exact dA h h
  ·exact tM h h
 have b:=s (q.1-p.1);have a:=s (q.2-p.2);rcases this with k | k
 ·have:=sq_pos k;grind
 ·have:=sq_pos k;grind
theorem xt(p:Piece):Bq p=aI p.1 p.2 (1/2):=by
 unfold Bq aI;grind
theorem lT(d:Drawing){p:Piece}(c:∀e,e∈dX d->e∈E s)(h:bC (E s) p.1 p.2):l_ (dX d) p.1 p.2 (odd d (Bq p) (-(p.2.2-p.1.2),p.2.1-p.1.1)):=by
 have a:=bR (bq h);refine AJ (de d) a (λe b=>en mI h e (c e b)) (s:=1/2) (n:=(-(p.2.2-p.1.2),p.2.1-p.1.1)) (by grind) (by grind) (pH a) ?_;rw[xt];exact(CS d _ _).mono λx _ k=>k.symm
theorem j6(d:Drawing){p:Piece}(c:∀e,e∈dX d->e∈E s)(h:bC (E s) p.1 p.2):l_ (dX d) p.2 p.1 (odd d (Bq p) (p.2.2-p.1.2,-(p.2.1-p.1.1))):=by
 have a:=bR (bq h);have f:(p.2.2-p.1.2,-(p.2.1-p.1.1))=(-(p.1.2-p.2.2),p.1.1-p.2.1):=a9 (by dsimp only;grind) (by dsimp only;grind);refine AJ (de d) (λe=>a e.symm) (λe b=>(en mI h e (c e b)).rev) (s:=1/2) (n:=(p.2.2-p.1.2,-(p.2.1-p.1.1))) (by grind) (by grind) (by rw[f];exact pH λe=>a e.symm) ?_;rw[xt,kh,show(1:Rat)-1/2=1/2 by grind];exact(CS d _ _).mono λx _ k=>k.symm
theorem u9{p:Piece}(h:bC (E s) p.1 p.2):LS s U p.1 p.2 (H_ s U p):=λt n c b d=>by
 have j:=lT s.a (λe a=>ir a) h t n c b d;have i:=lT s.b (λe a=>iq a) h t n c b d;refine(j.and i).mono λx _ ⟨g,f⟩=>?_;unfold pN H_ beside;rw[g,f]
theorem tr{p:Piece}(h:bC (E s) p.1 p.2):LS s U p.2 p.1 (GV s U p):=λt n c b d=>by
 have j:=j6 s.a (λe a=>ir a) h t n c b d;have i:=j6 s.b (λe a=>iq a) h t n c b d;refine(j.and i).mono λx _ ⟨g,f⟩=>?_;unfold pN GV beside;rw[g,f]
theorem cG.NV{a:List Sided}(S:cG s U x y a)(h:bC (E s) p q){z:Rat}(d:x<z)(c:z<y)(f:p.1<=z)(e:z<=q.1):Jm s U (p,q)∈a:=by
 have b:Jm s U (p,q)∈sided s U:=aM.2 ⟨h,rfl⟩;have l:=S.Lz _ b;have r:=S.Ke _ b;have l:p.1<=x\/y<=p.1:=l;have r:q.1<=x\/y<=q.1:=r;refine(S.mem _).2 (cO b ?_ ?_)
 ·show p.1<=x;grind
 ·show y<=q.1;grind
theorem cG.meets{a:List Sided}(S:cG s U x y a)(j:e∈E s){w:At}(hw:On e w)(h:x<w.1)(g:w.1<y):∃t,t∈a/\height t.p w.1=w.2:=by
 obtain⟨p,q,t,c,_,_,i,k,rfl⟩:=Ds j hw;have l:=cn.1 (bq c);have f:p.1<=(aI p q t).1/\(aI p q t).1<=q.1:=by
  unfold aI;dsimp only;have:=dA i (show 0<=q.1-p.1 by grind);have:=dA (show 0<=1-t by grind) (show 0<=q.1-p.1 by grind);grind
 have d:=S.NV c h g f.1 f.2;refine(aa d ?_);have b:=S.nv d;have b:p.1<q.1:=b;show height (p,q) _=_;have:=oH (p:=(p,q)) b t;exact this
theorem cG.same{a:List Sided}(S:cG s U x y a){b d c y2:Rat}(C:x<b)(p:b<y)(B:x<c)(o:c<y)(h:∀t,t∈a->(height t.p b<d/\height t.p c<y2)\/(d<height t.p b/\y2<height t.p c)):pN s U (b,d)=pN s U (c,y2):=by
 refine vQ λe m=>wm λw hw l=>?_;obtain⟨u,g,f,rfl⟩:=fq.1 l;have A:x<(aI (b,d) (c,y2) u).1:=by
  have:=conv' (u:=b-x) (v:=c-x) g f (by grind) (by grind);unfold aI;dsimp only;grind
 have z:(aI (b,d) (c,y2) u).1<y:=by
  have:=conv' (u:=y-b) (v:=y-c) g f (by grind) (by grind);unfold aI;dsimp only;grind
 refine ae (S.meets m hw A z) λt i k=>?_;have j:=S.nv i;have n:=ki j b c u;have r:(aI (b,d) (c,y2) u).1=b+u*(c-b):=rfl;have q:(aI (b,d) (c,y2) u).2=d+u*(y2-d):=rfl;rw[r,q,n]at k;rcases h t i with⟨c1,c2⟩ | ⟨c1,c2⟩
 ·have:=conv' (u:=d-height t.p b) (v:=y2-height t.p c) g f (by grind) (by grind);grind
 ·have:=conv' (u:=height t.p b-d) (v:=height t.p c-y2) g f (by grind) (by grind);grind
theorem l9:∀(l:List Rat),∃B:Rat,∀x,x∈l->-B<x/\x<B
 | []=>⟨0,λx h=>by simp at h⟩
 | a::l=>by
  obtain⟨B,c⟩:=l9 l;have k:=N1 a;have b:=N1 B;have s:∀y:Rat,0<=y*y:=λy=>by
   rcases(ic:0<=y\/y<=0) with h | h
   ·exact dA h h
   ·exact tM h h
  have:=s a;have:=s B;refine⟨B*B+a*a+3,λx h=>?_⟩;grind
theorem Bn(U:Nat):mixed U false false=false:=by
 unfold mixed;split <;> rfl
theorem Ez(L:List Seg)(h:∀e,e∈L->q.2<e.1.2/\q.2<e.2.2):iM L q=false:=by
 unfold iM;rw[cP (q:=λ_=>false) λe a=>?_,ja];have:=h e a;unfold eM;grind
theorem BQ(L:List Seg)(h:∀e,e∈L->e.1.2<q.2/\e.2.2<q.2):iM L q=false:=by
 unfold iM;rw[cP (q:=λ_=>false) λe a=>?_,ja];have:=h e a;unfold eM;grind
theorem NF(s:Both)(U:Nat):∃B:Rat,∀q:At,(q.2 < -B\/B<q.2)->pN s U q=false:=by
 obtain⟨B,c⟩:=l9 ((E s).flatMap λe=>[e.1.2,e.2.2]);have b:∀e,e∈E s->(-B<e.1.2/\e.1.2<B)/\(-B<e.2.2/\e.2.2<B):=λe a=>
  ⟨c _ (bV.2 (ab e a <| by simp)),c _ (bV.2 (ab e a <| by simp))⟩
 refine⟨B,λq h=>?_⟩;unfold pN;rcases h with h | h
 ·rw[Ez (dX s.a) λe a=>by have:=b e (ir a);grind,Ez (dX s.b) λe a=>by have:=b e (iq a);grind];exact Bn U
 ·rw[BQ (dX s.a) λe a=>by have:=b e (ir a);grind,BQ (dX s.b) λe a=>by have:=b e (iq a);grind];exact Bn U
theorem cG.above{a:List Sided}(S:cG s U x y a)(c:t∈a){z:Rat}(m:x<z)(l:z<y):Ev λd=>pN s U (z,height t.p z+d)=t.left:=by
 have g:=S.nv c;have h:=(S.mem t).1 c;have f:=aM.1 h.1;obtain⟨j,i⟩:=fR (x:=z) (a:=t.p.1.1) (b:=t.p.2.1) (by grind) (by grind);have:=u9 (U:=U) f.1 _ (0,1) j i (by unfold c9 aP;dsimp only;grind);rw[<-gr g]at this;have e:t.left=H_ s U t.p:=by rw[f.2];rfl
 rw[e];refine this.mono λd _ k=>?_;rw[<-k];unfold bp;grind
theorem cG.beneath{a:List Sided}(S:cG s U x y a)(c:t∈a){z:Rat}(j:x<z)(i:z<y):Ev λd=>pN s U (z,height t.p z-d)=t.right:=by
 have g:=S.nv c;have h:=(S.mem t).1 c;have f:=aM.1 h.1;obtain⟨m,l⟩:=fR (x:=z) (a:=t.p.1.1) (b:=t.p.2.1) (by grind) (by grind);have:=tr (U:=U) f.1 (1-(z-t.p.1.1)/(t.p.2.1-t.p.1.1)) (0,-1) (by grind) (by grind) (by unfold c9 aP;dsimp only;grind);rw[kh,show 1-(1-(z-t.p.1.1)/(t.p.2.1-t.p.1.1))=(z-t.p.1.1)/(t.p.2.1-t.p.1.1) by grind,<-gr g]at this;have e:t.right=GV s U t.p:=by rw[f.2];rfl
 rw[e];refine this.mono λd _ k=>?_;rw[<-k];unfold bp;grind
def La(a:List Sided)(j:Nat)(z y0:Rat):Prop:=∀i t,a[i]?=some t->(i<j->height t.p z<y0)/\(j<=i->y0<height t.p z)
theorem eJ{l:List α}{t:α}(h:t∈l):∃i:Nat,l[i]?=some t:=nh.1 h
theorem gn{R:α->α->Prop}{l:List α}(h:l.Pairwise R){a b:α}(g:l[i]?=some a)(f:l[j]?=some b)(d:i<j):R a b:=by
 obtain⟨e,rfl⟩:=bF.1 g;obtain⟨c,rfl⟩:=bF.1 f;exact uO.1 h i j e c d
theorem cG.zt{a:List Sided}(S:cG s U x y a){z:Rat}(e:x<z)(c:z<y)(A:j<=a.length)(h:La a j z y0):pN s U (z,y0)=(fields a).getD j false:=by
 cases j with
 | zero=>
  show _=false;obtain⟨B,C⟩:=NF s U;obtain⟨r,q⟩:=l9 (a.map λt=>height t.p z);have f:∃m:Rat,m < -B/\m < -r:=by
   by_cases k:-B<=-r
   ·exact(ab (-B-1) (by grind) <| by grind)
   ·exact(ab (-r-1) (by grind) <| by grind)
  refine ae f λm u F=>?_;rw[S.same e c e c (y2:=m) λt n=>?_]
  ·exact C _ (.inl u)
  ·obtain⟨i,l⟩:=eJ n;right;have:=q (height t.p z) (aw.2 (ab t n rfl));exact⟨(h i t l).2 (bZ _),by grind⟩
 | succ j=>
  have g:j<a.length:=A;have b:a[j]?=some a[j]:=cQ g;have D:(fields a).getD (j+1) false=a[j].left:=by
   unfold fields
   simp_all
  rw[D];have n:a[j]∈a:=List.getElem_mem g;have w:=(h j _ b).1 (ky _);refine aH (((S.above n e c).and (xJ (d:=y0-height a[j].p z) (by grind))).get) λd I v G=>?_;rw[<-v];refine S.same e c e c λt p=>?_;obtain⟨i,l⟩:=eJ p;have H:=h i t l;rcases kz i j with o | o | o
  ·have:=gn (S.keep e c) l b o;grind
  ·subst o;have:t=a[i]:=bN (l.symm.trans b);subst this;grind
  grind
theorem cG.right{x y:Rat}{a:List Sided}(S:cG s U x y a){j:Nat}{t:Sided}(e:a[j]?=some t):t.right=(fields a).getD j false:=by
 have l:=S.lt;have c:x<(x+y)/2:=by grind
 have b:(x+y)/2<y:=by grind
 have h:t∈a:=bP e;have n:j<a.length:=(bF.1 e).1;cases j with
 | zero=>
  refine ae ((S.beneath h c b).get) λd p g=>?_;rw[<-g];refine S.zt c b (bZ _) λi u f=>⟨λo=>absurd o (uf _),λ_=>?_⟩
  cases i with
  | zero=>
   have:u=t:=bN (f.symm.trans e);subst this;grind
  | succ i=>
   have:=gn (S.keep c b) e f (Nat.succ_pos _);grind
 | succ j=>
  have k:a[j]?=some a[j]:=cQ (by omega);have m:=gn (S.keep c b) k e (ky _);refine aH (((S.beneath h c b).and (xJ (d:=height t.p ((x+y)/2)-height a[j].p ((x+y)/2)) (by grind))).get) λd p g q=>?_;rw[<-g];refine S.zt c b (by omega) λi u f=>⟨λo=>?_,λo=>?_⟩
  ·rcases lP (uj o) with o | o
   ·have:=gn (S.keep c b) f k o;grind
   grind
  ·rcases lP o with o | o
   ·have:=gn (S.keep c b) e f o;grind
   grind
theorem gC{x y0:Rat}:∀{a:List Sided},a.Pairwise (λt u=>height t.p x<=height u.p x)->∀{i:Nat} {t:Sided},a[i]?=some t->(i<below a x y0↔height t.p x<y0)
 | [],_,i,t,h=>by simp at h
 | u::a,d,i,t,h=>by
  have b:=dD.1 d;have c:=fun{i t} h=>gC (x:=x) (y0:=y0) (a:=a) b.2 (i:=i) (t:=t) h;unfold below at c ⊢;rw[h9]
  by_cases k:height u.p x<y0
  ·rw[ak (bE k),dj];cases i with
   | zero=>
    simp_all
   | succ i=>
    simp_all
  grind
theorem wh(a:List Sided)(x y0:Rat):below a x y0<=a.length:=jB _ _
theorem xK{p:Piece}(h:p.1.1<p.2.1)(x:Rat)(e:Rat)(k:height p x≠y0):Ev λd=>(height p (x+d*e)<y0↔height p x<y0)/\(y0<height p (x+d*e)↔y0<height p x):=by
 have a:∀d,height p (x+d*e)=height p x+d*(e*((p.2.2-p.1.2)/(p.2.1-p.1.1))):=by
  intro d;unfold height;grind
 refine(kP (height p x-y0) (e*((p.2.2-p.1.2)/(p.2.1-p.1.1)))).mono λd _ b=>?_;rw[a d];grind
theorem cG.HY{a:List Sided}(S:cG s U x y a)(h:∀t,t∈a->height t.p y≠y0):Ev λd=>pN s U (y-d,y0)=(fields a).getD (below a y y0) false:=by
 have l:=S.lt;refine((xJ (d:=y-x) (by grind)).and (Ev.all (l:=a) λt b=>xK (S.nv b) y (-1) (h t b))).mono λd g ⟨f,e⟩=>?_;refine S.zt (by grind) (by grind) (wh _ _ _) λi t c=>?_;have j:=gC (x:=y) (y0:=y0) (S.mJ (by grind) (by grind)) c;grind
theorem cG.D7{a:List Sided}(S:cG s U x y a)(h:∀t,t∈a->height t.p x≠y0):Ev λd=>pN s U (x+d,y0)=(fields a).getD (below a x y0) false:=by
 have l:=S.lt;refine((xJ (d:=y-x) (by grind)).and (Ev.all (l:=a) λt b=>xK (S.nv b) x 1 (h t b))).mono λd g ⟨f,e⟩=>?_;refine S.zt (by grind) (by grind) (wh _ _ _) λi t c=>?_;have j:=gC (x:=x) (y0:=y0) (S.mJ (by grind) (by grind)) c;grind[List.mem_of_getElem?]
theorem om{α β:Type}{f:α->List β}:∀(L:List α) (k j:Nat) (x:α),L[k]?=some x->j<(f x).length->(L.flatMap f)[((L.take k).map λa=>(f a).length).sum+j]?=(f x)[j]?
 | [],k,j,x,h,_=>by simp at h
 | a::L,0,j,x,h,b=>by
  have:a=x:=bN h;subst this;simp[List.getElem?_append,b]
 | a::L,k+1,j,x,h,b=>by
  have c:=om (f:=f) L k j x h b;grind
theorem tI{α β:Type}{f:α->List β}:∀(L:List α) (i:Nat),i<(L.flatMap f).length->∃(k:Nat) (x:α) (j:Nat),L[k]?=some x/\j<(f x).length/\i=((L.take k).map λa=>(f a).length).sum+j
 | [],i,h=>by simp at h
 | a::L,i,h=>by
  by_cases k:i<(f a).length
  ·exact⟨0,a,i,rfl,k,by simp⟩
  ·rw[gv,dC]at h;obtain⟨b,x,j,d,c,e⟩:=tI (f:=f) L (i-(f a).length) (by omega);refine⟨b+1,x,j,d,c,?_⟩;grind
section
variable(s:Both)(U:Nat)
def sl(k:Nat):List Sided:=(Sl s U).getD k []
def nX:Nat:=(Xs s U).length
def first(k:Nat):Nat:=(((Sl s U).take k).map λs=>s.length+1).sum
def iB(k j:Nat):Nat:=first s U k+j
def FF:List Bool:=(Sl s U).flatMap fields
def JJ:List (Nat×Nat):=joins (sided s U) (Xs s U) (Sl s U)
def ew(k:Nat)(x:Rat):List Rat:=((sl s U k).map λs=>height s.p x)++(((sl s U (k+1)).map λs=>height s.p x)++(sided s U).flatMap λs=>if s.p.1.1=x/\s.p.2.1=x then [s.p.1.2,s.p.2.2] else [])
def si(k j:Nat):Bool:=(fields (sl s U k)).getD j false
end
variable{s:Both}{U:Nat}
theorem v8:counted s U =
  (((((FF s U).zipIdx.filter λx=>(spread (JJ s U) ((FF s U).length+1) (List.range (FF s U).length).toArray).getD x.2 0==x.2).map λx=>x.1).filter λb=>b).length,((((FF s U).zipIdx.filter λx=>(spread (JJ s U) ((FF s U).length+1) (List.range (FF s U).length).toArray).getD x.2 0==x.2).map λx=>x.1).filter λb=>!b).length):=rfl
theorem iL(a:List Sided):(fields a).length=a.length+1:=by unfold fields;simp
theorem DF:(Sl s U).length=nX s U+1:=by
 unfold Sl nX
 by_cases h:Xs s U=[]
 ·rw[ak h,h];rfl
 ·rw[ai h];have:0<(Xs s U).length:=uA.2 h;simp;omega
theorem u6(h:k<=nX s U):(Sl s U)[k]?=some (sl s U k):=by
 have a:k<(Sl s U).length:=by rw[DF];omega
 unfold sl
 simp_all
theorem Gz(f:(Xs s U)[k]?=some x)(d:(Xs s U)[k+1]?=some y):cG s U x y (sl s U (k+1)):=by
 have a:((Xs s U).zip ((Xs s U).drop 1))[k]?=some (x,y):=by
  grind[List.getElem?_zip_eq_some,List.getElem?_drop,Nat.add_comm]
 have b:=bP a;have e:sl s U (k+1)=slab ((sided s U).filter λx=>decide (x.p.1.1<x.p.2.1)) x y:=by
  unfold sl Sl;have c:k<(((Xs s U).zip ((Xs s U).drop 1)).map λp=>slab ((sided s U).filter λx=>decide (x.p.1.1<x.p.2.1)) p.1 p.2).length:=by
   rw[aZ];exact(bF.1 a).1
  rw[iT,uy,pY,nA c,gw,a];rfl
 rw[e];exact kH b
theorem Ja{a:Rat}(h:(Xs s U)[0]?=some a)(b:x∈Xs s U):a<=x:=by
 obtain⟨i,c⟩:=eJ b;cases i with
 | zero=>simp_all
 | succ i=>exact b0 (gn x4 h c (Nat.succ_pos _))
theorem I_{a:Rat}(d:k+1=nX s U)(h:(Xs s U)[k]?=some a)(c:x∈Xs s U):x<=a:=by
 obtain⟨i,b⟩:=eJ c;have:=(bF.1 b).1;unfold nX at d;rcases lP (show i<=k by omega) with o | o
 ·exact b0 (gn x4 b h o)
 simp_all
theorem jE:sl s U 0=[]:=rfl
theorem D1(h:0<nX s U):sl s U (nX s U)=[]:=by
 unfold sl Sl;have a:Xs s U≠[]:=λk=>by unfold nX at h;simp_all
 rw[ai a];have b:(((Xs s U).zip ((Xs s U).drop 1)).map λp=>slab ((sided s U).filter λx=>decide (x.p.1.1<x.p.2.1)) p.1 p.2).length=nX s U-1:=by
  unfold nX;simp
 grind
theorem o3(p:k<=nX s U):∃x y,cG s U x y (sl s U k)/\(k<nX s U->(Xs s U)[k]?=some y)/\(∀i,k=i+1->(Xs s U)[i]?=some x):=by
 have g:∀t,t∈sided s U->t.p.1.1∈Xs s U:=λt a=>mC.2 (ab t a <| .inl rfl);have f:∀t,t∈sided s U->t.p.2.1∈Xs s U:=λt a=>mC.2 (ab t a <| .inr rfl);cases k with
 | zero=>
  by_cases h0:nX s U=0
  ·have r:Xs s U=[]:=List.length_eq_zero_iff.1 h0;have e:∀t,t∈sided s U->False:=λt a=>by simp_all
   refine(aO 0 1 ⟨by grind,?_,λt=>⟨λh=>?_,λh=>(e t h.1).elim⟩,?_,λt a=>(e t a).elim,λt a=>(e t a).elim⟩ (λh=>by omega) <| λi h=>by omega)
   ·grind[jE]
   ·rw[jE]at h;simp at h
   ·rw[jE];simp_all
  ·have c:0<(Xs s U).length:=by unfold nX at h0;omega
   have b:=cQ c;generalize j:(Xs s U)[0]=d at b;refine(aO (d-1) d ⟨by grind,?_,λt=>⟨λh=>?_,λh=>?_⟩,?_,λt a=>?_,λt a=>?_⟩ (λh=>b) <| λi h=>by omega)
   ·grind[jE]
   ·rw[jE]at h;simp at h
   ·have:=Ja b (g t h.1);grind
   ·rw[jE];simp_all
   ·exact .inr (Ja b (g t a))
   ·exact .inr (Ja b (f t a))
 | succ k=>
  have c:k<(Xs s U).length:=by unfold nX at p;omega
  have b:=cQ c
  by_cases q:k+1<nX s U
  ·have n:=cQ (show k+1<(Xs s U).length from q);exact(bD (Gz b n) (λ_=>n) <| λi l=>by cases l;exact b)
  ·have m:k+1=nX s U:=by omega
   generalize j:(Xs s U)[k]=d at b;have o:sl s U (k+1)=[]:=by grind[D1]
   refine(aO d (d+1) ⟨by grind,?_,λt=>⟨λh=>?_,λh=>?_⟩,?_,λt a=>?_,λt a=>?_⟩ (λh=>by omega) <| λi l=>by cases l;exact b)
   ·simp_all
   ·rw[o]at h;simp at h
   ·have:=I_ m b (f t h.1);grind
   ·simp_all
   ·exact .inl (I_ m b (g t a))
   ·exact .inl (I_ m b (f t a))
theorem BP(k:Nat):first s U k=(((Sl s U).take k).map λa=>(fields a).length).sum:=by
 unfold first
 congr 2
 funext a
 rw[iL]
theorem pW(b:k<=nX s U)(c:j<=(sl s U k).length):(FF s U)[iB s U k j]?=some (si s U k j):=by
 unfold FF iB si;have a:j<(fields (sl s U k)).length:=by rw[iL];omega
 rw[BP,om (f:=fields) (Sl s U) k j (sl s U k) (u6 b) a,pY,cQ a];rfl
theorem Jh(h:i<(FF s U).length):∃k j,k<=nX s U/\j<=(sl s U k).length/\i=iB s U k j:=by
 obtain⟨k,a,j,g,d,c⟩:=tI (f:=fields) (Sl s U) i h;have b:k<=nX s U:=by
  grind[DF]
 have e:a=sl s U k:=bN (g.symm.trans (u6 b));subst e;rw[iL]at d;exact(aO k j b (by omega) <| by unfold iB;rw[BP];exact c)
theorem jC{l:List α}{a b:α}:(l.zip (l.drop 1))[j]?=some (a,b)↔l[j]?=some a/\l[j+1]?=some b:=by
 rw[uN,List.getElem?_drop,Nat.add_comm 1 j]
theorem ke{u v:Nat}:(u,v)∈JJ s U↔
  (∃k j,k<=nX s U/\j<(sl s U k).length/\si s U k j=si s U k (j+1)/\u=iB s U k j/\v=iB s U k (j+1))\/
  (∃k x y,(Xs s U)[k]?=some x/\y∈gaps (places (ew s U k x))/\si s U k (below (sl s U k) x y)=si s U (k+1) (below (sl s U (k+1)) x y)/\
   u=iB s U k (below (sl s U k) x y)/\v=iB s U (k+1) (below (sl s U (k+1)) x y)):=by
 unfold JJ joins;dsimp only;rw[cJ];refine or_congr ?_ ?_
 ·rw[bV];constructor
  ·rintro⟨⟨a,k⟩,d,h⟩;have d:=kG.1 d;obtain⟨⟨⟨b,c⟩,j⟩,f,e⟩:=aw.1 h;obtain⟨f,m⟩:=bh.1 f;have f:=kG.1 f;dsimp only at f m e;obtain⟨t,p⟩:=jC.1 f;have i:k<=nX s U:=by
    grind[DF]
   have q:a=sl s U k:=bN (d.symm.trans (u6 i));subst q;have n:j+1<(fields (sl s U k)).length:=(bF.1 p).1;rw[iL]at n;have r:=(cy e).1;have w:=(cy e).2;refine(e8 k j i (by omega) ?_ r.symm <| by unfold iB first;omega);unfold si
   simp_all
  ·rintro⟨k,j,i,n,hc,rfl,rfl⟩;refine(ab (sl s U k,k) (kG.2 (u6 i)) <| aw.2 (ab ((si s U k j,si s U k (j+1)),j) (bh.2 ⟨kG.2 (jC.2 ⟨?_,?_⟩),?_⟩) ?_))
   ·have l:j<(fields (sl s U k)).length:=by rw[iL];omega
    unfold si
    simp_all
   ·have l:j+1<(fields (sl s U k)).length:=by rw[iL];omega
    unfold si
    simp_all
   ·simpa using hc
   ·refine a9 rfl ?_;show first s U k+j+1=_
    unfold iB;omega
 ·rw[bV];constructor
  ·rintro⟨⟨x,k⟩,d,h⟩;have d:=kG.1 d;refine ae (lO.1 h) λy g e=>?_;dsimp only at g e;split at e
   ·rename_i hc;have e:=bN e;exact(fh k x y d g hc ((cy e).1.symm) <| (cy e).2.symm)
   ·cases e
  ·rintro⟨k,x,y,o,g,hc,rfl,rfl⟩;refine(ab (x,k) (kG.2 o) <| lO.2 (ab y g ?_));dsimp only;exact ak hc
theorem vP{l:List Rat}(h:l.Pairwise (· < ·))(d:y∈gaps l):y∉l:=by
 intro g;unfold gaps at d;cases l with
 | nil=>simp at g
 | cons a l=>
  dsimp only at d;rw[iT]at d;have r:∀x,x∈a::l->a<=x:=by
   intro x hx;rcases aY.1 hx with rfl | hx
   ·exact ib
   ·exact b0 ((dD.1 h).1 x hx)
  rcases aY.1 d with rfl | d
  ·grind
  ·rcases cJ.1 d with d | d
   ·obtain⟨⟨p,q⟩,j,rfl⟩:=aw.1 d;obtain⟨o,n,m,k⟩:=(c8 (S:=(· < ·)) (λa=>by grind) (λa b h=>by grind) h).1 j;exact k _ g (by grind) (by grind)
   ·have d:y=(a::l).getLastD 0+1:=by simpa using d
    have:∀{l:List Rat},l.Pairwise (· < ·)->∀x,x∈l->x<=l.getLastD 0:=by
     intro l g
     induction l with
     | nil=>simp_all
     | cons b l i=>
      intro x hx;cases l with
      | nil=>
       simp_all
      | cons c l=>
       have f:=dD.1 g;have i:=i f.2;have e:(b::c::l).getLastD 0=(c::l).getLastD 0:=by simp[List.getLastD]
       rw[e];rcases aY.1 hx with rfl | hx
       ·have:=f.1 c (by simp);grind
       ·exact i x hx
    have:=this h _ g;grind
theorem FO:∀{l:List Rat},l.Pairwise (· < ·)->∀{h:Rat},h∈l->∃y,y∈gaps l/\h<y/\∀x,x∈l->h<x->y<x:=by
 have i:∀{l:List Rat},l.Pairwise (· < ·)->∀{h:Rat},h∈l->(∃q,(h,q)∈l.zip (l.drop 1))\/(l.getLastD 0=h/\∀x,x∈l->x<=h):=by
  intro l g
  induction l with
  | nil=>intro h d;simp at d
  | cons b l r=>
   intro h d;cases l with
   | nil=>
    simp_all
   | cons c l=>
    have m:=dD.1 g;have e:(b::c::l).zip ((b::c::l).drop 1)=(b,c)::(c::l).zip ((c::l).drop 1):=by simp
    grind
 intro l g h d;rcases i g d with⟨q,k⟩ | ⟨p,o⟩
 ·obtain⟨u,t,s,n⟩:=(c8 (S:=(· < ·)) (λa=>by grind) (λa b h=>by grind) g).1 k;refine(a8 ((h+q)/2) ?_ (by grind) <| λx j f=>?_)
  ·cases l with
   | nil=>simp at d
   | cons a l=>
    unfold gaps;dsimp only;exact cN _ (kD _ (aw.2 (ab (h,q) k rfl)))
  ·have:=n x j f;grind
 ·refine(a8 (h+1) ?_ (by grind) <| λx j f=>by grind);cases l with
  | nil=>simp at d
  | cons a l=>
   unfold gaps
   simp_all
theorem FN:∀{l:List Rat},l.Pairwise (· < ·)->∀{h:Rat},h∈l->∃y,y∈gaps l/\y<h/\∀x,x∈l->x<h->x<y:=by
 have g:∀{l:List Rat},l.Pairwise (· < ·)->∀{h:Rat},h∈l->(∃q,(q,h)∈l.zip (l.drop 1))\/(l.head?=some h/\∀x,x∈l->h<=x):=by
  intro l f
  induction l with
  | nil=>intro h d;simp at d
  | cons b l p=>
   intro h d;have n:=dD.1 f;rcases aY.1 d with rfl | d
   ·refine .inr ⟨rfl,λx j=>?_⟩;grind
   ·left;cases l with
    | nil=>simp at d
    | cons c l=>
     have e:(b::c::l).zip ((b::c::l).drop 1)=(b,c)::(c::l).zip ((c::l).drop 1):=by simp
     grind
 intro l f h d;rcases g f d with⟨q,k⟩ | ⟨m,o⟩
 ·obtain⟨u,t,s,r⟩:=(c8 (S:=(· < ·)) (λa=>by grind) (λa b h=>by grind) f).1 k;refine(a8 ((q+h)/2) ?_ (by grind) <| λx j i=>?_)
  ·cases l with
   | nil=>simp at d
   | cons a l=>
    unfold gaps;dsimp only;exact cN _ (kD _ (aw.2 (ab (q,h) k rfl)))
  grind
 ·refine(a8 (h-1) ?_ (by grind) <| λx j i=>by grind);cases l with
  | nil=>simp at d
  | cons a l=>
   have:a=h:=by simpa using m
   subst this;unfold gaps;simp
section
variable{J:List (Nat×Nat)}{g:Nat->Nat}{c:Nat->Bool}{n:Nat}
def oU(n:Nat)(i:Nat):Nat:=if i=0 then n-1 else i-1
def K9(c:Nat->Bool)(n i:Nat):Prop:=i<n/\c (oU n i)=true/\c i=false
def ox(c:Nat->Bool)(n i:Nat):Prop:=i<n/\c (oU n i)=false/\c i=true
def x5(J:List (Nat×Nat))(g:Nat->Nat)(c:Nat->Bool)(n:Nat):Prop:=∀i,i<n->c (oU n i)=c i->dc J (g (oU n i)) (g i)
def sd(c:Nat->Bool)(n i j:Nat):Prop:=ox c n j/\((j<i/\∀k,j<k->k<i->¬ox c n k)\/(i<j/\(∀k,k<i->¬ox c n k)/\∀k,j<k->¬ox c n k))
theorem gQ(n i:Nat):oU n (i+1)=i:=by unfold oU;simp
theorem jg(n:Nat):oU n 0=n-1:=by unfold oU;simp
theorem j9(R:x5 J g c n){b:Nat}(l:b<n)(hc:c b=true){a:Nat}(f:∀k,a<k->k<=b->¬ox c n k):∀d m,m+d=b->a<=m->c m=true/\dc J (g m) (g b)
 | 0,m,e,_=>by
  have:m=b:=by omega
  subst this;exact⟨hc,.refl _⟩
 | d+1,m,e,p=>by
  refine cE (j9 R l hc f d (m+1) (by omega) (by omega)) λi o=>?_;have k:=f (m+1) (by omega) (by omega);have j:c m=true:=by
   cases h:c m with
   | true=>rfl
   | false=>exact absurd (cO (by omega) (by rw[gQ];exact h) i) k
  refine⟨j,?_⟩;have:=R (m+1) (by omega) (by rw[gQ,j,i]);rw[gQ]at this;exact this.trans o
theorem vu(R:x5 J g c n)(y:K9 c n i)(w:sd c n i j):
  (∀m,((j<i/\j<=m/\m<i)\/(i<j/\(m<i\/(j<=m/\m<n))))->c m=true/\dc J (g m) (g (oU n i))):=by
 refine fb y λx d u=>?_;refine cE w λz h=>?_;rcases h with⟨s,v⟩ | ⟨s,f,p⟩
 ·intro m o;have o:j<=m/\m<i:=by omega
  cases i with
  | zero=>omega
  | succ i=>
   rw[gQ]at d ⊢;exact j9 R (b:=i) (by omega) d (a:=j) (λk l q=>v k l (by omega)) (i-m) m (by omega) (by omega)
 ·have top:c (n-1)=true/\dc J (g (n-1)) (g (oU n i))/\∀m,m<i->c m=true/\dc J (g m) (g (oU n i)):=by
   cases i with
   | zero=>
    rw[jg]at d ⊢;exact(cO d (.refl _) <| λm o=>absurd o (uf _))
   | succ i=>
    rw[gQ]at d ⊢;have h0:=j9 R (b:=i) (by omega) d (a:=0) (λk l q=>f k (by omega)) (i-0) 0 (by omega) (by omega);have e:c (n-1)=true:=by
     cases h:c (n-1) with
     | true=>rfl
     | false=>exact absurd (cO (by omega) (by rw[jg];exact h) h0.1) (f 0 (by omega))
    have:=R 0 (by omega) (by rw[jg,e,h0.1]);rw[jg]at this;refine(cO e (this.trans h0.2) <| λm o=>?_);exact j9 R (b:=i) (by omega) d (a:=0) (λk l q=>f k (by omega)) (i-m) m (by omega) (by omega)
  intro m o
  by_cases r:m<i
  ·exact top.2.2 m r
  ·have t:j<=m/\m<n:=by omega
   have h0:=j9 R (b:=n-1) (by omega) top.1 (a:=j) (λk l q=>p k l) (n-1-m) m (by omega) t.1;exact⟨h0.1,h0.2.trans top.2.1⟩
theorem Fj(R:x5 J g c n)(b:K9 c n i)(a:sd c n i j):dc J (g j) (g (oU n i)):=by
 refine(vu R b a j ?_).2;have:=a.1.1;rcases a.2 with⟨h,_⟩ | ⟨h,_⟩
 ·exact .inl (cO h (a0 _) h)
 simp_all
theorem HG(R:x5 J g c n){b:Nat}(e:K9 c n i)(a:K9 c n b)(k:sd c n i j)(d:sd c n b j):i=b:=by
 have f:∀i b,K9 c n i->K9 c n b->sd c n i j->sd c n b j->i<b->False:=by
  intro i b e a k d m;have q:=vu R e k;have p:=vu R a d;have s:=e.2.2;have o:=a.2.2;have r:=e.1;have l:=a.1;grind
 rcases kz i b with h | h | h
 ·exact(f i b e a k d h).elim
 ·exact h
 ·exact(f b i a e d k h).elim
theorem y4(p:Nat->Prop):∀n,(∃k,k<n/\p k)->∃k,k<n/\p k/\∀m,k<m->m<n->¬p m
 | 0,⟨k,h,_⟩=>absurd h (uf _)
 | n+1,⟨k,h,a⟩=>by
  by_cases f:p n
  ·grind
  ·have b:k<n:=by
    rcases lP (uj h) with o | o
    ·exact o
    simp_all
   refine aH (y4 p n (ab k b a)) λj e d c=>?_;grind
theorem Kg(R:x5 J g c n)(f:K9 c n i):∃j,sd c n i j:=by
 have w:=f.1
 by_cases h:∃k,k<i/\ox c n k
 ·refine aH (y4 (ox c n) i h) λj s d q=>?_;exact(ab j d <| .inl ⟨s,λk p u=>q k p u⟩)
 ·have l:∀k,k<i->¬ox c n k:=λk v z=>h (ab k v z)
  by_cases t:∃k,k<n/\ox c n k
  ·refine aH (y4 (ox c n) n t) λj s d q=>?_;have r:i<j:=by
    rcases kz i j with o | o | o
    ·exact o
    ·subst o;have:=d.2.2;rw[f.2.2]at this;cases this
    simp_all
   exact(ab j d <| .inr (cO r l <| λk p z=>q k p z.1 z))
  ·exfalso;have m:∀k,¬ox c n k:=λk z=>t (ab k z.1 z);have x:c (oU n i)=true:=f.2.1;have y:oU n i<n:=by unfold oU;split <;> omega
   have h0:=j9 R y x (a:=0) (λk _ _=>m k) (oU n i-0) 0 (by omega) (by omega);have e:c (n-1)=true:=by
    cases h:c (n-1) with
    | true=>rfl
    | false=>exact absurd (cO (by omega) (by rw[jg];exact h) h0.1) (m 0)
   have:=(j9 R (b:=n-1) (by omega) e (a:=0) (λk _ _=>m k) (n-1-i) i (by omega) (by omega)).1;rw[f.2.2]at this;cases this
end
variable{s:Both}{U:Nat}
theorem dB:y∈ew s U k x↔(∃t,t∈sl s U k/\height t.p x=y)\/(∃t,t∈sl s U (k+1)/\height t.p x=y)\/∃t,t∈sided s U/\t.p.1.1=x/\t.p.2.1=x/\(y=t.p.1.2\/y=t.p.2.2):=by
 unfold ew;rw[cJ,cJ,aw,aw,bV];refine or_congr Iff.rfl (or_congr Iff.rfl ?_);constructor
 ·rintro⟨t,a,h⟩;split at h
  ·rename_i k;exact⟨t,a,k.1,k.2,by simpa using h⟩
  ·simp at h
 ·rintro⟨t,a,d,c,b⟩;refine(ab t a ?_)
  simp_all
structure bj(s:Both)(U:Nat)(k:Nat)(x:Rat) where
 x0:Rat
 x1:Rat
 hx:(Xs s U)[k]?=some x
 hk:k<nX s U
 L:cG s U x0 x (sl s U k)
 R:cG s U x x1 (sl s U (k+1))
theorem placeAt(h:(Xs s U)[k]?=some x):Nonempty (bj s U k x):=by
 have a:k<nX s U:=(bF.1 h).1;refine aF (o3 (s:=s) (U:=U) (k:=k) (by omega)) λc y S f _=>?_;refine aF (o3 (s:=s) (U:=U) (k:=k+1) (by omega)) λd b j _ e=>?_;have i:y=x:=bN ((f a).symm.trans h);have g:d=x:=bN ((e k rfl).symm.trans h);subst i;subst g;exact⟨⟨c,b,h,a,S,j⟩⟩
theorem bj.free(P:bj s U k x)(g:y∉ew s U k x)(u:∀t,t∈sided s U->t.p.1.1=x->t.p.2.1=x->t.p.1.2<y->y<t.p.2.2->False):∀e,e∈E s->¬On e (x,y):=by
 intro e w h;refine aN (Ds w h) λp q f=>dG f λt m _ _ i f=>cE f λD j=>?_;have d:=cn.1 (bq m);have c:Jm s U (p,q)∈sided s U:=aM.2 ⟨m,rfl⟩;have o:x=p.1+t*(q.1-p.1):=cq Prod.fst j;have A:y=p.2+t*(q.2-p.2):=cq Prod.snd j;rcases d with d | ⟨d,v⟩
 ·have C:=dA i (show 0<=q.1-p.1 by grind);have B:=dA (show 0<=1-t by grind) (show 0<=q.1-p.1 by grind);have n:height (Jm s U (p,q)).p x=y:=by
   show height (p,q) x=y;rw[o,A];exact oH (p:=(p,q)) d t
  refine g (dB.2 ?_)
  by_cases a:p.1<x
  ·left;refine(aa ((P.L.mem _).2 (cO c ?_ ?_)) n)
   ·have l:p.1<=P.x0\/x<=p.1:=P.L.Lz _ c;show p.1<=P.x0;grind
   ·show x<=q.1;grind
  ·right;left;have a:p.1=x:=by grind
   refine(aa ((P.R.mem _).2 (cO c ?_ ?_)) n)
   ·show p.1<=x;grind
   ·have r:q.1<=x\/P.x1<=q.1:=P.R.Ke _ c;show P.x1<=q.1;grind
 ·have a:p.1=x:=by rw[d]at o;grind
  have b:q.1=x:=by grind
  have C:=dA i (show 0<=q.2-p.2 by grind);have B:=dA (show 0<=1-t by grind) (show 0<=q.2-p.2 by grind);have G:y≠p.2:=λz=>g (dB.2 (.inr (.inr ⟨_,c,a,b,.inl z⟩)));have F:y≠q.2:=λz=>g (dB.2 (.inr (.inr ⟨_,c,a,b,.inr z⟩)));exact u _ c a b (show p.2<y by grind) (show y<q.2 by grind)
theorem bj.Lz(P:bj s U k x)(a:y∉ew s U k x):∀t,t∈sl s U k->height t.p x≠y:=λt b e=>a (dB.2 (.inl (ab t b e)))
theorem bj.Ke(P:bj s U k x)(a:y∉ew s U k x):∀t,t∈sl s U (k+1)->height t.p x≠y:=λt b e=>a (dB.2 (.inr (.inl (ab t b e))))
theorem bj.over(P:bj s U k x)(a:y∉ew s U k x)(h:∀t,t∈sided s U->t.p.1.1=x->t.p.2.1=x->t.p.1.2<y->y<t.p.2.2->False):
  si s U k (below (sl s U k) x y)=si s U (k+1) (below (sl s U (k+1)) x y):=by
 have n:=P.free a h;have m:=P.L.HY (P.Lz a);have l:=P.R.D7 (P.Ke a);have j:Ev λd=>∀e,e∈E s->fU e (bp (x,y) (-1,0) d) (bp (x,y) (1,0) d):=Ev.all λe i=>pI (n e i) (-1,0) (1,0);refine((m.and (l.and j)).mono λd _ b=>fb b λg f c=>?_:Ev λ_=>si s U k (below (sl s U k) x y)=si s U (k+1) (below (sl s U (k+1)) x y)).const;unfold si;rw[<-g,<-f];have:=vQ (U:=U) c;have p:bp (x,y) (-1,0) d=(x-d,y):=by unfold bp;grind
 have o:bp (x,y) (1,0) d=(x+d,y):=by unfold bp;grind
 rw[p,o]at this;exact this
theorem bj.beside(P:bj s U k x)(f:y∉ew s U k x)(q:t∈sided s U)(A:t.p.1.1=x)(z:t.p.2.1=x)(l:t.p.1.2<y)(j:y<t.p.2.2):
  si s U k (below (sl s U k) x y)=t.left/\si s U (k+1) (below (sl s U (k+1)) x y)=t.right:=by
 have a:=aM.1 q;have u:=P.L.HY (P.Lz f);have r:=P.R.D7 (P.Ke f);refine cE (fR l j) λw v=>?_;have i:aI t.p.1 t.p.2 ((y-t.p.1.2)/(t.p.2.2-t.p.1.2))=(x,y):=by
  have:(y-t.p.1.2)/(t.p.2.2-t.p.1.2)*(t.p.2.2-t.p.1.2)=y-t.p.1.2:=by grind
  unfold aI;grind
 have h:=u9 (U:=U) a.1 _ (-1,0) w v (by unfold c9 aP;dsimp only;grind);have g:=tr (U:=U) a.1 (1-(y-t.p.1.2)/(t.p.2.2-t.p.1.2)) (1,0) (by grind) (by grind) (by unfold c9 aP;dsimp only;grind);rw[i]at h;rw[kh,show 1-(1-(y-t.p.1.2)/(t.p.2.2-t.p.1.2))=(y-t.p.1.2)/(t.p.2.2-t.p.1.2) by grind,i]at g;have p:t.left=H_ s U t.p:=by rw[a.2];rfl
 have o:t.right=GV s U t.p:=by rw[a.2];rfl
 have n:∀d,bp (x,y) (-1,0) d=(x-d,y):=λd=>by unfold bp;exact a9 (by dsimp only;grind) (by dsimp only;grind)
 have m:∀d,bp (x,y) (1,0) d=(x+d,y):=λd=>by unfold bp;exact a9 (by dsimp only;grind) (by dsimp only;grind)
 constructor
 ·refine((u.and h).mono λd _ b=>cE b λe c=>?_:Ev λ_=>si s U k (below (sl s U k) x y)=t.left).const;unfold si;rw[<-e,p,<-c,n]
 ·refine((r.and g).mono λd _ b=>cE b λe c=>?_:Ev λ_=>si s U (k+1) (below (sl s U (k+1)) x y)=t.right).const;unfold si;rw[<-e,o,<-c,m]
theorem bj.oF(P:bj s U k x)(C:h∈ew s U k x)(B:t∈sided s U)(N:t.p.1.1=x)(M:t.p.2.1=x)(A:t.p.1.2<h)(z:h<t.p.2.2):False:=by
 have n:=aM.1 B;refine cE (fR A z) λy w=>?_;have o:aI t.p.1 t.p.2 ((h-t.p.1.2)/(t.p.2.2-t.p.1.2))=(x,h):=by
  have:(h-t.p.1.2)/(t.p.2.2-t.p.1.2)*(t.p.2.2-t.p.1.2)=h-t.p.1.2:=by grind
  unfold aI;exact a9 (by dsimp only;grind) (by dsimp only;grind)
 have c:∀e,e∈E s->Cut (E s) e (x,h)->False:=λe D hc=>iD mI n.1 D y w (by rw[o];exact hc);have a:∀u,u∈sided s U->u.p.1.1<u.p.2.1->u.p.1.1<=x->x<=u.p.2.1->height u.p x=h->False:=by
  intro u b m I H d;have f:=aM.1 b;obtain⟨⟨q,j,v⟩,⟨p,i,r⟩⟩:=gq f.1
  by_cases c1:u.p.1.1=x
  ·have:u.p.1=(x,h):=a9 c1 (by rw[<-d,<-c1,n' m]);exact c q j (by rw[<-this];exact v)
  ·by_cases c2:u.p.2.1=x
   ·have:u.p.2=(x,h):=a9 c2 (by rw[<-d,<-c2,lZ m]);exact c p i (by rw[<-this];exact r)
   ·refine cE (fR (show u.p.1.1<x by grind) (show x<u.p.2.1 by grind)) λG F=>?_;have l:=gr m x;rw[d]at l;have:=mq mI n.1 f.1 y w G F (o.trans l);grind
 rcases dB.1 C with⟨u,b,d⟩ | ⟨u,b,d⟩ | ⟨u,b,L,K,J⟩
 ·have g:=(P.L.mem u).1 b;have:=P.L.lt;exact a u g.1 (P.L.nv b) (by grind) g.2.2 d
 ·have g:=(P.R.mem u).1 b;have:=P.R.lt;exact a u g.1 (P.R.nv b) g.2.1 (by grind) d
 ·obtain⟨⟨q,j,v⟩,⟨p,i,r⟩⟩:=gq (aM.1 b).1;grind
variable{s:Both}{U:Nat}
noncomputable def pB(a:List Sided)(x h:Rat):Nat:=(a.filter λt=>decide (height t.p x<=h)).length
theorem i'{x h:Rat}:∀{a:List Sided},a.Pairwise (λt u=>height t.p x<=height u.p x)->∀{i:Nat} {t:Sided},a[i]?=some t->(i<pB a x h↔height t.p x<=h)
 | [],_,i,t,b=>by simp at b
 | u::a,e,i,t,b=>by
  have c:=dD.1 e;have d:=fun{i t} b=>i' (x:=x) (h:=h) (a:=a) c.2 (i:=i) (t:=t) b;unfold pB at d ⊢;rw[h9]
  by_cases k:height u.p x<=h
  ·rw[ak (bE k),dj];cases i with
   | zero=>
    simp_all
   | succ i=>
    simp_all
  grind
theorem x8(a:List Sided)(x h:Rat):pB a x h<=a.length:=jB _ _
theorem Bv(a:List Sided)(x h:Rat):below a x h<=pB a x h:=by
 unfold below pB;refine k8 (λt k=>?_) a;grind
theorem r_{a:List Sided}(k:∀t,t∈a->(height t.p x<y↔height t.p x<h)):below a x y=below a x h:=by
 unfold below
 congr 1
 refine qL λt b=>?_;simp[k t b]
theorem wg{a:List Sided}(k:∀t,t∈a->(height t.p x<y↔height t.p x<=h)):below a x y=pB a x h:=by
 unfold below pB
 congr 1
 refine qL λt b=>?_;simp[k t b]
section
variable(s:Both)(U:Nat)(k:Nat)(x h:Rat)
def C3:Nat:=below (sl s U k) x h
def o_:Nat:=pB (sl s U k) x h
def o9:Nat:=below (sl s U (k+1)) x h
def De:Nat:=pB (sl s U (k+1)) x h
def nL:Nat:=o_ s U k x h-C3 s U k x h
def nF:Nat:=nL s U k x h+(De s U k x h-o9 s U k x h)+2
def ei(I:Nat):Nat×Nat:=if I<=nL s U k x h then (k,o_ s U k x h-I) else (k+1,o9 s U k x h+(I-nL s U k x h-1))
def gF(I:Nat):Nat:=iB s U (ei s U k x h I).1 (ei s U k x h I).2
def kF(I:Nat):Bool:=si s U (ei s U k x h I).1 (ei s U k x h I).2
def jt(I:Nat)(t:Sided)(u:At):Prop:=t∈sided s U/\
 ((I=0/\t.p=((x,h),u)/\u.1=x)\/(I=nL s U k x h+1/\t.p=(u,(x,h))/\u.1=x)\/(∃i,C3 s U k x h<=i/\i<o_ s U k x h/\(sl s U k)[i]?=some t/\I=o_ s U k x h-i/\t.p=(u,(x,h)))\/(∃i,o9 s U k x h<=i/\i<De s U k x h/\(sl s U (k+1))[i]?=some t/\I=nL s U k x h+2+(i-o9 s U k x h)/\t.p=((x,h),u)))
end
theorem fA(a:I<=nL s U k x h):ei s U k x h I=(k,o_ s U k x h-I):=ak a
theorem fy(a:nL s U k x h<I):ei s U k x h I=(k+1,o9 s U k x h+(I-nL s U k x h-1)):=ai (by omega)
theorem xy(s:Both)(U k:Nat)(x h:Rat):C3 s U k x h<=o_ s U k x h/\o_ s U k x h<=(sl s U k).length:=⟨Bv _ _ _,x8 _ _ _⟩
theorem xx(s:Both)(U k:Nat)(x h:Rat):o9 s U k x h<=De s U k x h/\De s U k x h<=(sl s U (k+1)).length:=⟨Bv _ _ _,x8 _ _ _⟩
theorem bj.rT(P:bj s U k x)(f:h∈ew s U k x):∃y,y∈gaps (places (ew s U k x))/\h<y/\y∉ew s U k x/\(∀z,z∈ew s U k x->h<z->y<z)/\
  below (sl s U k) x y=o_ s U k x h/\below (sl s U (k+1)) x y=De s U k x h:=by
 refine aH (FO (iI _) (fL.2 f)) λy d i g=>?_;have b:=vP (iI _) d;have a:∀z,z∈ew s U k x->h<z->y<z:=λz e=>g z (fL.2 e);refine⟨y,d,i,λz=>b (fL.2 z),a,?_,?_⟩
 ·refine wg λt c=>?_;have:=a (height t.p x) (dB.2 (.inl (ab t c rfl)));grind
 ·refine wg λt c=>?_;have:=a (height t.p x) (dB.2 (.inr (.inl (ab t c rfl))));grind
theorem bj.rS(P:bj s U k x)(f:h∈ew s U k x):∃y,y∈gaps (places (ew s U k x))/\y<h/\y∉ew s U k x/\(∀z,z∈ew s U k x->z<h->z<y)/\
  below (sl s U k) x y=C3 s U k x h/\below (sl s U (k+1)) x y=o9 s U k x h:=by
 refine aH (FN (iI _) (fL.2 f)) λy d i g=>?_;have b:=vP (iI _) d;have a:∀z,z∈ew s U k x->z<h->z<y:=λz e=>g z (fL.2 e);refine⟨y,d,i,λz=>b (fL.2 z),a,?_,?_⟩
 ·refine r_ λt c=>?_;have:=a (height t.p x) (dB.2 (.inl (ab t c rfl)));grind
 ·refine r_ λt c=>?_;have:=a (height t.p x) (dB.2 (.inr (.inl (ab t c rfl))));grind
theorem tK{u v:Nat}(h:(u,v)∈J):dc J u v:=.fwd (.refl _) h
theorem bj.GR(P:bj s U k x)(l:h∈ew s U k x)(Y:Bool):x5 (JJ s U) (gF s U k x h) (λi=>kF s U k x h i==Y) (nF s U k x h):=by
 intro i z hc;have hc:kF s U k x h (oU (nF s U k x h) i)=kF s U k x h i:=by
  have hc:(kF s U k x h (oU (nF s U k x h) i)==Y)=(kF s U k x h i==Y):=hc;revert hc;generalize kF s U k x h (oU (nF s U k x h) i)=a;generalize kF s U k x h i=b;cases a <;> cases b <;> cases Y <;> simp
 have v:=xy s U k x h;have u:=xx s U k x h;have q:nF s U k x h=nL s U k x h+(De s U k x h-o9 s U k x h)+2:=rfl;have p:nL s U k x h=o_ s U k x h-C3 s U k x h:=rfl;have w:=P.hk;unfold gF kF at *;cases i with
 | zero=>
  rw[jg]at hc ⊢;have j:ei s U k x h (nF s U k x h-1)=(k+1,De s U k x h):=by
   grind[fy,Prod.ext]
  have t:ei s U k x h 0=(k,o_ s U k x h):=by rw[fA (by omega)];rfl
  rw[j,t]at hc ⊢;refine dG (P.rT l) λy g o n m f=>cE f λd c=>?_;exact(tK (ke.2 (.inr (fh k x y P.hx g (by simp_all) (by rw[d]) <| by rw[c])))).symm
 | succ i=>
  rw[gQ]at hc ⊢
  by_cases c1:i+1<=nL s U k x h
  ·rw[fA (by omega),fA c1]at hc ⊢;dsimp only at hc ⊢;have e:o_ s U k x h-i=o_ s U k x h-(i+1)+1:=by omega
   rw[e]at hc ⊢;exact(tK (ke.2 (.inl (e8 k _ (by omega) (by omega) hc.symm rfl rfl)))).symm
  ·by_cases c2:i=nL s U k x h
   ·rw[fA (by omega),fy (by omega)]at hc ⊢;dsimp only at hc ⊢;have j:o_ s U k x h-i=C3 s U k x h:=by omega
    have r:o9 s U k x h+(i+1-nL s U k x h-1)=o9 s U k x h:=by omega
    rw[j,r]at hc ⊢;refine dG (P.rS l) λy g o n m f=>cE f λd c=>?_;exact tK (ke.2 (.inr (fh k x y P.hx g (by rw[d,c];exact hc) (by rw[d]) <| by rw[c])))
   ·rw[fy (by omega),fy (by omega)]at hc ⊢;dsimp only at hc ⊢;have e:o9 s U k x h+(i+1-nL s U k x h-1)=o9 s U k x h+(i-nL s U k x h-1)+1:=by omega
    rw[e]at hc ⊢;exact tK (ke.2 (.inl (e8 (k+1) _ (by omega) (by omega) hc rfl rfl)))
theorem iH(a:k<=nX s U)(b:(sl s U k)[i]?=some t):si s U k i=t.right/\si s U k (i+1)=t.left:=by
 refine aF (o3 (s:=s) (U:=U) a) λx y S _ _=>?_;constructor
 ·unfold si;exact(S.right b).symm
 ·unfold si fields
  simp_all
theorem mh(a:t∈sided s U)(c:t.p.1.1=x)(b:t.p.2.1=x):t.p.1.2<t.p.2.2:=by
 have:=cn.1 (bq (aM.1 a).1);grind
def e7(s:Both)(U:Nat)(d:At×At)(φ:Nat):Prop:=∃t,t∈sided s U/\
 ((∃k i,k<=nX s U/\(sl s U k)[i]?=some t/\((d=(t.p.1,t.p.2)/\φ=iB s U k (i+1))\/(d=(t.p.2,t.p.1)/\φ=iB s U k i)))\/(∃k x y,(Xs s U)[k]?=some x/\t.p.1.1=x/\t.p.2.1=x/\t.p.1.2<y/\y<t.p.2.2/\y∉ew s U k x/\((d=(t.p.1,t.p.2)/\φ=iB s U k (below (sl s U k) x y))\/(d=(t.p.2,t.p.1)/\φ=iB s U (k+1) (below (sl s U (k+1)) x y)))))
theorem bj.OK(P:bj s U k x)(B:h∈ew s U k x)(R:jt s U k x h I t u):
  I<nF s U k x h/\
  (t.p=((x,h),u)->kF s U k x h (oU (nF s U k x h) I)=t.right/\kF s U k x h I=t.left/\e7 s U ((x,h),u) (gF s U k x h I)/\e7 s U (u,(x,h)) (gF s U k x h (oU (nF s U k x h) I)))/\
  (t.p=(u,(x,h))->kF s U k x h (oU (nF s U k x h) I)=t.left/\kF s U k x h I=t.right/\e7 s U ((x,h),u) (gF s U k x h I)/\e7 s U (u,(x,h)) (gF s U k x h (oU (nF s U k x h) I))):=by
 have J:=xy s U k x h;have H:=xx s U k x h;have G:nF s U k x h=nL s U k x h+(De s U k x h-o9 s U k x h)+2:=rfl;have F:nL s U k x h=o_ s U k x h-C3 s U k x h:=rfl;have K:=P.hk;refine cE R λb R=>?_;have a:=bR (bq (aM.1 b).1);unfold gF kF;rcases R with⟨rfl,e,A⟩ | ⟨rfl,e,A⟩ | ⟨i,E,D,j,rfl,e⟩ | ⟨i,E,D,j,rfl,e⟩
 ·
  refine(cO (by omega) (λ_=>?_) <| λe'=>absurd (by rw[e]at e';exact(cy e').1) (by rw[e]at a;exact a));rw[jg];have w:ei s U k x h (nF s U k x h-1)=(k+1,De s U k x h):=by
   rw[fy (by omega)];exact a9 rfl (by dsimp only;omega)
  have z:ei s U k x h 0=(k,o_ s U k x h):=by rw[fA (by omega)];rfl
  rw[w,z];dsimp only;refine dG (P.rT B) λy C v g r q=>cE q λo n=>?_;have f:t.p.1.1=x:=by rw[e]
  have d:t.p.2.1=x:=by rw[e];exact A
  have up:=mh b f d;have m:t.p.1.2<y:=by rw[e];exact v
  have l:y<t.p.2.2:=r t.p.2.2 (dB.2 (.inr (.inr ⟨t,b,f,d,.inr rfl⟩))) (by rw[e]at up ⊢;exact up);have c:=P.beside g b f d m l;rw[o,n]at c;refine(oX c.2 c.1 ?_ ?_)
  ·exact(ab t b <| .inr ⟨k,x,y,P.hx,f,d,m,l,g,.inl ⟨by rw[e],by rw[o]⟩⟩)
  ·exact(ab t b <| .inr ⟨k,x,y,P.hx,f,d,m,l,g,.inr ⟨by rw[e],by rw[n]⟩⟩)
 ·
  refine(cO (by omega) (λe'=>absurd (by rw[e]at e';exact(cy e').1) (by rw[e]at a;exact a)) <| λ_=>?_);rw[gQ];have w:ei s U k x h (nL s U k x h)=(k,C3 s U k x h):=by
   rw[fA (a0 _)];exact a9 rfl (by dsimp only;omega)
  have z:ei s U k x h (nL s U k x h+1)=(k+1,o9 s U k x h):=by
   rw[fy (by omega)];exact a9 rfl (by dsimp only;omega)
  rw[w,z];dsimp only;refine dG (P.rS B) λy C v g r q=>cE q λo n=>?_;have f:t.p.1.1=x:=by rw[e];exact A
  have d:t.p.2.1=x:=by rw[e]
  have up:=mh b f d;have l:y<t.p.2.2:=by rw[e];exact v
  have m:t.p.1.2<y:=r t.p.1.2 (dB.2 (.inr (.inr ⟨t,b,f,d,.inl rfl⟩))) (by rw[e]at up ⊢;exact up);have c:=P.beside g b f d m l;rw[o,n]at c;refine(oX c.1 c.2 ?_ ?_)
  ·exact(ab t b <| .inr ⟨k,x,y,P.hx,f,d,m,l,g,.inr ⟨by rw[e],by rw[n]⟩⟩)
  ·exact(ab t b <| .inr ⟨k,x,y,P.hx,f,d,m,l,g,.inl ⟨by rw[e],by rw[o]⟩⟩)
 ·
  refine(cO (by omega) (λe'=>absurd (by rw[e]at e';exact(cy e').1) (by rw[e]at a;exact a)) <| λ_=>?_);obtain⟨c,hc⟩:∃c,o_ s U k x h-i=c+1:=⟨o_ s U k x h-i-1,by omega⟩
  rw[hc,gQ,fA (by omega),fA (by omega)];dsimp only;rw[show o_ s U k x h-c=i+1 by omega,show o_ s U k x h-(c+1)=i by omega];have p:=iH (by omega) j;refine(oX p.2 p.1 ?_ ?_)
  ·exact(ab t b <| .inl (aO k i (by omega) j <| .inr ⟨by rw[e],rfl⟩))
  ·exact(ab t b <| .inl (aO k i (by omega) j <| .inl ⟨by rw[e],rfl⟩))
 ·
  refine(cO (by omega) (λ_=>?_) <| λe'=>absurd (by rw[e]at e';exact(cy e').1) (by rw[e]at a;exact a));rw[show nL s U k x h+2+(i-o9 s U k x h)=(nL s U k x h+1+(i-o9 s U k x h))+1 by omega,gQ,fy (by omega),fy (by omega)];dsimp only;rw[show o9 s U k x h+(nL s U k x h+1+(i-o9 s U k x h)-nL s U k x h-1)=i by omega,show o9 s U k x h+(nL s U k x h+1+(i-o9 s U k x h)+1-nL s U k x h-1)=i+1 by omega];have p:=iH (by omega) j;refine(oX p.1 p.2 ?_ ?_)
  ·exact(ab t b <| .inl (aO (k+1) i (by omega) j <| .inl ⟨by rw[e],rfl⟩))
  ·exact(ab t b <| .inl (aO (k+1) i (by omega) j <| .inr ⟨by rw[e],rfl⟩))
theorem bj.GZ(P:bj s U k x)(a:t∈sided s U):
  (∀u,t.p=((x,h),u)->h∈ew s U k x/\∃I,jt s U k x h I t u)/\(∀u,t.p=(u,(x,h))->h∈ew s U k x/\∃I,jt s U k x h I t u):=by
 have q:=cn.1 (bq (aM.1 a).1);have p:=P.L.lt;have o:=P.R.lt;constructor
 ·intro u e;have g:t.p.1.1=x:=by rw[e]
  have f:t.p.1.2=h:=by rw[e]
  by_cases c:t.p.2.1=x
  ·refine(⟨dB.2 (.inr (.inr ⟨t,a,g,c,.inl f.symm⟩)),ab 0 a <| .inl (cO rfl e ?_)⟩);rw[e]at c;exact c
  ·have j:t.p.1.1<t.p.2.1:=by grind
   have r:=P.R.Ke t a;have d:t∈sl s U (k+1):=(P.R.mem t).2 (cO a (by grind) <| by grind);refine aA (eJ d) λi b=>?_;have l:height t.p x=h:=by rw[<-g,n' j,f]
   have n:=gC (x:=x) (y0:=h) (P.R.mJ (by grind) (by grind)) b;have m:=i' (x:=x) (h:=h) (P.R.mJ (by grind) (by grind)) b;refine(⟨dB.2 (.inr (.inl (ab t d l))),aa a <| .inr (.inr (.inr ⟨i,?_,?_,b,rfl,e⟩))⟩)
   ·unfold o9
    simp_all
   ·unfold De
    simp_all
 ·intro u e;have g:t.p.2.1=x:=by rw[e]
  have f:t.p.2.2=h:=by rw[e]
  by_cases c:t.p.1.1=x
  ·refine(⟨dB.2 (.inr (.inr ⟨t,a,c,g,.inr f.symm⟩)),aa a <| .inr (.inl (cO rfl e ?_))⟩);rw[e]at c;exact c
  ·have j:t.p.1.1<t.p.2.1:=by grind
   have r:=P.L.Lz t a;have d:t∈sl s U k:=(P.L.mem t).2 (cO a (by grind) <| by grind);refine aA (eJ d) λi b=>?_;have l:height t.p x=h:=by rw[<-g,lZ j,f]
   have n:=gC (x:=x) (y0:=h) (P.L.mJ (by grind) (by grind)) b;have m:=i' (x:=x) (h:=h) (P.L.mJ (by grind) (by grind)) b;refine(⟨dB.2 (.inl (ab t d l)),aa a <| .inr (.inr (.inl ⟨i,?_,?_,b,rfl,e⟩))⟩)
   ·unfold C3
    simp_all
   ·unfold o_
    simp_all
theorem xM(d:∃e,e∈E s/\Cut (E s) e v)(f:t∈sided s U)(a:t.p.1.1<t.p.2.1)(k:t.p.1.1<=v.1)(j:v.1<=t.p.2.1)(b:height t.p v.1=v.2):t.p.1=v\/t.p.2=v:=by
 refine ae d λe g hc=>?_
 by_cases c1:t.p.1.1=v.1
 ·exact .inl (a9 c1 (by rw[<-b,<-c1,n' a]))
 ·by_cases c2:t.p.2.1=v.1
  ·exact .inr (a9 c2 (by rw[<-b,<-c2,lZ a]))
  ·refine cE (fR (show t.p.1.1<v.1 by grind) (show v.1<t.p.2.1 by grind)) λi h=>?_;have c:=gr a v.1;rw[b]at c;exact(iD mI (aM.1 f).1 g i h (by rw[<-c];exact hc)).elim
theorem bj.MK(P:bj s U k x)(r:h∈ew s U k x)(K:∃e,e∈E s/\Cut (E s) e (x,h))(hp:I<nF s U k x h)(hc:kF s U k x h (oU (nF s U k x h) I)≠kF s U k x h I):∃t u,jt s U k x h I t u:=by
 have l1:=xy s U k x h;have l2:=xx s U k x h;have R:nF s U k x h=nL s U k x h+(De s U k x h-o9 s U k x h)+2:=rfl;have Q:nL s U k x h=o_ s U k x h-C3 s U k x h:=rfl;have hk:=P.hk;have Z:=P.L.lt;have Y:=P.R.lt;unfold kF at hc
 by_cases S:I=0
 ·subst S;rw[jg]at hc;have F:ei s U k x h (nF s U k x h-1)=(k+1,De s U k x h):=by
   rw[fy (by omega)];exact a9 rfl (by dsimp only;omega)
  have G:ei s U k x h 0=(k,o_ s U k x h):=by rw[fA (by omega)];rfl
  rw[F,G]at hc;dsimp only at hc;refine dG (P.rT r) λy O N A w v=>cE v λM L=>?_;have:∃t,t∈sided s U/\t.p.1.1=x/\t.p.2.1=x/\t.p.1.2<y/\y<t.p.2.2:=by
   refine d8 λC=>hc ?_;have:=P.over A λt a b c d e=>C ⟨t,a,b,c,d,e⟩
   simp_all
  refine dG this λt j p o X W=>?_;have n:t.p.1.2=h:=by
   have m:t.p.1.2∈ew s U k x:=dB.2 (.inr (.inr ⟨t,j,p,o,.inl rfl⟩));have:=λz=>w _ m z;have:=λz=>P.oF r j p o z (by grind);grind
  refine(br t t.p.2 j <| .inl (cO rfl ?_ o));exact a9 (a9 p n) rfl
 ·by_cases c1:I=nL s U k x h+1
  ·subst c1;rw[gQ]at hc;have F:ei s U k x h (nL s U k x h)=(k,C3 s U k x h):=by
    rw[fA (a0 _)];grind
   have G:ei s U k x h (nL s U k x h+1)=(k+1,o9 s U k x h):=by
    grind[fy,Prod.ext]
   rw[F,G]at hc;dsimp only at hc;refine dG (P.rS r) λy O N A w v=>cE v λM L=>?_;have:∃t,t∈sided s U/\t.p.1.1=x/\t.p.2.1=x/\t.p.1.2<y/\y<t.p.2.2:=by
    refine d8 λC=>hc ?_;have:=P.over A λt a b c d e=>C ⟨t,a,b,c,d,e⟩
    simp_all
   refine dG this λt j p o X W=>?_;have n:t.p.2.2=h:=by
    have m:t.p.2.2∈ew s U k x:=dB.2 (.inr (.inr ⟨t,j,p,o,.inr rfl⟩));have:=λz=>w _ m z;have:=λz=>P.oF r j p o (by grind) z;grind
   refine(br t t.p.1 j <| .inr (.inl (cO rfl ?_ p)));exact a9 rfl (a9 o n)
  ·by_cases c2:I<=nL s U k x h
   ·
    have l:o_ s U k x h-I<(sl s U k).length:=by omega
    have g:=cQ l;generalize j:(sl s U k)[o_ s U k x h-I]=t at g;have q:t∈sl s U k:=bP g;have f:=(P.L.mem t).1 q;have B:=P.L.nv q;have V:=gC (x:=x) (y0:=h) (P.L.mJ (by grind) (by grind)) g;have T:=i' (x:=x) (h:=h) (P.L.mJ (by grind) (by grind)) g;have J:¬o_ s U k x h-I<below (sl s U k) x h:=by
     have:C3 s U k x h=below (sl s U k) x h:=rfl;omega
    have H:o_ s U k x h-I<pB (sl s U k) x h:=by
     have:o_ s U k x h=pB (sl s U k) x h:=rfl;omega
    have D:height t.p x=h:=by
     grind
    have:=xM K f.1 B (by grind) f.2.2 D;have n:t.p.2=(x,h):=by
     grind
    exact(br t t.p.1 f.1 <| .inr (.inr (.inl ⟨o_ s U k x h-I,by omega,by omega,g,by omega,a9 rfl n⟩)))
   ·obtain⟨i,hi⟩:∃i,I=nL s U k x h+2+i:=⟨I-nL s U k x h-2,by omega⟩
    have l:o9 s U k x h+i<(sl s U (k+1)).length:=by omega
    have g:=cQ l;generalize j:(sl s U (k+1))[o9 s U k x h+i]=t at g;have q:t∈sl s U (k+1):=bP g;have f:=(P.R.mem t).1 q;have B:=P.R.nv q;have V:=gC (x:=x) (y0:=h) (P.R.mJ (by grind) (by grind)) g;have T:=i' (x:=x) (h:=h) (P.R.mJ (by grind) (by grind)) g;have J:¬o9 s U k x h+i<below (sl s U (k+1)) x h:=by
     have:o9 s U k x h=below (sl s U (k+1)) x h:=rfl;omega
    have H:o9 s U k x h+i<pB (sl s U (k+1)) x h:=by
     have:De s U k x h=pB (sl s U (k+1)) x h:=rfl;omega
    have D:height t.p x=h:=by
     grind
    have:=xM K f.1 B f.2.1 (by grind) D;have n:t.p.1=(x,h):=by
     grind
    exact(br t t.p.2 f.1 <| .inr (.inr (.inr ⟨o9 s U k x h+i,by omega,by omega,g,by omega,a9 n rfl⟩)))
variable{s:Both}{U:Nat}
theorem F7(a:Rat):a/0=0:=by grind
noncomputable def cls(d:At):Nat:=if d.1=0 then (if 0<d.2 then 0 else 2) else (if d.1<0 then 1 else 3)
def d5(d e:At):Prop:=cls d<cls e\/(cls d=cls e/\d.2/d.1<e.2/e.1)
theorem Dt{d:At}(h:d.1=0)(k:0<d.2):cls d=0:=by unfold cls;simp_all
theorem wc{d:At}(h:d.1=0)(k:¬0<d.2):cls d=2:=by unfold cls;simp_all
theorem v_{d:At}(h:d.1<0):cls d=1:=by unfold cls;grind
theorem sT{d:At}(h:0<d.1):cls d=3:=by unfold cls;grind
theorem n8(a:u.1<x)(z:Rat):height (u,(x,h)) z=h+(u.2-h)/(u.1-x)*(z-x):=by
 unfold height;grind
theorem n9(a:x<u.1)(z:Rat):height ((x,h),u) z=h+(u.2-h)/(u.1-x)*(z-x):=by
 unfold height;grind
theorem ze{l:List α}(h:l.Nodup){a:α}(c:l[i]?=some a)(b:l[j]?=some a):i=j:=by
 rcases kz i j with o | o | o
 ·exact absurd rfl (gn h c b o)
 ·exact o
 ·exact absurd rfl (gn h b c o)
theorem bj.kind(P:bj s U k x)(R:jt s U k x h I t u):
  (cls (aP (x,h) u)=0/\I=0/\u.1=x)\/(cls (aP (x,h) u)=2/\I=nL s U k x h+1/\u.1=x)\/
  (cls (aP (x,h) u)=1/\u.1<x/\∃i,i<o_ s U k x h/\C3 s U k x h<=i/\(sl s U k)[i]?=some t/\I=o_ s U k x h-i/\t.p=(u,(x,h)))\/
  (cls (aP (x,h) u)=3/\x<u.1/\∃i,i<De s U k x h/\o9 s U k x h<=i/\(sl s U (k+1))[i]?=some t/\I=nL s U k x h+2+(i-o9 s U k x h)/\t.p=((x,h),u)):=by
 obtain⟨g,R⟩:=R;have f:=cn.1 (bq (aM.1 g).1);unfold aP;rcases R with⟨rfl,e,j⟩ | ⟨rfl,e,j⟩ | ⟨i,d,c,b,rfl,e⟩ | ⟨i,d,c,b,rfl,e⟩
 ·left;rw[e]at f;grind[Dt]
 ·right;left;rw[e]at f;grind[wc]
 ·right;right;left;have a:=P.L.nv (bP b);rw[e]at a;have a:u.1<x:=a;exact(cO (v_ (by dsimp only;grind)) a ⟨i,c,d,b,rfl,e⟩)
 ·right;right;right;have a:=P.R.nv (bP b);rw[e]at a;have a:x<u.1:=a;exact(cO (sT (by dsimp only;grind)) a ⟨i,c,d,b,rfl,e⟩)
theorem bj.order(P:bj s U k x){p1 p:Nat}{E D:Sided}{b a:At}(I:jt s U k x h p1 E b)(R2:jt s U k x h p D a):
  p1<p↔d5 (aP (x,h) b) (aP (x,h) a):=by
 have M:=xy s U k x h;have L:=xx s U k x h;have F:nL s U k x h=o_ s U k x h-C3 s U k x h:=rfl;have K:=P.L.lt;have J:=P.R.lt;unfold d5;rcases P.kind I with⟨c1,r,n⟩ | ⟨c1,r,n⟩ | ⟨c1,n,i,H,A,l,r,v⟩ | ⟨c1,n,i,H,A,l,r,v⟩ <;>
  rcases P.kind R2 with⟨c2,q,m⟩ | ⟨c2,q,m⟩ | ⟨c2,m,g,G,y,j,q,t⟩ | ⟨c2,m,g,G,y,j,q,t⟩
 ·
  rw[c1,c2];have f:(aP (x,h) b).1=0:=by unfold aP;dsimp only;grind
  have e:(aP (x,h) a).1=0:=by unfold aP;dsimp only;grind
  rw[f,e,F7,F7]
  simp_all
 ·simp_all
 ·grind
 ·grind
 ·simp_all
 ·rw[c1,c2];have f:(aP (x,h) b).1=0:=by unfold aP;dsimp only;grind
  have e:(aP (x,h) a).1=0:=by unfold aP;dsimp only;grind
  rw[f,e,F7,F7]
  simp_all
 ·grind
 ·grind
 ·simp_all
 ·grind
 ·
  rw[c1,c2];have w:p1<p↔g<i:=by omega
  rw[w];have C:=n8 (u:=b) (x:=x) (h:=h) n ((P.x0+x)/2);have B:=n8 (u:=a) (x:=x) (h:=h) m ((P.x0+x)/2);rw[<-v]at C;rw[<-t]at B;have f:(aP (x,h) b).2/(aP (x,h) b).1=(b.2-h)/(b.1-x):=rfl;have e:(aP (x,h) a).2/(aP (x,h) a).1=(a.2-h)/(a.1-x):=rfl;rw[f,e];generalize (b.2-h)/(b.1-x)=d at *;generalize (a.2-h)/(a.1-x)=c at *;rcases kz i g with o | o | o
  ·have:=gn P.L.pw l j o;have:=λz:d < c=>ff (show 0 < c - d by grind) (show 0<x-(P.x0+x)/2 by grind);grind
  ·simp_all
  ·have:=gn P.L.pw j l o;constructor
   ·intro _;refine .inr ⟨rfl,c4.1 λz=>?_⟩;have:=dA (show 0<=d - c by grind) (show 0<=x-(P.x0+x)/2 by grind);grind
   ·intro _;exact o
 ·grind
 ·simp_all
 ·grind
 ·grind
 ·
  rw[c1,c2];have w:p1<p↔i<g:=by omega
  rw[w];have C:=n9 (u:=b) (x:=x) (h:=h) n ((x+P.x1)/2);have B:=n9 (u:=a) (x:=x) (h:=h) m ((x+P.x1)/2);rw[<-v]at C;rw[<-t]at B;have f:(aP (x,h) b).2/(aP (x,h) b).1=(b.2-h)/(b.1-x):=rfl;have e:(aP (x,h) a).2/(aP (x,h) a).1=(a.2-h)/(a.1-x):=rfl;rw[f,e];generalize (b.2-h)/(b.1-x)=d at *;generalize (a.2-h)/(a.1-x)=c at *;rcases kz i g with o | o | o
  ·have:=gn P.R.pw l j o;constructor
   ·intro _;refine .inr ⟨rfl,c4.1 λz=>?_⟩;have:=dA (show 0<=d - c by grind) (show 0<=(x+P.x1)/2-x by grind);grind
   ·intro _;exact o
  ·simp_all
  ·have:=gn P.R.pw j l o;have:=λz:d < c=>ff (show 0 < c - d by grind) (show 0<(x+P.x1)/2-x by grind);grind
def bK(s:Both)(U:Nat)(Y:Bool)(d:At×At):Prop:=∃t,t∈sided s U/\t.left≠t.right/\((t.left=Y/\d=(t.p.1,t.p.2))\/(t.left≠Y/\d=(t.p.2,t.p.1)))
def pz(s:Both)(U:Nat)(Y:Bool)(d d':At×At):Prop:=bK s U Y d/\bK s U Y d'/\d'.1=d.2/\
 ((d5 (aP d.2 d'.2) (aP d.2 d.1)/\∀e,bK s U Y e->e.1=d.2->d5 (aP d.2 e.2) (aP d.2 d.1)->¬d5 (aP d.2 d'.2) (aP d.2 e.2))\/((∀e,bK s U Y e->e.1=d.2->¬d5 (aP d.2 e.2) (aP d.2 d.1))/\∀e,bK s U Y e->e.1=d.2->¬d5 (aP d.2 d'.2) (aP d.2 e.2)))
theorem vq{a b c:Bool}(h:a≠b)(k:a≠c):b=c:=by cases a <;> cases b <;> cases c <;> simp_all
theorem bK.out(D:bK s U Y d)(P:bj s U k d.1.1):d.1.2∈ew s U k d.1.1/\∃I t,jt s U k d.1.1 d.1.2 I t d.2/\ox (λi=>kF s U k d.1.1 d.1.2 i==Y) (nF s U k d.1.1 d.1.2) I/\e7 s U d (gF s U k d.1.1 d.1.2 I):=by
 refine aH D λt g b D=>?_;obtain⟨⟨x,h⟩,u⟩:=d;dsimp only at P ⊢;have r:=P.GZ (h:=h) g;rcases D with⟨hc,e⟩ | ⟨hc,e⟩
 ·refine cE (r.1 u (by simp_all)) λc f=>aA f λI R=>?_;have q:=P.OK c R;have a:=q.2.1 (by grind);refine(⟨c,aO I t R (cO q.1 ?_ ?_) a.2.2.1⟩)
  ·show(_==Y)=false;rw[a.1,<-hc];simpa using λz=>b z.symm
  ·show(_==Y)=true;rw[a.2.1,hc];simp
 ·have e':t.p=(u,(x,h)):=by
   simp_all
  refine cE (r.2 u e') λc f=>aA f λI R=>?_;have q:=P.OK c R;have a:=q.2.2 e';refine(⟨c,aO I t R (cO q.1 ?_ ?_) a.2.2.1⟩)
  ·show(_==Y)=false;rw[a.1];simpa using hc
  ·show(_==Y)=true;rw[a.2.1,vq b hc];simp
theorem bK.into(D:bK s U Y d)(P:bj s U k d.2.1):d.2.2∈ew s U k d.2.1/\∃I t,jt s U k d.2.1 d.2.2 I t d.1/\K9 (λi=>kF s U k d.2.1 d.2.2 i==Y) (nF s U k d.2.1 d.2.2) I/\e7 s U d (gF s U k d.2.1 d.2.2 (oU (nF s U k d.2.1 d.2.2) I)):=by
 refine aH D λt g b D=>?_;obtain⟨u,⟨x,h⟩⟩:=d;dsimp only at P ⊢;have r:=P.GZ (h:=h) g;rcases D with⟨hc,e⟩ | ⟨hc,e⟩
 ·have e':t.p=(u,(x,h)):=e.symm;refine cE (r.2 u e') λc f=>aA f λI R=>?_;have q:=P.OK c R;have a:=q.2.2 e';refine(⟨c,aO I t R (cO q.1 ?_ ?_) a.2.2.2⟩)
  ·show(_==Y)=true;rw[a.1,hc];simp
  ·show(_==Y)=false;rw[a.2.1,<-hc];simpa using λz=>b z.symm
 ·have e':t.p=((x,h),u):=by
   simp_all
  refine cE (r.1 u e') λc f=>aA f λI R=>?_;have q:=P.OK c R;have a:=q.2.1 e';refine(⟨c,aO I t R (cO q.1 ?_ ?_) a.2.2.2⟩)
  ·show(_==Y)=true;rw[a.1,vq b hc];simp
  ·show(_==Y)=false;rw[a.2.1];simpa using hc
theorem bK.places(D:bK s U Y d):(∃k,Nonempty (bj s U k d.1.1))/\(∃k,Nonempty (bj s U k d.2.1))/\(∃e,e∈E s/\Cut (E s) e d.1)/\(∃e,e∈E s/\Cut (E s) e d.2)/\d.1≠d.2:=by
 refine aH D λt a i D=>?_;have h:=bq (aM.1 a).1;have c:=gq (aM.1 a).1;have g:∃k,Nonempty (bj s U k t.p.1.1):=by
  obtain⟨k,b⟩:=eJ (mC.2 (ab t a <| .inl rfl));exact⟨k,placeAt b⟩
 have f:∃k,Nonempty (bj s U k t.p.2.1):=by
  obtain⟨k,b⟩:=eJ (mC.2 (ab t a <| .inr rfl));exact⟨k,placeAt b⟩
 rcases D with⟨_,rfl⟩ | ⟨_,rfl⟩
 ·exact⟨g,f,c.1,c.2,bR h⟩
 ·exact⟨f,g,c.2,c.1,λe=>bR h e.symm⟩
theorem Hy(P:bj s U k x)(g:h∈ew s U k x)(j:∃e,e∈E s/\Cut (E s) e (x,h))(m:ox (λi=>kF s U k x h i==Y) (nF s U k x h) I):
  ∃t u,jt s U k x h I t u/\bK s U Y ((x,h),u):=by
 refine fb m λn d c=>?_;have d:(kF s U k x h (oU (nF s U k x h) I)==Y)=false:=d;have c:(kF s U k x h I==Y)=true:=c;have c:kF s U k x h I=Y:=by simpa using c
 have d:kF s U k x h (oU (nF s U k x h) I)≠Y:=by simpa using d
 refine aN (P.MK g j n (by rw[c];exact d)) λt u R=>?_;have q:=P.OK g R;refine(br t u R <| ab t R.1 ?_);have l:t.p=((x,h),u)\/t.p=(u,(x,h)):=by
  rcases R.2 with⟨_,e,_⟩ | ⟨_,e,_⟩ | ⟨_,_,_,_,_,e⟩ | ⟨_,_,_,_,_,e⟩
  ·exact .inl e
  ·exact .inr e
  ·exact .inr e
  ·exact .inl e
 rcases l with e | e
 ·have f:=q.2.1 e;have a:t.left=Y:=by rw[<-f.2.1];exact c
  have b:t.right≠Y:=by rw[<-f.1];exact d
  refine⟨by rw[a];exact λz=>b z.symm,.inl ⟨a,by rw[e]⟩⟩
 ·have f:=q.2.2 e;have a:t.right=Y:=by rw[<-f.2.1];exact c
  have b:t.left≠Y:=by rw[<-f.1];exact d
  refine⟨by rw[a];exact b,.inr ⟨b,by rw[e]⟩⟩
theorem D9(P:bj s U k x){t':Sided}{d:At}(R:jt s U k x h I t u)(f:jt s U k x h I t' d)(J:h∈ew s U k x)(H:∃e,e∈E s/\Cut (E s) e (x,h)):u=d:=by
 have G:=xy s U k x h;have F:=xx s U k x h;have m:nL s U k x h=o_ s U k x h-C3 s U k x h:=rfl;obtain⟨b,R⟩:=R;obtain⟨a,f⟩:=f;have same:∀{t t':Sided},t∈sided s U->t'∈sided s U->t.p.1.1=x->t.p.2.1=x->t'.p.1.1=x->t'.p.2.1=x->(t.p.1.2=t'.p.1.2\/t.p.2.2=t'.p.2.2)->t.p=t'.p:=by
  intro t t' b a B A z w hc;have D:=mh b B A;have C:=mh a z w;have n:∃y,t.p.1.2<y/\y<t.p.2.2/\t'.p.1.2<y/\y<t'.p.2.2:=by
   rcases hc with c | c
   ·by_cases o:t.p.2.2<=t'.p.2.2
    ·exact⟨(t.p.1.2+t.p.2.2)/2,by grind,by grind,by grind,by grind⟩
    ·exact⟨(t.p.1.2+t'.p.2.2)/2,by grind,by grind,by grind,by grind⟩
   ·by_cases o:t.p.1.2<=t'.p.1.2
    ·exact⟨(t'.p.1.2+t.p.2.2)/2,by grind,by grind,by grind,by grind⟩
    ·exact⟨(t.p.1.2+t.p.2.2)/2,by grind,by grind,by grind,by grind⟩
  obtain⟨y,l,j,i,g⟩:=n;obtain⟨v,c1⟩:=fR l j;obtain⟨r,d1⟩:=fR i g;have q:aI t.p.1 t.p.2 ((y-t.p.1.2)/(t.p.2.2-t.p.1.2))=(x,y):=by
   have:(y-t.p.1.2)/(t.p.2.2-t.p.1.2)*(t.p.2.2-t.p.1.2)=y-t.p.1.2:=by grind
   unfold aI;grind
  have p:aI t'.p.1 t'.p.2 ((y-t'.p.1.2)/(t'.p.2.2-t'.p.1.2))=(x,y):=by
   have:(y-t'.p.1.2)/(t'.p.2.2-t'.p.1.2)*(t'.p.2.2-t'.p.1.2)=y-t'.p.1.2:=by grind
   unfold aI;grind
  have:=mq mI (aM.1 b).1 (aM.1 a).1 v c1 r d1 (q.trans p.symm);exact a9 this.1 this.2
 grind
theorem rJ(F:d.2=(x,h))(P:bj s U k x)(M:h∈ew s U k x)(J:∃e,e∈E s/\Cut (E s) e (x,h)){t':Sided}(z:jt s U k x h i t d.1)(L:K9 (λi=>kF s U k x h i==Y) (nF s U k x h) i)(y:jt s U k x h j t' d'.2)(B:ox (λi=>kF s U k x h i==Y) (nF s U k x h) j)(D:bK s U Y d)(S:bK s U Y d')(e:d'.1=d.2):
  pz s U Y d d'↔sd (λi=>kF s U k x h i==Y) (nF s U k x h) i j:=by
 have C:=P.order y z;have dt:∀m,ox (λi=>kF s U k x h i==Y) (nF s U k x h) m->∃u t,bK s U Y ((x,h),u)/\jt s U k x h m t u:=by
  intro m f;refine bI (Hy P M J f) λt u R D=>?_;exact(br u t D R)
 have c:∀g,bK s U Y g->g.1=(x,h)->∃m t,ox (λi=>kF s U k x h i==Y) (nF s U k x h) m/\jt s U k x h m t g.2:=by
  intro g G l;have O:g.1.1=x:=by rw[l]
  have N:g.1.2=h:=by rw[l]
  subst O;subst N;refine cE (G.out P) λ_ H=>aF H λm t R K _=>?_;exact(br m t K R)
 unfold pz sd;rw[F];constructor
 ·rintro⟨_,_,_,A⟩;refine⟨B,?_⟩;rcases A with⟨p,n⟩ | ⟨p,n⟩
  ·refine .inl ⟨C.2 p,λm v I f=>?_⟩;refine bI (dt m f) λu q G R=>?_;exact n _ G rfl ((P.order R z).1 I) ((P.order y R).1 v)
  ·have r:∀m,m<i->¬ox (λi=>kF s U k x h i==Y) (nF s U k x h) m:=by
    intro m v f;refine bI (dt m f) λu q G R=>?_;exact p _ G rfl ((P.order R z).1 v)
   refine .inr (cO ?_ r <| λm v f=>?_)
   ·rcases kz i j with o | o | o
    ·exact o
    ·subst o;have a:(kF s U k x h i==Y)=false:=L.2.2;have b:(kF s U k x h i==Y)=true:=B.2.2;rw[a]at b;cases b
    ·exact absurd B (r j o)
   ·refine bI (dt m f) λu q G R=>?_;exact n _ G rfl ((P.order y R).1 v)
 ·rintro⟨_,A⟩;refine(oX D S (by rw[e,F]) ?_);rcases A with⟨p,n⟩ | ⟨T,p,n⟩
  ·refine .inl ⟨C.mp p,λg G l w Q=>?_⟩;refine bI (c g G l) λm q f R=>?_;exact n m ((P.order y R).2 Q) ((P.order R z).2 w) f
  ·refine .inr ⟨λg G l w=>?_,λg G l w=>?_⟩
   ·refine bI (c g G l) λm q f R=>?_;exact p m ((P.order R z).2 w) f
   ·refine bI (c g G l) λm q f R=>?_;exact n m ((P.order y R).2 w) f
variable{s:Both}{U:Nat}
theorem gm{t':Sided}(h:t∈sided s U)(a:t'∈sided s U)(e:t.p=t'.p):t=t':=by
 rw[(aM.1 h).2,(aM.1 a).2,e]
theorem Ff{u:Sided}(j:t∈sided s U)(i:u∈sided s U)(g:t.p.1.1<x)(f:x<t.p.2.1)(h:u.p.1.1<u.p.2.1)(r:u.p.1.1<=x)(q:x<=u.p.2.1)(c:height u.p x=height t.p x):u=t:=by
 have b:=aM.1 j;have a:=aM.1 i;obtain⟨m,l⟩:=fR g f;have k:=gr (p:=t.p) (by grind) x;obtain⟨⟨w,e,o⟩,⟨v,d,n⟩⟩:=gq a.1
 by_cases c1:u.p.1.1=x
 ·have:u.p.1=(x,height t.p x):=a9 c1 (by rw[<-c,<-c1,n' h]);exact(iD mI b.1 e m l (by rw[<-k,<-this];exact o)).elim
 ·by_cases c2:u.p.2.1=x
  ·have:u.p.2=(x,height t.p x):=a9 c2 (by rw[<-c,<-c2,lZ h]);exact(iD mI b.1 d m l (by rw[<-k,<-this];exact n)).elim
  ·have:=kN a.1 b.1 (z:=x) (by grind) (by grind) g f c;exact gm i j this
theorem bj.pass(P:bj s U k x){l:Nat}(d:(sl s U k)[i]?=some t)(f:(sl s U (k+1))[l]?=some t):
  dc (JJ s U) (iB s U k (i+1)) (iB s U (k+1) (l+1))/\dc (JJ s U) (iB s U k i) (iB s U (k+1) l):=by
 have Q:=P.hk;have O:=P.L.lt;have N:=P.R.lt;have m:=(P.L.mem t).1 (bP d);have M:=(P.R.mem t).1 (bP f);have H:t.p.1.1<x:=by grind
 have G:x<t.p.2.1:=by grind
 have A:height t.p x∈ew s U k x:=dB.2 (.inl (ab t (bP d) rfl));generalize K:height t.p x=h at *;have only:∀{a:List Sided} {q p:Rat},cG s U q p a->q<=x->x<=p->∀{i:Nat},a[i]?=some t->below a x h=i/\pB a x h=i+1:=by
  intro a q p S C B i d;have g:=S.mJ C B;have R:=gC (x:=x) (y0:=h) g d;have L:=i' (x:=x) (h:=h) g d;have c2:i<pB a x h:=L.2 (by grind);have c1:¬i<below a x h:=λz=>by simp_all
  have I:∀j u,a[j]?=some u->height u.p x=h->j=i:=by
   intro j u r J;have mu:=(S.mem u).1 (bP r);have:=Ff m.1 mu.1 H G (S.nv (bP r)) (by grind) (by grind) (by rw[J,K]);subst this;exact ze S.nodup r d
  constructor
  ·refine Nat.le_antisymm (by omega) (qH λz=>?_);have e:below a x h<a.length:=by
    grind
   have n:=cQ e;have d1:=gC (x:=x) (y0:=h) g n;have d2:=i' (x:=x) (h:=h) g n;grind
  ·refine Nat.le_antisymm (qH λz=>?_) (by omega);have e:i+1<a.length:=by
    grind[x8]
   have n:=cQ e;have d2:=(i' (x:=x) (h:=h) g n).1 z;have:=gn g d n (ky _);grind
 have oL:=only P.L (by grind) (by grind) d;have oR:=only P.R (by grind) (by grind) f;have w:=iH (by omega) d;have v:=iH (by omega) f;constructor
 ·obtain⟨y,o,F,E,D,c,b⟩:=P.rT A;have c:below (sl s U k) x y=i+1:=c.trans oL.2;have b:below (sl s U (k+1)) x y=l+1:=b.trans oR.2;exact tK (ke.2 (.inr (fh k x y P.hx o (by rw[c,b,w.2,v.2]) (by rw[c]) <| by rw[b])))
 ·obtain⟨y,o,F,E,D,c,b⟩:=P.rS A;have c:below (sl s U k) x y=i:=c.trans oL.1;have b:below (sl s U (k+1)) x y=l:=b.trans oR.1;exact tK (ke.2 (.inr (fh k x y P.hx o (by rw[c,b,w.1,v.1]) (by rw[c]) <| by rw[b])))
theorem Qq(b:(Xs s U)[i]?=some x)(a:(Xs s U)[j]?=some y)(h:i<j):x<y:=gn x4 b a h
theorem ij{t:Sided}:∀m k i c,k+m<=nX s U->(sl s U k)[i]?=some t->(sl s U (k+m))[c]?=some t->
  dc (JJ s U) (iB s U k (i+1)) (iB s U (k+m) (c+1))/\dc (JJ s U) (iB s U k i) (iB s U (k+m) c)
 | 0,k,i,c,C,h,e=>by
  refine aF (o3 (s:=s) (U:=U) (k:=k) (by omega)) λx y S _ _=>?_;have:=ze S.nodup h e;subst this;exact⟨.refl _,.refl _⟩
 | m+1,k,i,c,C,h,e=>by
  refine aF (o3 (s:=s) (U:=U) (k:=k) (by omega)) λx y S F A=>?_;refine aF (o3 (s:=s) (U:=U) (k:=k+(m+1)) (by omega)) λj D n v g=>?_;refine aF (o3 (s:=s) (U:=U) (k:=k+m) (by omega)) λE o l u f=>?_;have mt:=(S.mem t).1 (bP h);have p:=(n.mem t).1 (bP e);have lt:=S.lt;have lt':=n.lt;have q:=l.lt;have G:o=j:=by
   grind
  have B:t∈sl s U (k+m):=by
   refine(l.mem t).2 (cO mt.1 ?_ <| by grind);rcases qS m with z | z
   ·subst z;cases k with
    | zero=>rw[jE]at h;simp at h
    | succ k=>
     simp_all
   ·have b:=f (k+(m-1)) (by omega);rcases qS k with w | w
    ·subst w;rw[jE]at h;simp at h
    ·have a:=A (k-1) (by omega);have:=Qq a b (by omega);grind
  obtain⟨r,d⟩:=eJ B;obtain⟨c1,c2⟩:=ij m k i r (by omega) h d;obtain⟨P⟩:=placeAt (s:=s) (U:=U) (k:=k+m) (x:=j) (g (k+m) rfl);obtain⟨d1,d2⟩:=P.pass d e;exact⟨c1.trans d1,c2.trans d2⟩
theorem NX(c:(Xs s U)[i]?=some x)(b:(Xs s U)[j]?=some x):i=j:=ze (vf (λa=>ig) x4) c b
theorem lX{r:Nat}(h:e7 s U d φ)(g:e7 s U d r):dc (JJ s U) φ r:=by
 refine ae h λt z h=>?_;refine ae g λt' n g=>?_;have hs:=bq (aM.1 z).1;have T:=bq (aM.1 n).1;have B:∀{d:At×At},d=(t.p.1,t.p.2)->d=(t'.p.1,t'.p.2)->t=t':=fun{d} a b=>gm z n (by grind);have C:∀{d:At×At},d=(t.p.2,t.p.1)->d=(t'.p.2,t'.p.1)->t=t':=fun{d} a b=>gm z n (by grind);have l:∀{d:At×At},d=(t.p.1,t.p.2)->d=(t'.p.2,t'.p.1)->False:=fun{d} a b=>by
  grind[Prod.mk.inj,bA]
 have j:∀{d:At×At},d=(t.p.2,t.p.1)->d=(t'.p.1,t'.p.2)->False:=fun{d} a b=>by
  simp_all
 have v:∀{k i:Nat} {t:Sided},k<=nX s U->(sl s U k)[i]?=some t->t.p.1.1<t.p.2.1:=by
  intro k i t A q;refine aF (o3 (s:=s) (U:=U) A) λx y S _ _=>?_;exact S.nv (bP q)
 rcases h with⟨k,i,A,q,h⟩ | ⟨k,x,y,J,H,K,y1,y2,hy,h⟩ <;> rcases g with⟨w,D,p,f,g⟩ | ⟨w,N,I,E,G,X,M,L,R,g⟩
 ·rcases h with⟨e,rfl⟩ | ⟨e,rfl⟩ <;> rcases g with⟨c,rfl⟩ | ⟨c,rfl⟩
  ·have:=B e c;subst this;rcases Nat.le_total k w with o | o
   ·obtain⟨m,rfl⟩:=rh o;exact(ij m k i D p q f).1
   ·obtain⟨m,rfl⟩:=rh o;exact(ij m w D i A f q).1.symm
  ·exact(l e c).elim
  ·exact(j e c).elim
  ·have:=C e c;subst this;rcases Nat.le_total k w with o | o
   ·obtain⟨m,rfl⟩:=rh o;exact(ij m k i D p q f).2
   ·obtain⟨m,rfl⟩:=rh o;exact(ij m w D i A f q).2.symm
 ·have Q:=v A q;grind
 ·have Q:=v p f;grind
 ·have:t=t':=by
   rcases h with⟨e,_⟩ | ⟨e,_⟩ <;> rcases g with⟨c,_⟩ | ⟨c,_⟩
   ·exact B e c
   ·exact(l e c).elim
   ·exact(j e c).elim
   ·exact C e c
  subst this;have V:x=N:=H.symm.trans G;subst V;have W:=NX J E;subst W;obtain⟨P⟩:=placeAt (s:=s) (U:=U) J;have Z:below (sl s U k) x y=below (sl s U k) x I:=by
   refine r_ λu F=>?_;have m:height u.p x∈ew s U k x:=dB.2 (.inl (ab u F rfl));have O:=λa b=>P.oF m z H K a b;grind
  have Y:below (sl s U (k+1)) x y=below (sl s U (k+1)) x I:=by
   refine r_ λu F=>?_;have m:height u.p x∈ew s U k x:=dB.2 (.inr (.inl (ab u F rfl)));have O:=λa b=>P.oF m z H K a b;grind
  rcases h with⟨e,rfl⟩ | ⟨e,rfl⟩ <;> rcases g with⟨c,rfl⟩ | ⟨c,rfl⟩
  ·rw[Z];exact .refl _
  ·exact(l e c).elim
  ·exact(j e c).elim
  ·rw[Y];exact .refl _
theorem vw(N:pz s U Y d d'){a:Nat}(h:e7 s U d φ)(v:e7 s U d' a):dc (JJ s U) φ a:=by
 obtain⟨D,q,e,_⟩:=id N;obtain⟨_,⟨k,⟨P⟩⟩,_,o,_⟩:=D.places;obtain⟨m,i,t,p,l,f⟩:=D.into P;obtain⟨d1,d2⟩:=d;obtain⟨g,n⟩:=d';dsimp only at e P m p l f o;subst e;obtain⟨_,j,t',w,u,b⟩:=q.out P;have r:=(rJ (d:=(d1,g)) (d':=(g,n)) rfl P m o p l w u D q rfl).1 N;have c:=Fj (P.GR m Y) l r;exact(lX h f).trans (c.symm.trans (lX b v))
theorem nR(D:bK s U Y d):∃d',pz s U Y d d':=by
 obtain⟨_,⟨k,⟨P⟩⟩,_,e,_⟩:=D.places;obtain⟨b,i,t,h,c,f⟩:=D.into P;obtain⟨j,a⟩:=Kg (P.GR b Y) c;refine bI (Hy P b e a.1) λt' u g l=>?_;exact⟨((d.2.1,d.2.2),u),(rJ (d:=d) (d':=((d.2.1,d.2.2),u)) rfl P b e h c g a.1 D l rfl).2 a⟩
theorem xo{e:At×At}(N:pz s U Y d d')(w:pz s U Y e d'):d=e:=by
 obtain⟨D,o,h,_⟩:=id N;obtain⟨x,_,r,_⟩:=id w;obtain⟨_,⟨k,⟨P⟩⟩,_,m,_⟩:=D.places;obtain⟨d1,d2⟩:=d;obtain⟨z,C⟩:=e;obtain⟨a,f⟩:=d';dsimp only at h r P m;subst h;subst r;refine cE (D.into P) λl b=>aF b λi t v q _=>?_;refine cE (x.into P) λ_ b=>aF b λB A g c _=>?_;refine cE (o.out P) λ_ b=>aF b λj t' u p _=>?_;have y:=(rJ (d:=(d1,a)) (d':=(a,f)) rfl P l m v q u p D o rfl).1 N;have n:=(rJ (d:=(z,a)) (d':=(a,f)) rfl P l m g c u p x o rfl).1 w;have:=HG (P.GR l Y) q c y n;subst this;have:=D9 P v g l m
 simp_all
theorem yH{b:Bool}{e:At×At}(D:bK s U Y d)(n:bK s U b e)(h:e.1=d.1):d5 (aP d.1 d.2) (aP d.1 e.2)\/d.2=e.2\/d5 (aP d.1 e.2) (aP d.1 d.2):=by
 obtain⟨⟨k,⟨P⟩⟩,_,g,_,_⟩:=D.places;obtain⟨d1,d2⟩:=d;obtain⟨u,r⟩:=e;dsimp only at h P g ⊢;subst h;refine cE (D.out P) λm c=>aF c λi t f q _=>?_;refine cE (n.out P) λ_ c=>aF c λj p a l _=>?_;rcases kz i j with o | o | o
 ·exact .inl ((P.order f a).1 o)
 ·subst o;exact .inr (.inl (D9 P f a m g))
 ·exact .inr (.inr ((P.order a f).1 o))
theorem jL(d:At):¬d5 d d:=by
 rintro(h | ⟨_,h⟩)
 ·simp_all
 simp_all
theorem CU{a:At×At}(N:pz s U Y d d')(b:pz s U Y d a):d'=a:=by
 obtain⟨D,g,h,n⟩:=N;obtain⟨_,c,f,e⟩:=b;grind[yH,Prod.ext]
theorem bK.rev(D:bK s U Y d):bK s U (!Y) (d.2,d.1):=by
 refine aH D λt b a D=>?_;refine(a8 t b a ?_);rcases D with⟨h,rfl⟩ | ⟨h,rfl⟩
 ·simp_all
 grind
theorem bK.MH(D:bK s U (!Y) d):bK s U Y (d.2,d.1):=by
 have:=D.rev
 simp_all
theorem xI(D:bK s U Y d):∃e,bK s U Y e/\e.2=d.1:=by
 obtain⟨e,_,E',h,_⟩:=nR D.rev;exact(ab (e.2,e.1) E'.MH h)
theorem xk(D:bK s U Y d):∃e,bK s U Y e/\e.1=d.2:=by
 obtain⟨e,_,E',h,_⟩:=nR D;exact(ab e E' h)
theorem vp(only:∀e,bK s U Y e->e.1=v->e=d){a b:At×At}(A:bK s U Y a)(B:bK s U Y b)(h:a.2=v)(g:b.2=v):a=b:=by
 obtain⟨e,N⟩:=nR A;obtain⟨f,c⟩:=nR B;have j:=only e N.2.1 (N.2.2.1.trans h);have i:=only f c.2.1 (c.2.2.1.trans g);rw[j]at N;rw[i]at c;exact xo N c
def rs{α:Type}(f:α->Rat):List α->Rat
 | []=>0
 | x::l=>f x+rs f l
section
variable{α β:Type}
theorem lU(f:α->Rat):∀l m:List α,rs f (l++m)=rs f l+rs f m
 | [],m=>by simp only[List.nil_append,rs];grind
 | x::l,m=>by simp only[iT,rs,lU f l m];grind
theorem eB{f g:α->Rat}:∀{l:List α},(∀x,x∈l->f x=g x)->rs f l=rs g l
 | [],_=>rfl
 | x::l,h=>by simp only[rs];rw[h x (by simp),eB λy a=>h y (by simp[a])]
theorem yn(f g:α->Rat):∀l:List α,rs (λx=>f x+g x) l=rs f l+rs g l
 | []=>by simp only[rs];grind
 | x::l=>by simp only[rs,yn f g l];grind
theorem CF(f g:α->Rat):∀l:List α,rs (λx=>f x-g x) l=rs f l-rs g l
 | []=>by simp only[rs];grind
 | x::l=>by simp only[rs,CF f g l];grind
theorem pE(c:Rat)(f:α->Rat):∀l:List α,rs (λx=>c*f x) l=c*rs f l
 | []=>by simp only[rs];grind
 | x::l=>by simp only[rs,pE c f l];grind
theorem tP:∀l:List α,rs (λ_=>0) l=0
 | []=>rfl
 | x::l=>by simp only[rs,tP l];grind
theorem GP{f:α->Rat}{l:List α}(h:∀x,x∈l->f x=0):rs f l=0:=(eB h).trans (tP l)
theorem tQ(f:α->β->Rat)(m:List β):∀l:List α,rs (λx=>rs (f x) m) l=rs (λy=>rs (λx=>f x y) l) m
 | []=>by simp only[rs];rw[tP]
 | x::l=>by
  simp only[rs];rw[tQ f m l,yn]
theorem oE{f:α->Rat}:∀{l:List α},(∀x,x∈l->0<=f x)->0<=rs f l
 | [],_=>ib
 | x::l,h=>by
  have:=h x (by simp);have:=oE (f:=f) (l:=l) λy a=>h y (by simp[a]);simp only[rs];grind
theorem GQ{f:α->Rat}:∀{l:List α},(∀x,x∈l->0<=f x)->(∃x,x∈l/\0<f x)->0<rs f l
 | [],_,⟨x,h,_⟩=>by simp at h
 | x::l,h,⟨y,a,b⟩=>by
  have d:=h x (by simp);have c:=oE (f:=f) (l:=l) λy a=>h y (by simp[a]);simp only[rs];rcases aY.1 a with rfl | a
  ·grind
  ·have:=GQ (f:=f) (l:=l) (λy a=>h y (by simp[a])) (ab y a b);grind
theorem sv[DecidableEq α]{f:α->Rat}{a:α}:∀{l:List α},l.Nodup->(∀x,x∈l->x≠a->f x=0)->rs f l=if a∈l then f a else 0
 | [],_,_=>by simp[rs]
 | x::l,g,h=>by
  have b:=cR.1 g;have c:=sv (f:=f) (a:=a) b.2 λy d=>h y (by simp[d]);simp only[rs];rw[c]
  by_cases e:x=a
  ·grind
  grind
end
variable{s:Both}{U:Nat}
instance:DecidableEq Sided:=λx y=>
 if h:x.p=y.p/\x.left=y.left/\x.right=y.right then .isTrue (by
  obtain⟨a,b,c⟩:=x;obtain⟨d,e,f⟩:=y;refine fb h λj i g=>?_;cases j;cases i;cases g;rfl)
 else .isFalse λe=>h (by rw[e];exact(cO rfl rfl rfl))
noncomputable def j8(d:At×At)(t:Sided):Rat:=if d=(t.p.1,t.p.2) then 1 else if d=(t.p.2,t.p.1) then -1 else 0
def w1(d:At×At)(a:List Sided)(j:Nat):Rat:=rs (j8 d) (a.take j)
def W(l:List (At×At))(a:List Sided)(j:Nat):Rat:=rs (λd=>w1 d a j) l
theorem Jd(l m:List (At×At))(a:List Sided)(j:Nat):W (l++m) a j=W l a j+W m a j:=lU _ _ _
theorem wq(l:List (At×At))(a:List Sided):W l a 0=0:=by
 unfold W w1;exact tP _
theorem pD{α:Type}:∀{l:List α} {i:Nat} {x:α},l[i]?=some x->l.take (i+1)=l.take i++[x]
 | [],i,x,h=>by simp at h
 | a::l,0,x,h=>by
  simp_all
 | a::l,i+1,x,h=>by
  have b:=pD (l:=l) (i:=i) (x:=x) h
  simp_all
def sg(l:List (At×At))(t:Sided):Rat:=rs (λd=>j8 d t) l
theorem sW{a:List Sided}(h:a[j]?=some t):W l a (j+1)=W l a j+sg l t:=by
 unfold W sg;rw[<-yn];refine eB λd _=>?_;unfold w1;rw[pD h,lU];simp only[rs];grind
theorem D3(g:t.p.1≠t.p.2)(f:l.Nodup):sg l t=(if (t.p.1,t.p.2)∈l then 1 else 0)-(if (t.p.2,t.p.1)∈l then 1 else 0):=by
 unfold sg;have e:∀d:At×At,j8 d t=(if d=(t.p.1,t.p.2) then 1 else 0)-(if d=(t.p.2,t.p.1) then 1 else 0):=by
  intro d;unfold j8
  by_cases b:d=(t.p.1,t.p.2)
  ·rw[ak b,ak b,ai (λh=>g (by simp_all))];grind
  ·rw[ai b,ai b];split <;> grind
 rw[eB λd _=>e d,CF,sv (a:=(t.p.1,t.p.2)) f (λx _ c=>ai c),sv (a:=(t.p.2,t.p.1)) f (λx _ c=>ai c)];simp
theorem uT{x y0:Rat}:∀{a:List Sided},a.Pairwise (λt u=>height t.p x<=height u.p x)->a.take (below a x y0)=a.filter λt=>decide (height t.p x<y0)
 | [],_=>rfl
 | u::a,e=>by
  have c:=dD.1 e;have d:=uT (x:=x) (y0:=y0) c.2;unfold below at d ⊢;rw[h9]
  by_cases k:height u.p x<y0
  ·simp_all
  ·rw[ai (by simpa using k)];have b:(a.filter λs=>decide (height s.p x<y0))=[]:=by
    refine uI.2 λv f=>?_;grind
   rw[b];rfl
def ku(s:Both)(U:Nat)(d:At×At)(t:Sided):Prop:=t∈sided s U/\(d=(t.p.1,t.p.2)\/d=(t.p.2,t.p.1))
theorem bK.isDir(D:bK s U Y d):∃t,ku s U d t:=by
 refine aH D λt a _ D=>?_;rcases D with⟨_,e⟩ | ⟨_,e⟩
 ·exact(ab t a <| .inl e)
 ·exact(ab t a <| .inr e)
theorem i_{u:Sided}(D:ku s U d t)(b:u∈sided s U)(a:u≠t):j8 d u=0:=by
 obtain⟨c,D⟩:=D;have g:=bq (aM.1 c).1;have f:=bq (aM.1 b).1;unfold j8;rw[ai,ai]
 ·intro e;rcases D with e' | e'
  ·grind[Prod.mk.inj,bA]
  ·rw[e']at e;have:=cy e;exact a (gm b c (a9 this.2.symm this.1.symm))
 grind[Prod.mk.inj,gm,Prod.ext,bA]
theorem j7(D:ku s U d t):(d=(t.p.1,t.p.2)/\j8 d t=1)\/(d=(t.p.2,t.p.1)/\j8 d t=-1):=by
 obtain⟨a,D⟩:=D;have b:=bq (aM.1 a).1;unfold j8;grind
theorem cG.w1{x y:Rat}{a:List Sided}(S:cG s U x y a){d:At×At}{t:Sided}(D:ku s U d t){z y0:Rat}(e:x<=z)(c:z<=y):
  M.w1 d a (below a z y0)=if t∈a/\height t.p z<y0 then j8 d t else 0:=by
 unfold M.w1;rw[uT (S.mJ e c)];have f:(a.filter λt=>decide (height t.p z<y0)).Nodup:=ur jA S.nodup;rw[sv (a:=t) f]
 ·simp_all
 ·intro u g b;have:=(bh.1 g).1;exact i_ D ((S.mem u).1 this).1 b
def foot(x y:Rat)(c:At):Rat:=if c.1=x/\c.2<y then 1 else 0
theorem bj.Jw(P:bj s U k x)(l:y∉ew s U k x)(D:ku s U d t)(m:t.p.1.1=x->t.p.2.1=x->t.p.1.2<y->y<t.p.2.2->False):
  M.w1 d (sl s U k) (below (sl s U k) x y)-M.w1 d (sl s U (k+1)) (below (sl s U (k+1)) x y)=foot x y d.2-foot x y d.1:=by
 have E:=P.L.lt;have C:=P.R.lt;have a:=D.1;have F:=cn.1 (bq (aM.1 a).1);rw[P.L.w1 D (by grind) (by grind),P.R.w1 D (by grind) (by grind)];have q:=P.L.mem t;have j:=P.R.mem t;have nL:=P.L.Lz t a;have w:=P.R.Ke t a;have c:(if t∈sl s U k/\height t.p x<y then (1:Rat) else 0)-(if t∈sl s U (k+1)/\height t.p x<y then 1 else 0)=foot x y t.p.2-foot x y t.p.1:=by
  unfold foot
  by_cases H:t.p.1.1<x
  ·have v:¬(t.p.1.1=x/\t.p.1.2<y):=λz=>by grind
   rw[ai v]
   by_cases G:t.p.2.1<x
   ·grind
   ·have r:t∈sl s U k:=q.2 (cO a (by grind) <| by grind)
    by_cases b:t.p.2.1=x
    ·have h:t∉sl s U (k+1):=λz=>by grind
     have u:height t.p x=t.p.2.2:=by grind[lZ]
     simp_all
    ·have f:t∈sl s U (k+1):=j.2 (cO a (by grind) <| by grind);simp only[r,f,b,jM,jN,cx];grind
  ·have o:t∉sl s U k:=λz=>by grind
   by_cases g:t.p.1.1=x
   ·by_cases b:t.p.2.1=x
    ·have h:t∉sl s U (k+1):=λz=>by grind
     have B:t.p.1.2≠y:=λz=>l (dB.2 (.inr (.inr ⟨t,a,g,b,.inl z.symm⟩)));have A:t.p.2.2≠y:=λz=>l (dB.2 (.inr (.inr ⟨t,a,g,b,.inr z.symm⟩)));have m:=m g b;simp only[o,h,g,b,jM,jN,cx]
     by_cases c1:t.p.1.2<y <;> by_cases c2:t.p.2.2<y <;> simp[c1,c2] <;> grind
    ·have n:t.p.1.1<t.p.2.1:=by grind
     have f:t∈sl s U (k+1):=j.2 (cO a (by grind) <| by grind);have u:height t.p x=t.p.1.2:=by rw[<-g];exact n' n
     simp_all
   ·have h:t∉sl s U (k+1):=λz=>by grind
    have b:¬t.p.2.1=x:=by grind
    simp_all
 rcases j7 D with⟨e,i⟩ | ⟨e,i⟩
 ·rw[i,e];exact c
 ·rw[i,e];dsimp only;have:∀p:Prop,∀[Decidable p],(if p then (-1:Rat) else 0)=-(if p then 1 else 0):=λp _=>by split <;> grind
  rw[this,this];grind
def QA(l:List (At×At)):Prop:=∀g:At->Rat,rs (λd=>g d.2-g d.1) l=0
theorem bj.Jb(P:bj s U k x)(a:y∉ew s U k x)(B:QA l)(D:∀d,d∈l->∃t,ku s U d t/\(t.p.1.1=x->t.p.2.1=x->t.p.1.2<y->y<t.p.2.2->False)):
  W l (sl s U k) (below (sl s U k) x y)=W l (sl s U (k+1)) (below (sl s U (k+1)) x y):=by
 have h:W l (sl s U k) (below (sl s U k) x y)-W l (sl s U (k+1)) (below (sl s U (k+1)) x y)=0:=by
  unfold W;rw[<-CF,<-B (foot x y)];refine eB λd c=>?_;refine ae (D d c) λt D b=>?_;exact P.Jw a D b
 grind
def WL(s:Both)(U:Nat)(l:List (At×At)):List Rat:=(Sl s U).flatMap λa=>(List.range (a.length+1)).map λj=>W l a j
theorem pU(b:k<=nX s U)(c:j<=(sl s U k).length):(WL s U l)[iB s U k j]?=some (W l (sl s U k) j):=by
 unfold WL iB;have e:first s U k=(((Sl s U).take k).map λa=>((List.range (a.length+1)).map λj=>W l a j).length).sum:=by
  unfold first
  simp_all
 rw[e,om (f:=λa=>(List.range (a.length+1)).map λj=>W l a j) (Sl s U) k j (sl s U k) (u6 b) (by simp;omega)];grind
theorem jf(k:Nat)(x y:Rat):below (sl s U k) x y<=(sl s U k).length:=wh _ _ _
theorem EM(E:l.Nodup)(B:QA l)(q:∀d,d∈l->bK s U Y d):∀p,p∈JJ s U->(WL s U l)[p.1]?=(WL s U l)[p.2]?:=by
 rintro⟨u,v⟩ C;have a:∀{t:Sided} {d:At×At},t∈sided s U->d∈l->ku s U d t->t.left≠t.right:=by
  intro t d L m c;refine aH (q d m) λt' f n D=>?_;have:t=t':=by
   refine d8 λz=>?_;have h0:=i_ c f (λy=>z y.symm);have G:ku s U d t':=⟨f,by grind⟩
   grind[j7]
  rw[this];exact n
 rcases ke.1 C with⟨k,j,i,F,hc,rfl,rfl⟩ | ⟨k,x,y,w,r,hc,rfl,rfl⟩
 ·dsimp only;rw[pU i (by omega),pU i (by omega)];have o:=cQ F;rw[sW o];have h:=iH i o;rw[h.1,h.2]at hc;refine aF (o3 (s:=s) (U:=U) i) λx y S _ _=>?_;have g:=((S.mem _).1 (bP o)).1;have A:=bq (aM.1 g).1;have:sg l (sl s U k)[j]=0:=by
   rw[D3 (bR A) E,ai,ai]
   ·grind
   ·intro z;exact a g z ⟨g,.inr rfl⟩ hc.symm
   ·intro z;exact a g z ⟨g,.inl rfl⟩ hc.symm
  rw[this]
  congr 1
  grind
 ·dsimp only;obtain⟨P⟩:=placeAt (s:=s) (U:=U) w;have i:=P.hk;rw[pU (by omega) (jf _ _ _),pU (by omega) (jf _ _ _)];have e:y∉ew s U k x:=λz=>vP (iI _) r (fL.2 z);rw[P.Jb e B];intro d m;obtain⟨t,c⟩:=(q d m).isDir;refine(ab t c <| λK J I H=>?_);have b:=P.beside e c.1 K J I H;rw[b.1,b.2]at hc;exact a c.1 m c hc
variable{s:Both}{U:Nat}
structure Loop(s:Both)(U:Nat)(Y:Bool)(l:List (At×At))(φ:Nat):Prop where
 nodup:l.Nodup
 Qn:QA l
 dir:∀d,d∈l->bK s U Y d
 left:∀d,d∈l->∀ψ,e7 s U d ψ->dc (JJ s U) ψ φ
 here:∃d,d∈l/\e7 s U d φ
theorem oN{b:At}(h:bK s U Y (a,b))(k:bK s U Y (b,a)):False:=by
 refine aH h λt e g D=>?_;refine aH k λt' c d j=>?_;have i:=bq (aM.1 e).1;have f:=bq (aM.1 c).1;grind[Prod.mk.inj,bA,gm,Prod.ext]
theorem yh(b:k<=nX s U)(h:(sl s U k)[i]?=some t):t∈sided s U/\t.p.1≠t.p.2/\i<(sl s U k).length:=by
 refine aF (o3 (s:=s) (U:=U) b) λx y S _ _=>?_;have a:=((S.mem _).1 (bP h)).1;exact(cO a (bR (bq (aM.1 a).1)) <| (bF.1 h).1)
theorem GG(c:l.Nodup)(b:∀d,d∈l->bK s U Y d)(a:t.p.1≠t.p.2)(h:(t.p.1,t.p.2)∈l):sg l t=1:=by
 rw[D3 a c,ak h,ai λz=>oN (b _ h) (b _ z)];grind
theorem GH(c:l.Nodup)(b:∀d,d∈l->bK s U Y d)(a:t.p.1≠t.p.2)(h:(t.p.2,t.p.1)∈l):sg l t=-1:=by
 rw[D3 a c,ak h,ai λz=>oN (b _ h) (b _ z)];grind
theorem AL(b:l.Nodup)(a:t.p.1≠t.p.2)(h:(t.p.1,t.p.2)∉l)(c:(t.p.2,t.p.1)∉l):sg l t=0:=by
 rw[D3 a b,ai h,ai c];grind
theorem Loop.OB(L:Loop s U Y l φ):∃d t,d∈l/\ku s U d t/\t.p.1.1<t.p.2.1:=by
 refine d8 λw=>?_;refine ae L.here λn g _=>?_;obtain⟨c,k⟩:=(L.dir n g).isDir;have up:∀d t,d∈l->ku s U d t->t.p.1.1=t.p.2.1/\t.p.1.2<t.p.2.2:=by
  intro d t j h;have:=cn.1 (bq (aM.1 h.1).1);have:¬t.p.1.1<t.p.2.1:=λz=>w (aO d t j h z);grind
 have E:=up n c g k;have B:=L.Qn (foot c.p.1.1 ((c.p.1.2+c.p.2.2)/2));have i:=aM.1 k.1;have f:aI c.p.1 c.p.2 (1/2)=(c.p.1.1,(c.p.1.2+c.p.2.2)/2):=by
  unfold aI;grind
 rw[sv (a:=n) L.nodup,ak g]at B
 ·unfold foot at B;rcases k.2 with e | e
  ·rw[e]at B;grind
  ·rw[e]at B;grind
 ·intro d j m;obtain⟨t,h⟩:=(L.dir d j).isDir;have u:=up d t j h;have v:=aM.1 h.1;have o:t≠c:=by
   intro e;subst e;rcases h.2 with e | e <;> rcases k.2 with e' | e'
   ·exact m (e.trans e'.symm)
   ·exact oN (by rw[<-e];exact L.dir d j) (by rw[<-e'];exact L.dir n g)
   ·exact oN (by rw[<-e];exact L.dir d j) (by rw[<-e'];exact L.dir n g)
   ·exact m (e.trans e'.symm)
  have same:foot c.p.1.1 ((c.p.1.2+c.p.2.2)/2) t.p.1=foot c.p.1.1 ((c.p.1.2+c.p.2.2)/2) t.p.2:=by
   unfold foot
   by_cases y:t.p.1.1=c.p.1.1
   ·have r:t.p.2.1=c.p.1.1:=by grind
    obtain⟨⟨J,q,C⟩,⟨I,p,A⟩⟩:=gq v.1;have H:t.p.1.2≠(c.p.1.2+c.p.2.2)/2:=λz=>iD mI i.1 q (t:=1/2) (by grind) (by grind) (by rw[f,<-z,<-y];exact C);have G:t.p.2.2≠(c.p.1.2+c.p.2.2)/2:=λz=>iD mI i.1 p (t:=1/2) (by grind) (by grind) (by rw[f,<-z,<-r];exact A);have F:¬(t.p.1.2<(c.p.1.2+c.p.2.2)/2/\(c.p.1.2+c.p.2.2)/2<t.p.2.2):=by
     rintro⟨a,b⟩;obtain⟨D,c1⟩:=fR a b;have x:aI t.p.1 t.p.2 (((c.p.1.2+c.p.2.2)/2-t.p.1.2)/(t.p.2.2-t.p.1.2))=(c.p.1.1,(c.p.1.2+c.p.2.2)/2):=by
      have:((c.p.1.2+c.p.2.2)/2-t.p.1.2)/(t.p.2.2-t.p.1.2)*(t.p.2.2-t.p.1.2)=(c.p.1.2+c.p.2.2)/2-t.p.1.2:=by grind
      unfold aI;exact a9 (by dsimp only;grind) (by dsimp only;grind)
     have:=mq mI v.1 i.1 D c1 (t:=1/2) (by grind) (by grind) (x.trans f.symm);exact o (gm h.1 k.1 (a9 this.1 this.2))
    grind
   grind
  rcases h.2 with e | e
  ·grind
  grind
theorem EZ(a:t∈sided s U)(d:t.p.1.1<t.p.2.1):∃k i:Nat,k<=nX s U/\(sl s U k)[i]?=some t:=by
 obtain⟨k,c⟩:=eJ (mC.2 (ab t a <| .inl rfl));obtain⟨P⟩:=placeAt (s:=s) (U:=U) c;have b:t∈sl s U (k+1):=(P.R.mem t).2 (cO a ib <| by have:=P.R.Ke t a;grind);obtain⟨i,e⟩:=eJ b;have:=P.hk;grind
theorem Loop.values(L:Loop s U Y l φ):
  ((WL s U l)[φ]?=some 1/\(∀k j,k<=nX s U->j<=(sl s U k).length->W l (sl s U k) j=0\/W l (sl s U k) j=1)/\∃k j,k<=nX s U/\j<=(sl s U k).length/\W l (sl s U k) j=1)\/
  ((WL s U l)[φ]?=some 0/\(∀k j,k<=nX s U->j<=(sl s U k).length->W l (sl s U k) j=0\/W l (sl s U k) j=-1)):=by
 have v:∀{a b:Nat},dc (JJ s U) a b->(WL s U l)[a]?=(WL s U l)[b]?:=λh=>h.inv (f:=λi=>(WL s U l)[i]?) (EM L.nodup L.Qn L.dir);have o:∀k i t,k<=nX s U->(sl s U k)[i]?=some t->((t.p.1,t.p.2)∈l->(WL s U l)[φ]?=some (W l (sl s U k) (i+1))/\W l (sl s U k) (i+1)=W l (sl s U k) i+1)/\
   ((t.p.2,t.p.1)∈l->(WL s U l)[φ]?=some (W l (sl s U k) i)/\W l (sl s U k) (i+1)=W l (sl s U k) i-1):=by
  intro k i t m p;refine fb (yh m p) λD g y=>?_;constructor
  ·intro h;have c:=v (L.left _ h (iB s U k (i+1)) (ab t D <| .inl (aO k i m p <| .inl ⟨rfl,rfl⟩)));rw[pU m (by omega)]at c;refine⟨c.symm,?_⟩;rw[sW p,GG L.nodup L.dir g h]
  ·intro h;have c:=v (L.left _ h (iB s U k i) (ab t D <| .inl (aO k i m p <| .inr ⟨rfl,rfl⟩)));rw[pU m (by omega)]at c;refine⟨c.symm,?_⟩;rw[sW p,GH L.nodup L.dir g h];grind
 refine aF L.OB λd t N p J=>?_;refine bI (EZ p.1 J) λn K q A=>?_;have w:∃i,i<(sl s U n).length/\∃t,(sl s U n)[i]?=some t/\((t.p.1,t.p.2)∈l\/(t.p.2,t.p.1)∈l):=by
  refine(ab K ((bF.1 A).1) <| ab t A ?_);rcases p.2 with e | e
  ·simp_all
  simp_all
 obtain⟨x,⟨E,I,C,z⟩,low⟩:=least (λi=>i<(sl s U n).length/\∃t,(sl s U n)[i]?=some t/\((t.p.1,t.p.2)∈l\/(t.p.2,t.p.1)∈l)) w.choose w.choose_spec;have zero:∀i,i<=x->W l (sl s U n) i=0:=by
  intro i
  induction i with
  | zero=>intro _;exact wq _ _
  | succ i B=>
   intro M;have y:i<(sl s U n).length:=by omega
   have r:=cQ y;refine fb (yh q r) λ_ g _=>?_;rw[sW r,B (by omega),AL L.nodup g]
   ·grind
   ·grind
   grind
 have H:=zero x (a0 _);have tl:=o n x I q C;have u:∀c,(WL s U l)[φ]?=some c->∀k j,k<=nX s U->j<=(sl s U k).length->W l (sl s U k) j=0\/W l (sl s U k) j=c\/W l (sl s U k) j=c-1:=by
  intro c hc k j m
  induction j with
  | zero=>intro _;exact .inl (wq _ _)
  | succ j B=>
   intro F;have B:=B (by omega);have r:=cQ (show j<(sl s U k).length by omega);refine fb (yh m r) λ_ g _=>?_;have tl:=o k j _ m r
   by_cases c1:((sl s U k)[j].p.1,(sl s U k)[j].p.2)∈l
   ·simp_all
   ·by_cases c2:((sl s U k)[j].p.2,(sl s U k)[j].p.1)∈l
    ·simp_all
    ·rw[sW r,AL L.nodup g c1 c2];grind
 rcases z with h | h
 ·left;have t:=tl.1 h;have G:W l (sl s U n) (x+1)=1:=by rw[t.2,H];grind
  rw[G]at t;refine(cO t.1 (λk j m F=>?_) <| aO n (x+1) q (by omega) G);rcases u 1 t.1 k j m F with h | h | h
  ·exact .inl h
  ·exact .inr h
  ·left;grind
 ·right;grind
noncomputable def f6(l:List (At×At)):Rat:=rs (λd=>d.1.1*d.2.2-d.2.1*d.1.2) l
noncomputable def under(p:Piece)(a:Rat×Rat):Rat:=if p.1.1<=a.1/\a.2<=p.2.1 then 2*(a.2-a.1)*height p ((a.1+a.2)/2) else 0
theorem Of(G:Rat->Rat):∀l a,rs (λc:Rat×Rat=>G c.2-G c.1) ((a::l).zip ((a::l).drop 1))=G ((a::l).getLastD 0)-G a
 | [],a=>by simp[rs,List.getLastD];grind
 | b::l,a=>by
  have d:=Of G l b;have e:(a::b::l).zip ((a::b::l).drop 1)=(a,b)::(b::l).zip ((b::l).drop 1):=by simp
  have f:(a::b::l).getLastD 0=(b::l).getLastD 0:=by simp[List.getLastD]
  rw[e,f];simp only[rs];rw[d];grind
theorem Km:∀{l:List Rat},l.Pairwise (· < ·)->∀x,x∈l->x<=l.getLastD 0:=by
 intro l f
 induction l with
 | nil=>simp_all
 | cons b l d=>
  intro x hx;cases l with
  | nil=>
   simp_all
  | cons c l=>
   have a:=dD.1 f;have d:=d a.2;have e:(b::c::l).getLastD 0=(c::l).getLastD 0:=by simp[List.getLastD]
   rw[e];rcases aY.1 hx with hx | hx
   ·rw[hx];have:=a.1 c (by simp);have:=d c (by simp);grind
   ·exact d x hx
theorem EU(d:t∈sided s U)(n:t.p.1.1<t.p.2.1):rs (under t.p) ((Xs s U).zip ((Xs s U).drop 1))=(t.p.2.1-t.p.1.1)*(t.p.1.2+t.p.2.2):=by
 let G:Rat->Rat:=λz=>if z<=t.p.1.1 then 0 else if t.p.2.1<=z then (t.p.2.1-t.p.1.1)*(t.p.1.2+t.p.2.2) else (z-t.p.1.1)*(height t.p z+t.p.1.2)
 have e:∀z,z<=t.p.1.1->G z=0:=λz h=>ak h;have m:∀z,t.p.2.1<=z->G z=(t.p.2.1-t.p.1.1)*(t.p.1.2+t.p.2.2):=λz h=>by
  show(if z<=t.p.1.1 then _ else _)=_;grind
 have l:∀z,t.p.1.1<=z->z<=t.p.2.1->G z=(z-t.p.1.1)*(height t.p z+t.p.1.2):=λz h k=>by
  by_cases c1:z=t.p.1.1
  ·subst c1;rw[e _ ib];grind
  ·by_cases c2:z=t.p.2.1
   ·subst c2;rw[m _ ib,lZ n];grind
   ·show(if z<=t.p.1.1 then _ else _)=_;rw[ai (by grind),ai (by grind)]
 have step:∀b,b∈(Xs s U).zip ((Xs s U).drop 1)->under t.p b=G b.2-G b.1:=by
  rintro⟨x,y⟩ i;have S:=kH (s:=s) (U:=U) i;have lt:=S.lt;have p:=S.Lz t d;have o:=S.Ke t d;unfold under;dsimp only
  by_cases c:t.p.1.1<=x/\y<=t.p.2.1
  ·rw[ak c,l x (by grind) (by grind),l y (by grind) (by grind)];unfold height;grind
  ·rw[ai c]
   by_cases c1:y<=t.p.1.1
   ·rw[e y c1,e x (by grind)];grind
   grind
 rw[eB step];have g:t.p.1.1∈Xs s U:=mC.2 (ab t d <| .inl rfl);have j:t.p.2.1∈Xs s U:=mC.2 (ab t d <| .inr rfl);have f:=x4 (s:=s) (U:=U);generalize Xs s U=X at g j f;cases X with
 | nil=>simp at g
 | cons a X=>
  rw[Of G X a,m _ (Km f _ j),e a]
  ·grind
  ·rcases aY.1 g with h | h
   ·simp_all
   ·exact b0 ((dD.1 f).1 _ h)
def fm(s:Both)(U:Nat)(a:Rat×Rat):List Sided:=slab ((sided s U).filter λx=>decide (x.p.1.1<x.p.2.1)) a.1 a.2
theorem DD(B:QA l)(w:∀d,d∈l->∃t,ku s U d t):
  f6 l=- rs (λh=>2*(h.2-h.1)*rs (λt=>sg l t*height t.p ((h.1+h.2)/2)) (fm s U h)) ((Xs s U).zip ((Xs s U).drop 1)):=by
 have A:f6 l=rs (λd=>(d.1.1-d.2.1)*(d.1.2+d.2.2)) l:=by
  have b:=B λc=>c.1*c.2;unfold f6;have:rs (λd:At×At=>d.1.1*d.2.2-d.2.1*d.1.2) l=rs (λd:At×At=>(d.1.1-d.2.1)*(d.1.2+d.2.2)) l+rs (λd:At×At=>d.2.1*d.2.2-d.1.1*d.1.2) l:=by
   rw[<-yn];refine eB λd _=>by grind
  rw[this,b];grind
 rw[A];have k:∀d,d∈l->(d.1.1-d.2.1)*(d.1.2+d.2.2)=- rs (λh=>2*(h.2-h.1)*rs (λt=>j8 d t*height t.p ((h.1+h.2)/2)) (fm s U h)) ((Xs s U).zip ((Xs s U).drop 1)):=by
  intro d v;obtain⟨t,j⟩:=w d v;have C:=cn.1 (bq (aM.1 j.1).1);have inner:∀h,h∈(Xs s U).zip ((Xs s U).drop 1)->2*(h.2-h.1)*rs (λu=>j8 d u*height u.p ((h.1+h.2)/2)) (fm s U h)=j8 d t*under t.p h:=by
   rintro⟨x,y⟩ i;have S:cG s U x y (fm s U (x,y)):=kH i;rw[sv (a:=t) S.nodup]
   ·unfold under;dsimp only
    by_cases c:t.p.1.1<=x/\y<=t.p.2.1
    ·rw[ak ((S.mem t).2 ⟨j.1,c⟩),ak c];grind
    ·rw[ai (λz=>c ((S.mem t).1 z).2),ai c];grind
   ·intro u r n;rw[i_ j ((S.mem u).1 r).1 n];grind
  rw[eB inner,pE]
  by_cases q:t.p.1.1<t.p.2.1
  ·rw[EU j.1 q];rcases j7 j with⟨e,o⟩ | ⟨e,o⟩
   ·rw[o,e];dsimp only;grind
   ·rw[o,e];dsimp only;grind
  ·have p:t.p.1.1=t.p.2.1:=by grind
   have:rs (under t.p) ((Xs s U).zip ((Xs s U).drop 1))=0:=by
    refine GP ?_;rintro⟨x,y⟩ i;have lt:=(kH (s:=s) (U:=U) i).lt;unfold under;rw[ai];grind
   rw[this];rcases j.2 with e | e
   ·rw[e];dsimp only;rw[p];grind
   ·rw[e];dsimp only;rw[p];grind
 rw[eB k];have m:∀f,rs (λd=>- f d) l=- rs f l:=λf=>by
  have:=pE (-1) f l;rw[eB (g:=λx=>-1*f x) (λx _=>by grind),this];grind
 rw[m]
 congr 1
 rw[tQ];refine eB λh _=>?_;rw[pE]
 congr 1
 rw[tQ];refine eB λt _=>?_;unfold sg;have:=pE (height t.p ((h.1+h.2)/2)) (λd=>j8 d t) l;rw[eB (g:=λd=>height t.p ((h.1+h.2)/2)*j8 d t) (λd _=>by grind),this];grind
theorem NW{σ h:Sided->Rat}:∀a w low,a.Pairwise (λt u=>h t<h u)->(∀t,t∈a->low<=h t)->0<=w->(∀j,j<=a.length->0<=w+rs σ (a.take j))->w+rs σ a=0->
  rs (λt=>σ t*h t) a+w*low<=0/\((∃j,j<a.length/\0<w+rs σ (a.take j)/\(j=0->∀t,t∈a->low<h t))->rs (λt=>σ t*h t) a+w*low<0)
 | [],w,low,_,_,_,_,e=>by
  simp only[rs]at e ⊢;have:w=0:=by grind
  simp_all
 | t::a,w,low,o,p,hw,i,e=>by
  have c:=dD.1 o;have l:0<=w+σ t:=by
   have:=i 1 (by simp);simp only[qW,gS,rs]at this;grind
  have g:∀j,j<=a.length->0<=(w+σ t)+rs σ (a.take j):=by
   intro j d;have:=i (j+1) (by simp;omega);simp only[qW,rs]at this;grind
  have e':(w+σ t)+rs σ a=0:=by simp only[rs]at e;grind
  have lt:low<=h t:=p t (by simp);obtain⟨q,m⟩:=NW a (w+σ t) (h t) c.2 (λu f=>b0 (c.1 u f)) l g e';have k:=dA hw (show 0<=h t-low by grind);simp only[rs];refine⟨by grind,?_⟩;rintro⟨j,d,b,n⟩;cases j with
  | zero=>
   simp only[gS,rs]at b;have:=n rfl t (by simp);have:=ff (show 0<w by grind) (show 0<h t-low by grind);grind
  | succ j=>
   have:=m (a8 j (by simpa using d) (by simp only[qW,rs]at b;grind) <| λ_ u f=>c.1 u f);grind
theorem wt(l:List (At×At))(a:List Sided)(j:Nat):W l a j=rs (sg l) (a.take j):=by
 unfold W w1 sg;rw[tQ]
theorem LR{Y:Bool}{l:List (At×At)}(m:l.Nodup)(B:QA l)(i:∀d,d∈l->bK s U Y d):∀k,k<=nX s U->W l (sl s U k) (sl s U k).length=0
 | 0,_=>wq _ _
 | k+1,n=>by
  have p:=LR m B i k (by omega);have g:=cQ (show k<(Xs s U).length from n);generalize (Xs s U)[k]=b at g;obtain⟨P⟩:=placeAt (s:=s) (U:=U) g;obtain⟨j,c⟩:=l9 (ew s U k b);have all:∀(a:List Sided),(∀t,t∈a->height t.p b∈ew s U k b)->below a b j=a.length:=by
   intro a q;unfold below
   simp_all
  have w:=all (sl s U k) λt f=>dB.2 (.inl (ab t f rfl));have v:=all (sl s U (k+1)) λt f=>dB.2 (.inr (.inl (ab t f rfl)));have e:j∉ew s U k b:=λz=>by have:=c _ z;grind
  have:=P.Jb e B λd o=>by
   obtain⟨t,h⟩:=(i d o).isDir;refine(ab t h <| λc1 c2 u r=>?_);have:=c t.p.2.2 (dB.2 (.inr (.inr ⟨t,h.1,c1,c2,.inr rfl⟩)));grind
  simp_all
theorem wZ(h:(x,y)∈(Xs s U).zip ((Xs s U).drop 1)):∃k,k<=nX s U/\sl s U k=fm s U (x,y):=by
 obtain⟨k,b⟩:=eJ h;obtain⟨d,c⟩:=jC.1 b;refine(ab (k+1) ?_ ?_)
 ·have:=(bF.1 c).1;unfold nX;omega
 ·unfold sl Sl fm;have a:k<(((Xs s U).zip ((Xs s U).drop 1)).map λp=>slab ((sided s U).filter λx=>decide (x.p.1.1<x.p.2.1)) p.1 p.2).length:=by
   rw[aZ];exact(bF.1 b).1
  rw[iT,uy,pY,nA a,gw,b];rfl
theorem E3(g:k<=nX s U)(c:j<(sl s U k).length):∃x y,(x,y)∈(Xs s U).zip ((Xs s U).drop 1)/\sl s U k=fm s U (x,y):=by
 cases k with
 | zero=>rw[jE]at c;simp at c
 | succ k=>
  by_cases d:k+1<nX s U
  ·have f:=cQ (show k<(Xs s U).length by unfold nX at d;omega);have e:=cQ (show k+1<(Xs s U).length from d);have a:((Xs s U).zip ((Xs s U).drop 1))[k]?=some ((Xs s U)[k],(Xs s U)[k+1]):=jC.2 ⟨f,e⟩;refine(br _ _ (bP a) ?_);unfold sl Sl fm;have b:k<(((Xs s U).zip ((Xs s U).drop 1)).map λp=>slab ((sided s U).filter λx=>decide (x.p.1.1<x.p.2.1)) p.1 p.2).length:=by
    rw[aZ];exact(bF.1 a).1
   rw[iT,uy,pY,nA b,gw,a];rfl
  grind[D1]
theorem Loop.turns(L:Loop s U Y l φ):((WL s U l)[φ]?=some 1/\0<f6 l)\/((WL s U l)[φ]?=some 0/\¬0<f6 l):=by
 have w:=DD (s:=s) (U:=U) L.Qn λd A=>(L.dir d A).isDir;have top:=LR L.nodup L.Qn L.dir;rcases L.values with⟨v,all,k,j,n,q,D⟩ | ⟨v,all⟩
 ·left;refine⟨v,?_⟩;rw[w];have c:∀b,b∈(Xs s U).zip ((Xs s U).drop 1)->rs (λt=>sg l t*height t.p ((b.1+b.2)/2)) (fm s U b)<=0/\((∃j,j<(fm s U b).length/\0<j/\0<W l (fm s U b) j)->rs (λt=>sg l t*height t.p ((b.1+b.2)/2)) (fm s U b)<0):=by
   rintro⟨x,y⟩ a;have S:cG s U x y (fm s U (x,y)):=kH a;refine ae (wZ a) λk n m=>?_;have t:=top k n;rw[m]at t;obtain⟨B,u⟩:=l9 ((fm s U (x,y)).map λt=>height t.p ((x+y)/2));have:=NW (σ:=sg l) (h:=λt=>height t.p ((x+y)/2)) (fm s U (x,y)) 0 (-B) S.pw (λt r=>b0 (u _ (aw.2 (ab t r rfl))).1) ib (λj q=>by
    rw[<-wt];have:=all k j n (by rw[m];exact q);rw[m]at this;rcases this with h | h <;> rw[h] <;> grind) (by
    rw[wt,dN]at t;rw[t];grind)
   grind[wt]
  have p:j<(sl s U k).length/\0<j:=by
   constructor
   ·rcases lP q with o | o
    ·exact o
    simp_all
   grind[Nat.eq_zero_or_pos,wq]
  refine bI (E3 n p.1) λx y a m=>?_;have i:0<rs (λb=>-(2*(b.2-b.1)*rs (λt=>sg l t*height t.p ((b.1+b.2)/2)) (fm s U b))) ((Xs s U).zip ((Xs s U).drop 1)):=by
   refine GQ ?_ (ab (x,y) a ?_)
   ·rintro⟨x,y⟩ a;have lt:=(kH (s:=s) (U:=U) a).lt;have:=sF (show 0<=2*(y-x) by grind) (c _ a).1;grind
   ·have lt:=(kH (s:=s) (U:=U) a).lt;have st:=(c _ a).2 (a8 j (by simp_all) p.2 <| by rw[<-m,D];grind);have:=Em (show 0<2*(y-x) by grind) st;grind
  have e:∀(f:Rat×Rat->Rat) (l:List (Rat×Rat)),rs (λd=>- f d) l=- rs f l:=λf l=>by
   have:=pE (-1) f l;grind
  rw[e]at i;exact i
 ·right;refine⟨v,?_⟩;rw[w];have:0<=rs (λb=>2*(b.2-b.1)*rs (λt=>sg l t*height t.p ((b.1+b.2)/2)) (fm s U b)) ((Xs s U).zip ((Xs s U).drop 1)):=by
   refine oE ?_;rintro⟨x,y⟩ a;have S:cG s U x y (fm s U (x,y)):=kH a;have lt:=S.lt;refine ae (wZ a) λk n m=>?_;have t:=top k n;rw[m]at t;obtain⟨B,u⟩:=l9 ((fm s U (x,y)).map λt=>height t.p ((x+y)/2));have i:∀(f:Sided->Rat) (l:List Sided),rs (λd=>- f d) l=- rs f l:=λf l=>by
    have:=pE (-1) f l;grind
   have:=NW (σ:=λt=>- sg l t) (h:=λt=>height t.p ((x+y)/2)) (fm s U (x,y)) 0 (-B) S.pw (λt r=>b0 (u _ (aw.2 (ab t r rfl))).1) ib (λj q=>by
    rw[i,<-wt];have:=all k j n (by rw[m];exact q);rw[m]at this;rcases this with h | h <;> rw[h] <;> grind) (by
    rw[wt,dN]at t;rw[i,t];grind)
   have C:=this.1;rw[eB (g:=λt=>-(sg l t*height t.p ((x+y)/2))) (λt _=>by grind),i]at C;grind[dA]
  grind
variable{s:Both}{U:Nat}
abbrev Lp:=List (At×At)×Nat
def Td(a b:Lp):Prop:=∀d,d∈a.1->d∉b.1
theorem vR:∀{L:List Lp},(∀a,a∈L->a.1.Nodup)->L.Pairwise Td->(L.flatMap (·.1)).Nodup
 | [],_,_=>List.Pairwise.nil
 | a::L,h,p=>by
  have f:=dD.1 p;rw[gv];refine jY.2 (cO (h a (by simp)) (vR (λb d=>h b (by simp[d])) f.2) ?_);intro x g y c e;subst e;refine ae (bV.1 c) λb d c=>?_;exact f.1 b d x g c
theorem Jc(a:List Sided)(j:Nat):∀L:List Lp,W (L.flatMap (·.1)) a j=rs (λl:Lp=>W l.1 a j) L
 | []=>rfl
 | b::L=>by
  rw[gv,Jd,Jc a j L];rfl
theorem Bu:∀k,k<=nX s U->dc (JJ s U) (iB s U 0 0) (iB s U k 0)
 | 0,_=>.refl _
 | k+1,p=>by
  have n:=Bu k (by omega);have j:=cQ (show k<(Xs s U).length from p);generalize (Xs s U)[k]=x at j;have q:∃y,y∈gaps (places (ew s U k x))/\∀z,z∈ew s U k x->y<z:=by
   have f:=iI (ew s U k x);have g:=λz=>fL (x:=z) (l:=ew s U k x);generalize places (ew s U k x)=l at f g;cases l with
   | nil=>exact(ab 0 (by simp[gaps]) <| λz i=>by simp_all)
   | cons a l=>
    refine(ab (a-1) (by simp[gaps]) <| λz i=>?_);rcases aY.1 ((g z).2 i) with h | h
    ·rw[h];grind
    ·have:=(dD.1 f).1 z h;grind
  refine ae q λy o m=>?_;have b:∀a,(∀t,t∈a->height t.p x∈ew s U k x)->below a x y=0:=by
   intro a r;unfold below;rw[uI.2]
   ·rfl
   grind
  have e:=b (sl s U k) λt c=>dB.2 (.inl (ab t c rfl));have d:=b (sl s U (k+1)) λt c=>dB.2 (.inr (.inl (ab t c rfl)));refine n.trans (tK (ke.2 (.inr (fh k x y j o ?_ (by rw[e]) <| by rw[d]))));rw[e,d];rfl
theorem DH:∀p,p∈JJ s U->(FF s U)[p.1]?=(FF s U)[p.2]?:=by
 rintro⟨u,v⟩ b;rcases ke.1 b with⟨k,j,c,e,hc,rfl,rfl⟩ | ⟨k,x,y,a,d,hc,rfl,rfl⟩
 ·grind[pW]
 ·dsimp only;have c:k<nX s U:=(bF.1 a).1;grind[pW,jf]
theorem LV:∀p,p∈JJ s U->p.1<(FF s U).length/\p.2<(FF s U).length:=by
 rintro⟨u,v⟩ d;have lt:∀{k j:Nat},k<=nX s U->j<=(sl s U k).length->iB s U k j<(FF s U).length:=λa b=>(bF.1 (pW a b)).1;rcases ke.1 d with⟨k,j,a,b,hc,rfl,rfl⟩ | ⟨k,x,y,c,e,hc,rfl,rfl⟩
 ·exact⟨lt a (by omega),lt a (by omega)⟩
 ·have a:k<nX s U:=(bF.1 c).1;exact⟨lt (by omega) (jf _ _ _),lt (by omega) (jf _ _ _)⟩
theorem v9{a b:Nat}(h:dc (JJ s U) a b):(FF s U)[a]?=(FF s U)[b]?:=h.inv (f:=λi=>(FF s U)[i]?) DH
theorem rO(D:bK s U Y d)(h:e7 s U d φ):(FF s U)[φ]?=some Y/\∃k j,k<=nX s U/\j<=(sl s U k).length/\φ=iB s U k j:=by
 obtain⟨_,⟨a,⟨P⟩⟩,_,_,_⟩:=D.places;obtain⟨t,I,n,R,f,e⟩:=D.into P;have c:=v9 (lX h e);have i:kF s U a d.2.1 d.2.2 (oU (nF s U a d.2.1 d.2.2) I)=Y:=by
  have:(kF s U a d.2.1 d.2.2 (oU (nF s U a d.2.1 d.2.2) I)==Y)=true:=f.2.1;simpa using this
 have p:=xy s U a d.2.1 d.2.2;have o:=xx s U a d.2.1 d.2.2;have r:=P.hk;have b:∀I,I<nF s U a d.2.1 d.2.2->(ei s U a d.2.1 d.2.2 I).1<=nX s U/\(ei s U a d.2.1 d.2.2 I).2<=(sl s U (ei s U a d.2.1 d.2.2 I).1).length:=by
  intro I q;have l:nF s U a d.2.1 d.2.2=nL s U a d.2.1 d.2.2+(De s U a d.2.1 d.2.2-o9 s U a d.2.1 d.2.2)+2:=rfl;grind[fA,fy]
 have m:oU (nF s U a d.2.1 d.2.2) I<nF s U a d.2.1 d.2.2:=by
  have:=f.1;unfold oU;split <;> omega
 have v:=b _ m;have g:=pW v.1 v.2;have g:(FF s U)[gF s U a d.2.1 d.2.2 (oU (nF s U a d.2.1 d.2.2) I)]?=some (kF s U a d.2.1 d.2.2 (oU (nF s U a d.2.1 d.2.2) I)):=g;refine⟨by rw[c,g,i],?_⟩;exact Jh (by
  have:=(bF.1 (c.trans g)).1;exact this)
section
open Classical
noncomputable def ind (a b:Nat) (J:List (Nat×Nat)):Rat:=if dc J a b then 1 else 0
noncomputable def sel (J:List (Nat×Nat)) (L:List Lp) (φ:Nat):List Lp:=L.filter λl=>decide (dc J l.2 φ)
theorem BG{a b:Nat}(h:dc J a b):ind a φ J=ind b φ J:=by
 unfold ind
 by_cases c:dc J a φ
 ·rw[ak c,ak (h.symm.trans c)]
 ·rw[ai c,ai λz=>c (h.trans z)]
structure Loops(s:Both)(U:Nat)(Y:Bool)(L:List Lp):Prop where
 loop:∀l,l∈L->Loop s U Y l.1 l.2
 apart:L.Pairwise Td
 all:∀d,bK s U Y d->∃l,l∈L/\d∈l.1
theorem Loops.D4{L:List Lp}(H:Loops s U Y L){b:Nat}(D:bK s U Y d)(e:e7 s U d b):d∈(sel (JJ s U) L φ).flatMap (·.1)↔dc (JJ s U) b φ:=by
 rw[bV];constructor
 ·rintro⟨l,a,c⟩;obtain⟨a,hc⟩:=bh.1 a;exact((H.loop l a).left d c b e).trans (b_ hc)
 ·intro hc;refine ae (H.all d D) λl a c=>?_;exact(ab l (bh.2 ⟨a,bE (((H.loop l a).left d c b e).symm.trans hc)⟩) c)
theorem Loops.level{L:List Lp}(H:Loops s U Y L)(A:(FF s U)[φ]?=some Y)(n:k<=nX s U):∀j,j<=(sl s U k).length->
  ind (iB s U k j) φ (JJ s U)-W ((sel (JJ s U) L φ).flatMap (·.1)) (sl s U k) j=ind (iB s U 0 0) φ (JJ s U):=by
 have q:((sel (JJ s U) L φ).flatMap (·.1)).Nodup:=vR (λa I=>(H.loop a (bh.1 I).1).nodup) (H.apart.sublist jA);have b:∀d,d∈(sel (JJ s U) L φ).flatMap (·.1)->bK s U Y d:=by
  intro d u;refine ae (bV.1 u) λl m u=>?_;exact(H.loop l (bh.1 m).1).dir d u
 intro j
 induction j with
 | zero=>
  intro _;rw[wq,<-BG (Bu k n)];grind
 | succ j x=>
  intro K;have x:=x (by omega);have o:=cQ (show j<(sl s U k).length by omega);generalize (sl s U k)[j]=t at o;refine fb (yh n o) λm g _=>?_;have w:=iH n o;rw[sW o];have c:∀{i:Nat},i<=(sl s U k).length->si s U k i≠Y->ind (iB s U k i) φ (JJ s U)=0:=by
   intro i E hc;unfold ind;rw[ai];intro z;have:=v9 z;rw[pW n E,A]at this
   simp_all
  by_cases v:t.left=t.right
  ·
   have e:dc (JJ s U) (iB s U k j) (iB s U k (j+1)):=tK (ke.2 (.inl (e8 k j n (by omega) (by rw[w.1,w.2,v]) rfl rfl)));have p:∀d,ku s U d t->d∉(sel (JJ s U) L φ).flatMap (·.1):=by
    intro d E u;refine aH (b d u) λt' r F D=>?_;have:t=t':=by
     refine d8 λz=>?_;have h0:=i_ E r (λy=>z y.symm);have C:ku s U d t':=⟨r,by grind⟩
     rcases j7 C with⟨_,e⟩ | ⟨_,e⟩
     ·rw[e]at h0;grind
     grind
    simp_all
   rw[<-BG e,AL q g (p _ ⟨m,.inl rfl⟩) (p _ ⟨m,.inr rfl⟩)];grind
  ·by_cases hc:t.left=Y
   ·have D:bK s U Y (t.p.1,t.p.2):=(a8 t m v <| .inl ⟨hc,rfl⟩)
    have B:e7 s U (t.p.1,t.p.2) (iB s U k (j+1)):=(ab t m <| .inl (aO k j n o <| .inl ⟨rfl,rfl⟩))
    have M:=c (i:=j) (by omega) (by grind);have f:=H.D4 (φ:=φ) D B
    by_cases h:dc (JJ s U) (iB s U k (j+1)) φ
    ·rw[GG q b g (f.2 h)];have:ind (iB s U k (j+1)) φ (JJ s U)=1:=by unfold ind;rw[ak h]
     grind
    ·have:ind (iB s U k (j+1)) φ (JJ s U)=0:=by unfold ind;rw[ai h]
     rw[this,AL q g (λz=>h (f.mp z)) (λz=>oN D (b _ z))];grind
   ·have J:t.right=Y:=vq v hc;have D:bK s U Y (t.p.2,t.p.1):=(a8 t m v <| .inr ⟨hc,rfl⟩)
    have B:e7 s U (t.p.2,t.p.1) (iB s U k j):=(ab t m <| .inl (aO k j n o <| .inr ⟨rfl,rfl⟩))
    have G:=c (i:=j+1) (by omega) (by rw[w.2];exact hc);have f:=H.D4 (φ:=φ) D B
    by_cases h:dc (JJ s U) (iB s U k j) φ
    ·rw[GH q b g (f.2 h),G];have:ind (iB s U k j) φ (JJ s U)=1:=by unfold ind;rw[ak h]
     grind
    ·have:ind (iB s U k j) φ (JJ s U)=0:=by unfold ind;rw[ai h]
     rw[this]at x;rw[G,AL q g (λz=>oN D (b _ z)) (λz=>h (f.mp z))];grind
theorem Loops.sum{L:List Lp}(H:Loops s U Y L)(b:(FF s U)[φ]?=some Y):
  rs (λl:Lp=>if 0<f6 l.1 then 1 else 0) (sel (JJ s U) L φ)=1-ind (iB s U 0 0) φ (JJ s U):=by
 obtain⟨k,j,d,e,rfl⟩:=Jh (bF.1 b).1;have g:=H.level b d j e;have o:ind (iB s U k j) (iB s U k j) (JJ s U)=1:=by unfold ind;rw[ak (dc.refl _)]
 rw[o,Jc]at g;have n:rs (λl:Lp=>if 0<f6 l.1 then 1 else 0) (sel (JJ s U) L (iB s U k j))=rs (λl:Lp=>W l.1 (sl s U k) j) (sel (JJ s U) L (iB s U k j)):=by
  refine eB λl m=>?_;obtain⟨h,hc⟩:=bh.1 m;have hc:=b_ hc;have c:=H.loop l h;have iv:=hc.inv (f:=λi=>(WL s U l.1)[i]?) (EM c.nodup c.Qn c.dir);have iv:(WL s U l.1)[l.2]?=(WL s U l.1)[iB s U k j]?:=iv;rw[pU d e]at iv;rcases c.turns with⟨v,a⟩ | ⟨v,a⟩
  ·rw[ak a];rw[v]at iv;exact bN iv
  ·rw[ai a];rw[v]at iv;exact bN iv
 rw[n];grind
theorem yL{α:Type}{f:α->Rat}:∀{L:List α},(∀l,l∈L->0<=f l)->∀{x:α},x∈L->f x<=rs f L
 | [],_,x,hx=>by simp at hx
 | z::L,h0,x,hx=>by
  have b:=oE (f:=f) (l:=L) λy a=>h0 y (by simp[a]);have c:=h0 z (by simp);simp only[rs];rcases aY.1 hx with hx | hx
  ·rw[hx];grind
  ·have:=yL (f:=f) (L:=L) (λy a=>h0 y (by simp[a])) hx;grind
theorem Gi{α:Type}{f:α->Rat}:∀{L:List α},(∀l,l∈L->0<=f l)->∀{a b:α},a∈L->b∈L->a≠b->f a+f b<=rs f L
 | [],_,a,b,d,_,_=>by simp at d
 | c::L,h0,a,b,d,g,h=>by
  have e:∀y,y∈L->0<=f y:=λy i=>h0 y (by simp[i]);have hc:=h0 c (by simp);simp only[rs];rcases aY.1 d with d | d <;> rcases aY.1 g with g | g
  ·simp_all
  ·rw[d];have:=yL e g;grind
  ·rw[g];have:=yL e d;grind
  ·have:=Gi e d g h;grind
theorem some_of{α:Type}{f:α->Rat}:∀{L:List α},0<rs f L->∃x,x∈L/\0<f x
 | [],h=>by simp only[rs]at h;simp_all
 | z::L,h=>by
  simp only[rs]at h
  by_cases c:0<f z
  ·exact(ab z (by simp) c)
  ·refine ae (some_of (f:=f) (L:=L) (by grind)) λx a k=>?_;exact(ab x (by simp[a]) k)
theorem Loops.nodup{L:List Lp}(H:Loops s U Y L):L.Nodup:=by
 refine kE (R:=Td) ?_ H.apart;intro a b f g h e;subst e;refine ae ((H.loop a f).here) λd c _=>?_;exact h d c c
def gO(l:Lp):Bool:=decide (0<f6 l.1)
theorem Loops.Oe(l:Lp):(0:Rat)<=if 0<f6 l.1 then 1 else 0:=by split <;> grind
theorem Loops.sep{L:List Lp}(H:Loops s U Y L){a b:Lp}(n:a∈L)(e:b∈L)(j:0<f6 a.1)(i:0<f6 b.1)(hc:dc (JJ s U) a.2 b.2):a=b:=by
 refine d8 λh=>?_;refine ae ((H.loop b e).here) λd m k=>?_;have c:=(rO ((H.loop b e).dir d m) k).1;have g:=H.sum c;have t:=Gi (f:=λl:Lp=>if 0<f6 l.1 then (1:Rat) else 0) (L:=sel (JJ s U) L b.2) (λl _=>Loops.Oe l) (a:=a) (b:=b) (bh.2 ⟨n,bE hc⟩) (bh.2 ⟨e,bE (dc.refl _)⟩) h;rw[g]at t;rw[ak j,ak i]at t;have:0<=ind (iB s U 0 0) b.2 (JJ s U):=by unfold ind;split <;> grind
 grind
theorem Loops.found{L:List Lp}(H:Loops s U Y L)(a:(FF s U)[φ]?=some Y)(d:¬dc (JJ s U) (iB s U 0 0) φ):∃l,l∈L/\0<f6 l.1/\dc (JJ s U) φ l.2:=by
 have b:=H.sum a;have e:ind (iB s U 0 0) φ (JJ s U)=0:=by unfold ind;rw[ai d]
 rw[e]at b;refine ae (some_of (f:=λl:Lp=>if 0<f6 l.1 then (1:Rat) else 0) (L:=sel (JJ s U) L φ) (by rw[b];grind)) λl h c=>?_;obtain⟨g,hc⟩:=bh.1 h;refine(a8 l g ?_ <| (b_ hc).symm);split at c
 ·assumption
 ·exact absurd c ig
theorem Loops.bounded{L:List Lp}(H:Loops s U Y L){a:Lp}(c:a∈L)(g:0<f6 a.1):¬dc (JJ s U) (iB s U 0 0) a.2:=by
 intro hc;refine ae ((H.loop a c).here) λd i h=>?_;have b:=(rO ((H.loop a c).dir d i) h).1;have e:=H.sum b;have t:=yL (f:=λl:Lp=>if 0<f6 l.1 then (1:Rat) else 0) (L:=sel (JJ s U) L a.2) (λl _=>Loops.Oe l) (x:=a) (bh.2 ⟨c,bE (dc.refl _)⟩);rw[e]at t;rw[ak g]at t;have:ind (iB s U 0 0) a.2 (JJ s U)=1:=by unfold ind;rw[ak hc]
 rw[this]at t;grind
theorem g_{α β:Type}{f:α->β}:∀{l:List α},l.Nodup->(∀a,a∈l->∀b,b∈l->f a=f b->a=b)->(l.map f).Nodup
 | [],_,_=>List.Pairwise.nil
 | a::l,h,k=>by
  have e:=cR.1 h;rw[bw];refine cR.2 ⟨λz=>?_,g_ e.2 λx d y c=>k x (by simp[d]) y (by simp[c])⟩;grind
theorem Loops.inside{L:List Lp}(H:Loops s U true L):(counted s U).1=(L.filter gO).length:=by
 rw[v8];dsimp only;have c:∀l,l∈L.filter gO->l∈L/\0<f6 l.1:=λl g=>⟨(bh.1 g).1,b_ (bh.1 g).2⟩
 have v:(FF s U)[iB s U 0 0]?=some false:=pW (bZ _) (bZ _);have:=pj (J:=JJ s U) (f:=FF s U) LV true ((L.filter gO).map (·.2)) ?_ ?_ DH ?_ ?_
 ·simp_all
 ·refine g_ (H.nodup.sublist jA) λa q b p e=>?_;exact H.sep (c a q).1 (c b p).1 (c a q).2 (c b p).2 (by rw[e];exact .refl _)
 ·intro r n;obtain⟨l,g,rfl⟩:=aw.1 n;refine ae ((H.loop l (c l g).1).here) λd u h=>?_;exact(rO ((H.loop l (c l g).1).dir d u) h).1
 ·intro r n r' m hc;obtain⟨l,g,rfl⟩:=aw.1 n;obtain⟨o,k,rfl⟩:=aw.1 m;rw[H.sep (c l g).1 (c o k).1 (c l g).2 (c o k).2 hc]
 ·intro i t;refine aH (H.found t (λz=>by
   have:=v9 z
   simp_all)) λl g j hc=>?_
  exact(ab l.2 (aw.2 (ab l (bh.2 ⟨g,bE j⟩) rfl)) hc)
theorem Loops.outside{L:List Lp}(H:Loops s U false L):(counted s U).2=(L.filter gO).length+1:=by
 rw[v8];dsimp only;have c:∀l,l∈L.filter gO->l∈L/\0<f6 l.1:=λl g=>⟨(bh.1 g).1,b_ (bh.1 g).2⟩
 have q:(FF s U)[iB s U 0 0]?=some false:=pW (bZ _) (bZ _);have:=pj (J:=JJ s U) (f:=FF s U) LV false (iB s U 0 0::(L.filter gO).map (·.2)) ?_ ?_ DH ?_ ?_
 ·simp_all
 ·refine cR.2 ⟨λz=>?_,g_ (H.nodup.sublist jA) λa u b t e=>?_⟩
  ·refine ae (aw.1 z) λl g e=>?_;exact H.bounded (c l g).1 (c l g).2 (by rw[e];exact .refl _)
  ·exact H.sep (c a u).1 (c b t).1 (c a u).2 (c b t).2 (by rw[e];exact .refl _)
 ·intro r k;rcases aY.1 k with rfl | k
  ·exact q
  ·obtain⟨l,g,rfl⟩:=aw.1 k;refine ae ((H.loop l (c l g).1).here) λd w m=>?_;exact(rO ((H.loop l (c l g).1).dir d w) m).1
 ·intro r k r' j hc;rcases aY.1 k with rfl | k <;> rcases aY.1 j with rfl | j
  ·rfl
  ·obtain⟨n,h,rfl⟩:=aw.1 j;exact absurd hc (H.bounded (c n h).1 (c n h).2)
  ·obtain⟨l,g,rfl⟩:=aw.1 k;exact absurd hc.symm (H.bounded (c l g).1 (c l g).2)
  ·obtain⟨l,g,rfl⟩:=aw.1 k;obtain⟨n,h,rfl⟩:=aw.1 j;rw[H.sep (c l g).1 (c n h).1 (c l g).2 (c n h).2 hc]
 ·intro i v
  by_cases p:dc (JJ s U) (iB s U 0 0) i
  ·exact(aa (by simp) p.symm)
  ·refine aH (H.found v p) λl g o hc=>?_;exact(ab l.2 (cN _ (aw.2 (ab l (bh.2 ⟨g,bE o⟩) rfl))) hc)
end
theorem CG(q:Rat):q=(q.num:Rat)/((q.den:Int):Rat):=by
 rw[<-Rat.divInt_eq_div]
 simp_all
theorem Eu{b:Int}(h:b≠0):(b:Rat)≠0:=λk=>h (jU.1 (by rw[k];rfl))
theorem eh{b:Int}(h:0<b):(0:Rat)<(b:Rat):=by
 have:=gx.2 h;simpa using this
theorem Nz{b:Int}(h:b<0):(b:Rat)<(0:Rat):=by
 have:=gx.2 h;simpa using this
theorem gA{a b c d:Int}(f:b≠0)(e:d≠0):(a:Rat)/b=(c:Rat)/d↔a*d=c*b:=by
 have i:=Eu f;have g:=Eu e;constructor
 ·intro h;refine jU.1 ?_;grind
 ·intro h;have h:=cq (λz:Int=>(z:Rat)) h;grind
theorem KC{a b c d:Int}(j:0<b)(i:0<d):(a:Rat)/b<(c:Rat)/d↔a*d<c*b:=by
 have m:=eh j;have l:=eh i;have o:(a:Rat)/b*b=a:=by grind
 have n:(c:Rat)/d*d=c:=by grind
 rw[<-gx,bO,bO];have e:=ff m l;have g:(a:Rat)*d=(a:Rat)/b*(b*d):=by rw[<-Rat.mul_assoc,o]
 have f:(c:Rat)*b=(c:Rat)/d*(b*d):=by rw[Rat.mul_comm (b:Rat) d,<-Rat.mul_assoc,n]
 rw[g,f];generalize (a:Rat)/b=u;generalize (c:Rat)/d=v;generalize (b:Rat)*d=w at e;constructor
 ·intro h;have:=ff (show 0<v-u by grind) e;grind
 ·intro h;refine c4.1 λk=>?_;have:=dA (show 0<=u-v by grind) (b0 e);grind
abbrev P3:=Int×Int×Int
variable{S B:List (P3×P3)}
noncomputable def pt(p:P3):At:=((p.1:Rat)/(p.2.2:Rat),(p.2.1:Rat)/(p.2.2:Rat))
def Norm(p:P3):Prop:=0<p.2.2/\Nat.gcd (Nat.gcd p.1.natAbs p.2.1.natAbs) p.2.2.natAbs=1
noncomputable def tl(a:At):P3:=((toldAt a).x,(toldAt a).y,(toldAt a).w)
theorem vY{a b c w v:Nat}(h:Nat.gcd (Nat.gcd a b) w=1)(g:w∣a*v)(f:w∣b*v):w∣v:=by
 have e:w∣w*v:=Nat.dvd_mul_right w v;have d:w∣Nat.gcd (Nat.gcd (a*v) (b*v)) (w*v):=mP (mP g f) e;rw[qM,qM,h,t6]at d;exact d
theorem vr{p q:P3}(n:Norm p)(m:Norm q)(h:pt p=pt q):p=q:=by
 obtain⟨x,y,w⟩:=p;obtain⟨d,b,a⟩:=q;obtain⟨o,i⟩:=n;obtain⟨l,g⟩:=m;dsimp only at o i l g;unfold pt at h;dsimp only at h;have k:=(gA (show w≠0 by omega) (show a≠0 by omega)).1 (cy h).1;have j:=(gA (show w≠0 by omega) (show a≠0 by omega)).1 (cy h).2;have f:x.natAbs*a.natAbs=d.natAbs*w.natAbs:=by rw[<-f_,<-f_,k]
 have e:y.natAbs*a.natAbs=b.natAbs*w.natAbs:=by rw[<-f_,<-f_,j]
 have d1:w.natAbs∣a.natAbs:=vY (c:=0) i ⟨d.natAbs,by rw[f,mU]⟩ ⟨b.natAbs,by rw[e,mU]⟩;have d2:a.natAbs∣w.natAbs:=vY (c:=0) g ⟨x.natAbs,by rw[<-f,mU]⟩ ⟨y.natAbs,by rw[<-e,mU]⟩;have t:w=a:=by
  have:=Nat.dvd_antisymm d1 d2;omega
 subst t;have s:x=d:=Ao (by omega) k;have r:y=b:=Ao (by omega) j;rw[s,r]
theorem Kk{a b:Nat}(d:0<a)(f:0<b):Nat.gcd (Nat.lcm a b/a) (Nat.lcm a b/b)=1:=by
 have e:0<Nat.gcd a b:=Nat.gcd_pos_of_pos_left b d;have h:Nat.lcm a b/a=b/Nat.gcd a b:=by
  refine Aq d ?_;have:=Nat.gcd_mul_lcm a b;obtain⟨c,hc⟩:=ui a b;grind[Nat.div_eq_of_eq_mul_right,Nat.mul_assoc,Nat.mul_comm,Nat.eq_of_mul_eq_mul_left]
 have g:Nat.lcm a b/b=a/Nat.gcd a b:=by
  refine Aq f ?_;have:=Nat.gcd_mul_lcm a b;obtain⟨c,hc⟩:=qG a b;grind[Nat.div_eq_of_eq_mul_right,Nat.mul_assoc,Nat.mul_comm,Nat.eq_of_mul_eq_mul_left]
 rw[h,g,Nat.gcd_comm];exact Nat.coprime_div_gcd_div_gcd e
theorem dQ(a:At):0<(tl a).2.2:=by
 unfold tl toldAt;dsimp only;have:=Nat.lcm_pos a.1.den_pos a.2.den_pos;omega
theorem ya(a:At):Norm (tl a):=by
 refine⟨dQ a,?_⟩;unfold tl toldAt;dsimp only;generalize hw:Nat.lcm a.1.den a.2.den=w;have c:=Kk a.1.den_pos a.2.den_pos;rw[hw]at c;rw[f_,f_,kA,kA,kA];have d1:a.1.den∣w:=by rw[<-hw];exact Nat.dvd_lcm_left _ _
 have d2:a.2.den∣w:=by rw[<-hw];exact Nat.dvd_lcm_right _ _
 have k:a.1.den*(w/a.1.den)=w:=zQ d1;have j:a.2.den*(w/a.2.den)=w:=zQ d2;generalize w/a.1.den=u at *;generalize w/a.2.den=v at *;generalize b:Nat.gcd (Nat.gcd (a.1.num.natAbs*u) (a.2.num.natAbs*v)) w=g;have i:g∣a.1.num.natAbs*u:=by rw[<-b];exact Nat.dvd_trans (qG _ _) (qG _ _)
 have h:g∣a.2.num.natAbs*v:=by rw[<-b];exact Nat.dvd_trans (qG _ _) (ui _ _)
 have d:g∣w:=by rw[<-b];exact ui _ _
 have f:g∣u:=by
  have:g∣Nat.gcd (a.1.num.natAbs*u) (a.1.den*u):=mP i (by rw[k];exact d);rw[qM,a.1.reduced,t6]at this;exact this
 have e:g∣v:=by
  have:g∣Nat.gcd (a.2.num.natAbs*v) (a.2.den*v):=mP h (by rw[j];exact d);rw[qM,a.2.reduced,t6]at this;exact this
 have:g∣1:=by rw[<-c];exact mP f e
 simp_all
theorem gp(a:At):pt (tl a)=a:=by
 unfold pt tl toldAt;dsimp only;generalize hw:Nat.lcm a.1.den a.2.den=w;have b:0<w:=by rw[<-hw];exact Nat.lcm_pos a.1.den_pos a.2.den_pos
 have d1:a.1.den∣w:=by rw[<-hw];exact Nat.dvd_lcm_left _ _
 have d2:a.2.den∣w:=by rw[<-hw];exact Nat.dvd_lcm_right _ _
 have d:=a.1.den_pos;have c:=a.2.den_pos;refine a9 ?_ ?_
 ·dsimp only
  conv=>rhs;rw[CG a.1]
  refine(gA (by omega) (by omega)).2 ?_;rw[Int.mul_assoc,<-Int.natCast_mul,Nat.div_mul_cancel d1]
 ·dsimp only
  conv=>rhs;rw[CG a.2]
  refine(gA (by omega) (by omega)).2 ?_;rw[Int.mul_assoc,<-Int.natCast_mul,Nat.div_mul_cancel d2]
theorem mi{b:At}(h:tl a=tl b):a=b:=by grind[gp]
theorem EF{q:Rat}{a b:Int}(d:b≠0)(h:q=(a:Rat)/b):q.den∣b.natAbs:=by
 have e:=CG q;rw[h]at e;have c:(((a:Rat)/b).den:Int)≠0:=by have:=((a:Rat)/b).den_pos;omega
 have:=(gA d c).1 e;rw[<-h]at this;have n:a.natAbs*q.den=q.num.natAbs*b.natAbs:=by
  have:=cq Int.natAbs this;rw[f_,f_,kA]at this;exact this
 have:q.den∣q.num.natAbs*b.natAbs:=⟨a.natAbs,by rw[<-n,mU]⟩
 exact(Nat.Coprime.symm q.reduced).dvd_of_dvd_mul_left this
theorem Jz{x y w:Int}(hw:w≠0)(h:a=((x:Rat)/w,(y:Rat)/w)):(tl a).2.2<=w.natAbs:=by
 have d1:=EF hw (cq Prod.fst h);have d2:=EF hw (cq Prod.snd h);have:=Nat.le_of_dvd (by omega) (Nat.lcm_dvd d1 d2);show((Nat.lcm a.1.den a.2.den:Nat):Int)<=_;omega
noncomputable def iu(x y w:Int):P3:=
 let g:Int:=Int.gcd (Int.gcd x y) w
 let d:=if w<0 then -g else g
 (Int.fdiv x d,Int.fdiv y d,Int.fdiv w d)
theorem Bt{x y w:Int}(hw:w≠0):iu x y w=tl ((x:Rat)/w,(y:Rat)/w):=by
 have n:0<Int.gcd (Int.gcd x y) w:=Ar _ hw;have C:(Int.gcd (Int.gcd x y) w:Int)∣(Int.gcd x y:Int):=qF _ _;have I:(Int.gcd (Int.gcd x y) w:Int)∣w:=qK _ _;have H:(Int.gcd (Int.gcd x y) w:Int)∣x:=qo C (qF _ _);have G:(Int.gcd (Int.gcd x y) w:Int)∣y:=qo C (qK _ _);have B:Nat.gcd (Nat.gcd x.natAbs y.natAbs) w.natAbs=Int.gcd (Int.gcd x y) w:=by
  show _=Nat.gcd (Int.natAbs (Int.gcd x y)) w.natAbs;rw[kA];rfl
 generalize E:Int.gcd (Int.gcd x y) w=g at *;obtain⟨v,r⟩:=H;obtain⟨u,p⟩:=G;obtain⟨b,l⟩:=I;have i:b≠0:=λz=>hw (by simp_all);have D:(g:Int)≠0:=by omega
 have c:∀a:Int,(a=1\/a=-1)->0 < a*b->(Int.fdiv x (a*g),Int.fdiv y (a*g),Int.fdiv w (a*g))=tl ((x:Rat)/w,(y:Rat)/w):=by
  intro a d j;have t:a*a=1:=by rcases d with h | h <;> rw[h] <;> rfl
  have F:a*(g:Int)≠0:=by grind
  have f:∀z k:Int,z=g*k->Int.fdiv z (a*g)=a*k:=by
   intro z k e;have:z=(a*g)*(a*k):=by
    grind
   rw[this,Af _ F]
  rw[f x v r,f y u p,f w b l];refine vr ⟨j,?_⟩ (ya _) ?_
  ·have m:∀z:Int,(a*z).natAbs=z.natAbs:=λz=>by
    rcases d with h | h <;> rw[h] <;> simp
   dsimp only;rw[m,m,m];have q:x.natAbs=g*v.natAbs:=by rw[r,f_,kA]
   have o:y.natAbs=g*u.natAbs:=by rw[p,f_,kA]
   have s:w.natAbs=g*b.natAbs:=by rw[l,f_,kA]
   rw[q,o,s,Nat.gcd_mul_left,Nat.gcd_mul_left]at B;exact Nat.eq_of_mul_eq_mul_left n (by rw[B,Nat.mul_one])
  ·rw[gp];unfold pt;dsimp only;refine a9 ?_ ?_
   ·refine(gA (by omega) hw).2 ?_;rw[r,l];grind
   ·refine(gA (by omega) hw).2 ?_;rw[p,l];grind
 unfold iu;dsimp only;rw[E]
 by_cases A:w<0
 ·rw[ak A];have:=c (-1) (.inr rfl) (by
   have:b<0:=by
    rcases lJ b 0 with h | h | h
    ·exact h
    ·exact absurd h i
    ·have:=mO (show(0:Int)<g by omega) h;omega
   omega)
  simp_all
 ·rw[ai A];have:=c 1 (.inl rfl) (by
   have:0<b:=by
    rcases lJ b 0 with h | h | h
    ·have:=Int.mul_neg_of_pos_of_neg (show(0:Int)<g by omega) h;omega
    ·exact absurd h i
    ·exact h
   omega)
  rw[show(1:Int)*g=g by omega]at this;exact this
theorem oJ{n d:Int}(c:d≠0):((Int.fdiv n d:Int):Rat)<=(n:Rat)/d/\(n:Rat)/d<((Int.fdiv n d:Int):Rat)+1:=by
 have I:∀n d:Int,0<d->((Int.fdiv n d:Int):Rat)<=(n:Rat)/d/\(n:Rat)/d<((Int.fdiv n d:Int):Rat)+1:=by
  intro n d h;have e:=zT n d;have j:0<=n.fmod d:=uH n h;have i:n.fmod d<d:=uq n h;generalize Int.fdiv n d=q at *;have c1:d*q<=n:=by omega
  have c2:n<d*(q+1):=by rw[Int.mul_add,Int.mul_one];omega
  have b:=eh h;have f:=rf.2 c1;have a:=gx.2 c2;rw[bO]at f a;rw[jT]at a;have g:(n:Rat)/d*d=n:=by grind
  generalize (n:Rat)/d=v at *;have o:((1:Int):Rat)=1:=rfl;rw[o]at a;generalize (q:Rat)=Q at *;generalize (d:Rat)=D at *;rw[<-g]at f a;constructor
  ·refine bM.1 λz=>?_;have:=ff (show 0<Q-v by grind) b;grind
  ·refine c4.1 λz=>?_;have:=dA (show 0<=v-(Q+1) by grind) (b0 b);grind
 rcases lJ d 0 with h | h | h
 ·have:=I (-n) (-d) (by omega);rw[Int.neg_fdiv_neg]at this;have e:((-n:Int):Rat)/((-d:Int):Rat)=(n:Rat)/d:=by
   refine(gA (by omega) c).2 ?_;grind
  rw[e]at this;exact this
 ·exact absurd h c
 ·exact I n d h
theorem Qh{u v:Rat}{q a:Int}(c:(q:Rat)<=u)(b:v<(a:Rat)+1)(h:u+1<=v):q<a:=by
 have:(q:Rat)<(a:Rat):=by grind
 exact gx.1 this
theorem Qi{u:Rat}{q c:Int}(g:(q:Rat)<=u)(f:u<(q:Rat)+1)(e:(c:Rat)<=u)(d:u<(c:Rat)+1):q=c:=by
 have a:(q:Rat)<((c+1:Int):Rat):=by grind
 have b:(c:Rat)<((q+1:Int):Rat):=by grind
 have a:=gx.1 a;have b:=gx.1 b;omega
theorem Oa{a b c d:Int}{B N:Int}(i:0<b)(g:0<d)(o:b*d<=B)(n:B<=N)(h:(a:Rat)/b<(c:Rat)/d):((a*N:Int):Rat)/b+1<=((c*N:Int):Rat)/d:=by
 have k:=(KC i g).1 h;have x:=eh i;have w:=eh g;have e:(a*d:Int)+1<=c*b:=by omega
 have e:=rf.2 e;rw[jT,bO,bO]at e;have f:((1:Int):Rat)=1:=rfl;rw[f]at e;have l:=rf.2 (Int.le_trans o n);rw[bO]at l;rw[bO,bO];have s:(a:Rat)/b*b=a:=by grind
 have r:(c:Rat)/d*d=c:=by grind
 have q:(a:Rat)*N/b=(a:Rat)/b*N:=by grind
 have p:(c:Rat)*N/d=(c:Rat)/d*N:=by grind
 rw[q,p];generalize (a:Rat)/b=u at *;generalize (c:Rat)/d=v at *;rw[<-s,<-r]at e;generalize (b:Rat)=t at *;generalize (d:Rat)=d' at *;generalize (N:Rat)=j at *;have m:=dA (show 0<=v-u by grind) (show 0<=j-t*d' by grind);grind
def lexLt(p q:Int×Int):Prop:=p.1<q.1\/(p.1=q.1/\p.2<q.2)
noncomputable def place(p:P3):Int×Int:=(Int.fdiv (p.1*2^64) p.2.2,Int.fdiv (p.2.1*2^64) p.2.2)
theorem Ey{a b c d N B:Int}(f:0<b)(e:0<d)(i:b*d<=B)(g:B<=N)(h:(a:Rat)/b<(c:Rat)/d):Int.fdiv (a*N) b<Int.fdiv (c*N) d:=
 Qh (oJ (by omega)).1 (oJ (by omega)).2 (Oa f e i g h)
theorem fdiv_eq{a b c d N:Int}(i:b≠0)(g:d≠0)(h:(a:Rat)/b=(c:Rat)/d):Int.fdiv (a*N) b=Int.fdiv (c*N) d:=by
 have e:((a*N:Int):Rat)/b=((c*N:Int):Rat)/d:=by
  have:=(gA i g).1 h;refine(gA i g).2 ?_;grind
 have j:=oJ (n:=a*N) i;have f:=oJ (n:=c*N) g;rw[<-e]at f;exact Qi j.1 j.2 f.1 f.2
theorem xp{b d:Int}{M:Int}(f:0<b)(e:0<d)(c:b<=M)(a:d<=M):b*d<=M*M:=Int.mul_le_mul c a (by omega) (by omega)
def jn(p:P3):Prop:=0<p.2.2/\p.2.2<=2^31
theorem oq{a b c d N M:Int}(f:0<b)(e:0<d)(i:b<=M)(h:d<=M)(g:M*M<=N):(Int.fdiv (a*N) b<Int.fdiv (c*N) d↔(a:Rat)/b<(c:Rat)/d)/\(Int.fdiv (a*N) b=Int.fdiv (c*N) d↔(a:Rat)/b=(c:Rat)/d):=by
 have l:(a:Rat)/b<(c:Rat)/d->Int.fdiv (a*N) b<Int.fdiv (c*N) d:=Ey f e (xp f e i h) g;have k:(c:Rat)/d<(a:Rat)/b->Int.fdiv (c*N) d<Int.fdiv (a*N) b:=Ey e f (by rw[Int.mul_comm];exact xp f e i h) g;have j:(a:Rat)/b=(c:Rat)/d->Int.fdiv (a*N) b=Int.fdiv (c*N) d:=fdiv_eq (by omega) (by omega);grind
theorem place_lt{p q:P3}(e:jn p)(d:jn q):lexLt (place p) (place q)↔sooner (pt p) (pt q)=true:=by
 rw[cn];unfold lexLt place pt;dsimp only;have a:=oq (a:=p.1) (c:=q.1) (N:=2^64) e.1 d.1 e.2 d.2 (by decide);have b:=oq (a:=p.2.1) (c:=q.2.1) (N:=2^64) e.1 d.1 e.2 d.2 (by decide);rw[a.1,a.2,b.1]
theorem A5{p q:P3}(e:jn p)(d:jn q):place p=place q↔pt p=pt q:=by
 unfold place pt;have a:=oq (a:=p.1) (c:=q.1) (N:=2^64) e.1 d.1 e.2 d.2 (by decide);have b:=oq (a:=p.2.1) (c:=q.2.1) (N:=2^64) e.1 d.1 e.2 d.2 (by decide)
 simp_all
noncomputable def direction(a b:Int):Int×Int:=if a=0 then (if 0<b then (0,0) else (2,0)) else if a<0 then (1,Int.fdiv (b*2^32) a) else (3,Int.fdiv (b*2^32) a)
def iv(b a:Int):At:=((b:Rat),(a:Rat))
def mG(c d:Int):Prop:=(c=0/\d≠0)\/(c≠0/\∃a b:Int,0<b/\b<=2^15/\(d:Rat)/c=(a:Rat)/b)
theorem IT(a b:Int):cls (iv a b)=if a=0 then (if 0<b then 0 else 2) else (if a<0 then 1 else 3):=by
 unfold cls iv;dsimp only;have e:((a:Rat)=0)↔a=0:=by
  simp_all
 have d:((0:Rat)<(b:Rat))↔0<b:=by
  constructor
  ·intro h;exact gx.1 (by simpa using h)
  ·exact eh
 have c:((a:Rat)<0)↔a<0:=by
  constructor
  ·intro h;exact gx.1 (by simpa using h)
  ·exact Nz
 simp_all
theorem u5{c d a b:Int}(e:c≠0)(f:0<b)(h:(d:Rat)/c=(a:Rat)/b):Int.fdiv (d*2^32) c=Int.fdiv (a*2^32) b:=fdiv_eq e (by omega) h
theorem zm{i g e d:Int}(h:mG i g)(k:mG e d):(lexLt (direction i g) (direction e d)↔d5 (iv i g) (iv e d))/\
  (direction i g=direction e d↔(cls (iv i g)=cls (iv e d)/\(iv i g).2/(iv i g).1=(iv e d).2/(iv e d).1)):=by
 have o:∀y:Int,(iv 0 y).2/(iv 0 y).1=0:=λy=>by
  show(y:Rat)/((0:Int):Rat)=0;grind
 unfold lexLt d5;rw[IT,IT];unfold direction;rcases h with⟨rfl,w⟩ | ⟨m,a,b,r,n,q⟩ <;> rcases k with⟨rfl,v⟩ | ⟨j,u,x,p,l,ks⟩
 ·rw[o,o];simp only[dh]
  by_cases c1:0<g <;> by_cases c2:0<d <;> simp[c1,c2,ig]
 ·simp only[dh,ai j]
  by_cases c1:0<g <;> by_cases c2:e<0 <;> simp[c1,c2]
 ·simp only[dh,ai m]
  by_cases c1:0<d <;> by_cases c2:i<0 <;> simp[c1,c2]
 ·simp only[ai m,ai j];have f:=oq (a:=a) (c:=u) (N:=2^32) (M:=2^15) r p n l (by decide);rw[<-u5 m r q,<-u5 j p ks,<-q,<-ks]at f;have t:(iv i g).2/(iv i g).1=(g:Rat)/i:=rfl;have s:(iv e d).2/(iv e d).1=(d:Rat)/e:=rfl;rw[t,s]
  by_cases c1:i<0 <;> by_cases c2:e<0 <;> simp only[c1,c2,dh,cx]
  ·simp_all
  ·simp
  ·simp
  simp_all
theorem et{d d' e e':At}{k l:Rat}(c:0<k)(i:0<l)(h:d'=(k*d.1,k*d.2))(g:e'=(l*e.1,l*e.2)):(d5 d' e'↔d5 d e)/\cls d'=cls d/\d'.2/d'.1=d.2/d.1:=by
 have f:∀{d d':At} {k:Rat},0<k->d'=(k*d.1,k*d.2)->cls d'=cls d/\d'.2/d'.1=d.2/d.1:=by
  intro d d' k c h;subst h;have n:(k*d.1=0)↔d.1=0:=by
   grind[cg]
  have m:(0<k*d.2)↔0<d.2:=by
   constructor
   ·intro z;exact fK (a:=d.2) (b:=k) (by grind) c
   ·intro z;exact ff c z
  have j:(k*d.1<0)↔d.1<0:=by
   constructor
   ·intro z;exact vx (a:=d.1) (b:=k) (by grind) c
   ·intro z;exact Em c z
  constructor
  ·unfold cls
   simp_all
  ·dsimp only
   by_cases z:d.1=0
   ·rw[z,show k*(0:Rat)=0 by grind,F7,F7]
   grind
 have a:=f c h;have b:=f i g;refine⟨?_,a⟩;unfold d5;rw[a.1,a.2,b.1,b.2]
def bQ(b e:P3):Int×Int:=direction (e.1*b.2.2-b.1*e.2.2) (e.2.1*b.2.2-b.2.1*e.2.2)
theorem n_{b e:P3}(c:0<b.2.2)(a:0<e.2.2):iv (e.1*b.2.2-b.1*e.2.2) (e.2.1*b.2.2-b.2.1*e.2.2)=(((b.2.2:Rat)*e.2.2)*(aP (pt b) (pt e)).1,((b.2.2:Rat)*e.2.2)*(aP (pt b) (pt e)).2):=by
 have f:=eh c;have d:=eh a;unfold iv aP pt;grind
structure aJ where
 ax:Int
 ay:Int
 bx:Int
 bz:Int
 dx:Int
 dy:Int
 mark:Int
 deriving DecidableEq
variable{f:aJ}
noncomputable def IX(p q:Corner):Bool:=decide (p.1<q.1) || (p.1==q.1&&decide (p.2<q.2))
def IV(p q:Corner):Corner:=if IX q p=true then q else p
def IW(p q:Corner):Corner:=if IX p q=true then q else p
def QH(a b:Corner)(m:Int):aJ:=⟨a.1,a.2,b.1,b.2,b.1-a.1,b.2-a.2,m⟩
def pe(m:Int)(e:Edge):aJ:=QH (IV e.1 e.2) (IW e.1 e.2) m
def aL(e:aJ):Seg:=(at_ (e.ax,e.ay),at_ (e.bx,e.bz))
theorem zv{p q:Corner}:IX p q=true↔p.1<q.1\/(p.1=q.1/\p.2<q.2):=by unfold IX;simp
theorem K6(p q:Corner):IX p q=true\/p=q\/IX q p=true:=by
 grind[zv,Prod.ext]
theorem xR{p q:Corner}(h:IX p q=true):¬IX q p=true:=by rw[zv]at *;omega
theorem xW{p q:Corner}(h:IX p q=true):sooner (at_ p) (at_ q)=true:=by
 rw[zv]at h;rw[cn];unfold at_;dsimp only;rw[gx,gx,jU];exact h
theorem Hn(m:Int){e:Edge}(h:e.1≠e.2):(pe m e=QH e.1 e.2 m/\IX e.1 e.2=true)\/(pe m e=QH e.2 e.1 m/\IX e.2 e.1=true):=by
 unfold pe IV IW;rcases K6 e.1 e.2 with k | k | k
 ·left;rw[ai (xR k),ak k];exact⟨rfl,k⟩
 ·exact absurd k h
 ·right;rw[ak k,ai (xR k)];exact⟨rfl,k⟩
structure lg(e:aJ):Prop where
 dx:e.dx=e.bx-e.ax
 dy:e.dy=e.bz-e.ay
 lt:sooner (aL e).1 (aL e).2=true
 ax:-16384<=e.ax/\e.ax<=16384
 ay:-16384<=e.ay/\e.ay<=16384
 bx:-16384<=e.bx/\e.bx<=16384
 bz:-16384<=e.bz/\e.bz<=16384
 mark:e.mark=1\/e.mark=2
theorem lg.ne{e:aJ}(h:lg e):(aL e).1≠(aL e).2:=bR h.lt
def wu(d:Drawing):Prop:=∀r,r∈d->∀c,c∈r->rightCorner c=true
theorem zi{d:Drawing}{e:Edge}(h:e∈edges d):∃r,r∈d/\e.1∈r/\e.2∈r:=by
 unfold edges at h;refine ae (bV.1 h) λr g c=>?_;unfold edgesOf at c;have f:=(bh.1 c).1;obtain⟨a,b⟩:=e;have i:=lH f;refine(a8 r g i.1 ?_);grind
theorem Lv{d:Drawing}(a:wu d){e:Edge}(h:e∈edges d){m:Int}(c:m=1\/m=2):lg (pe m e):=by
 refine aH (zi h) λr b g f=>?_;have c1:=b_ (show decide _=true from a r b _ g);have c2:=b_ (show decide _=true from a r b _ f);rcases Hn m (km h) with⟨k,l⟩ | ⟨k,l⟩
 ·rw[k];exact⟨rfl,rfl,xW l,⟨c1.1,c1.2.1⟩,⟨c1.2.2.1,c1.2.2.2⟩,⟨c2.1,c2.2.1⟩,⟨c2.2.2.1,c2.2.2.2⟩,c⟩
 ·rw[k];exact⟨rfl,rfl,xW l,⟨c2.1,c2.2.1⟩,⟨c2.2.2.1,c2.2.2.2⟩,⟨c1.1,c1.2.1⟩,⟨c1.2.2.1,c1.2.2.2⟩,c⟩
structure Draws(D:List aJ)(s:Both):Prop where
 perm:D.Perm ((edges s.a).map (pe 1)++(edges s.b).map (pe 2))
 sa:wu s.a
 sb:wu s.b
theorem Draws.ok{D:List aJ}{s:Both}(h:Draws D s):∀e,e∈D->lg e:=by
 intro e b;rcases cJ.1 (h.perm.mem_iff.1 b) with k | k
 ·obtain⟨f,a,rfl⟩:=aw.1 k;exact Lv h.sa a (.inl rfl)
 ·obtain⟨f,a,rfl⟩:=aw.1 k;exact Lv h.sb a (.inr rfl)
def sf(e:Seg):Seg:=(e.2,e.1)
theorem x_(m:Int){e:Edge}(h:e.1≠e.2):aL (pe m e)=seg e\/aL (pe m e)=sf (seg e):=by
 rcases Hn m h with⟨k,_⟩ | ⟨k,_⟩
 ·rw[k];exact .inl rfl
 ·rw[k];exact .inr rfl
theorem tS(m:Int)(e:Edge):(pe m e).mark=m:=rfl
theorem Draws.px{D:List aJ}{s:Both}(h:Draws D s)(P:Seg->Bool)(g:∀e,P (sf e)=P e):
  M.px (λe:aJ=>e.mark==1&&P (aL e)) D=M.px P (dX s.a)/\M.px (λe:aJ=>e.mark==2&&P (aL e)) D=M.px P (dX s.b):=by
 have a:∀{d:Drawing} (m:Int) (e:Edge),e∈edges d->P (aL (pe m e))=P (seg e):=by
  intro d m e f;rcases x_ m (km f) with k | k
  ·rw[k]
  ·rw[k,g]
 constructor
 ·rw[yr h.perm,jJ,kT,kT];have c:M.px (λx=>(pe 2 x).mark==1&&P (aL (pe 2 x))) (edges s.b)=false:=by
   rw[cP (q:=λ_=>false) λx _=>by rw[tS];rfl,ja]
  rw[c,jx];unfold dX;rw[kT];refine cP λx b=>?_;rw[tS,a 1 x b];simp
 ·rw[yr h.perm,jJ,kT,kT];have c:M.px (λx=>(pe 1 x).mark==2&&P (aL (pe 1 x))) (edges s.a)=false:=by
   rw[cP (q:=λ_=>false) λx _=>by rw[tS];rfl,ja]
  rw[c,iQ];unfold dX;rw[kT];refine cP λx b=>?_;rw[tS,a 2 x b];simp
noncomputable def xr(a b:Int):Int:=((a.toNat ^^^ b.toNat:Nat):Int)
noncomputable def enc(a b:Bool):Int:=(if a then 1 else 0)+(if b then 2 else 0)
theorem nB(a b c d:Bool):xr (enc a b) (enc c d)=enc (a^^c) (b^^d):=by cases a <;> cases b <;> cases c <;> cases d <;> decide
theorem EB:(1:Int)=enc true false:=rfl
theorem EA:(2:Int)=enc false true:=rfl
def fN(c:aJ->Bool)(D:List aJ)(m:Int):Int:=D.foldl (λm e=>if c e=true then xr m e.mark else m) m
theorem vB{c:aJ->Bool}:∀{D:List aJ},(∀e,e∈D->e.mark=1\/e.mark=2)->∀u v:Bool,
  fN c D (enc u v)=enc (u^^px (λe:aJ=>e.mark==1&&c e) D) (v^^px (λe:aJ=>e.mark==2&&c e) D)
 | [],_,u,v=>by unfold fN px;simp
 | e::D,h,u,v=>by
  have a:=λu v=>vB (c:=c) (D:=D) (λf g=>h f (by simp[g])) u v;have step:fN c (e::D) (enc u v)=fN c D (if c e=true then xr (enc u v) e.mark else enc u v):=rfl;rw[step];have d:px (λe:aJ=>e.mark==1&&c e) (e::D)=((e.mark==1&&c e)^^px (λe:aJ=>e.mark==1&&c e) D):=rfl;have b:px (λe:aJ=>e.mark==2&&c e) (e::D)=((e.mark==2&&c e)^^px (λe:aJ=>e.mark==2&&c e) D):=rfl;rw[d,b];cases hc:c e
  ·simp only[i4,iQ];exact a u v
  ·simp only[mX,dh];rcases h e (by simp) with k | k
   ·rw[k,EB,nB,a];simp[enc,jQ]
   ·rw[k,EA,nB,a];simp[enc,jQ]
noncomputable def o5(e:aJ)(p:P3):Int:=e.dx*(p.2.1-e.ay*p.2.2)-e.dy*(p.1-e.ax*p.2.2)
def gj(e:aJ)(p:P3):Int:=e.dx*(p.1-e.ax*p.2.2)+e.dy*(p.2.1-e.ay*p.2.2)
noncomputable def iN(e:aJ)(p:P3):Int:=e.dx*(e.bx*p.2.2-p.1)+e.dy*(e.bz*p.2.2-p.2.1)
def fE(e:aJ)(p:P3):Bool:=decide (o5 e p=0)&&(decide (0<=gj e p)&&decide (0<=iN e p))
theorem AY{p:P3}(hw:0<p.2.2):(p.1:Rat)=(pt p).1*(p.2.2:Rat)/\(p.2.1:Rat)=(pt p).2*(p.2.2:Rat):=by
 have h:=eh hw;unfold pt;grind
theorem u7{e:aJ}(h:lg e){p:P3}(hw:0<p.2.2):((o5 e p:Int):Rat)=(p.2.2:Rat)*cross (aL e).1 (aL e).2 (pt p):=by
 obtain⟨b,a⟩:=AY hw;unfold o5 cross aL at_;dsimp only;rw[h.dx,h.dy,dn,bO,bO,dn,dn,dn,dn,bO,bO,b,a];grind
theorem jI{n:Int}{w c:Rat}(hw:0<w)(h:(n:Rat)=w*c):(n=0↔c=0)/\(0<n↔0<c)/\(n<0↔c<0)/\(0<=n↔0<=c):=by
 have z:((0:Int):Rat)=0:=rfl;have a:n=0↔c=0:=by
  rw[<-jU,h,z];grind[cg]
 have b:0<n↔0<c:=by
  rw[<-gx,h,z];constructor
  ·intro k;exact fK (a:=c) (b:=w) (by grind) hw
  ·intro k;exact ff hw k
 grind
def dot(d e:At):Rat:=d.1*e.1+d.2*e.2
theorem wj{e:aJ}(h:lg e){p:P3}(hw:0<p.2.2):((gj e p:Int):Rat)=(p.2.2:Rat)*dot (aP (aL e).1 (aL e).2) (aP (aL e).1 (pt p)):=by
 obtain⟨b,a⟩:=AY hw;unfold gj dot aP aL at_;dsimp only;rw[h.dx,h.dy,jT,bO,bO,dn,dn,dn,dn,bO,bO,b,a];grind
theorem xZ{e:aJ}(h:lg e){p:P3}(hw:0<p.2.2):((iN e p:Int):Rat)=(p.2.2:Rat)*dot (aP (aL e).1 (aL e).2) (aP (pt p) (aL e).2):=by
 obtain⟨b,a⟩:=AY hw;unfold iN dot aP aL at_;dsimp only;rw[h.dx,h.dy,jT,bO,bO,dn,dn,dn,dn,bO,bO,b,a];grind
theorem Gv(y:Rat):0<=y*y:=by
 rcases(ic:0<=y\/y<=0) with h | h
 ·exact dA h h
 ·exact tM h h
theorem rY{b:At}(h:a≠b):0<dot (aP a b) (aP a b):=by
 have:=pH h;unfold c9 aP at this;unfold dot aP;grind
theorem v3{b:At}(h:a≠b)(t:Rat):(0<=dot (aP a b) (aP a (aI a b t))↔0<=t)/\(0<dot (aP a b) (aP a (aI a b t))↔0<t)/\(0<=dot (aP a b) (aP (aI a b t) b)↔t<=1)/\(0<dot (aP a b) (aP (aI a b t) b)↔t<1):=by
 have p:=rY h;have d:dot (aP a b) (aP a (aI a b t))=t*dot (aP a b) (aP a b):=by unfold dot aP aI;dsimp only;grind
 have c:dot (aP a b) (aP (aI a b t) b)=(1-t)*dot (aP a b) (aP a b):=by unfold dot aP aI;dsimp only;grind
 grind[F_,dA,Rat.le_of_lt,fK,ff]
theorem kf{e:aJ}(h:lg e){p:P3}(hw:0<p.2.2):fE e p=true↔On (aL e) (pt p):=by
 have b:=eh hw;unfold fE;rw[c5,c5,jZ,jZ,jZ,(jI b (u7 h hw)).1,(jI b (wj h hw)).2.2.2,(jI b (xZ h hw)).2.2.2];constructor
 ·rintro⟨j,g,f⟩;obtain⟨t,a⟩:=eT h.ne j;rw[a]at g f;have d:=v3 h.ne t;rw[a];exact gW _ _ (d.1.mp g) (d.2.2.1.mp f)
 ·intro c;refine aH (fq.1 (show On ((aL e).1,(aL e).2) (pt p) from c)) λt i k a=>?_;have d:=v3 h.ne t;refine(cO c.1 ?_ ?_)
  ·rw[a];exact d.1.2 i
  simp_all
theorem ot(q:At)(e:Seg):c_ q (sf e)=c_ q e:=by
 obtain⟨a,b⟩:=e;unfold c_ sf;dsimp only;rw[eG a b];grind
def jm(p:P3)(e:aJ):Bool:=decide (e.ax*p.2.2<=p.1)&&(decide (p.1<e.bx*p.2.2)&&decide (o5 e p<0))
theorem x3{e:aJ}(h:lg e){p:P3}(hw:0<p.2.2):jm p e=c_ (pt p) (aL e):=by
 have a:=eh hw;obtain⟨b,j⟩:=AY hw;have i:=cn.1 h.lt;have g:decide (e.ax*p.2.2<=p.1)=decide ((aL e).1.1<=(pt p).1):=by
  have:(e.ax*p.2.2<=p.1)↔((aL e).1.1<=(pt p).1):=by
   rw[<-rf,bO,b];show _↔(e.ax:Rat)<=(pt p).1;constructor
   ·intro k;refine bM.1 λz=>?_;have:=ff (show 0<(e.ax:Rat)-(pt p).1 by grind) a;grind
   ·intro k;have:=dA (show 0<=(pt p).1-(e.ax:Rat) by grind) (b0 a);grind
  simp[this]
 have f:decide (p.1<e.bx*p.2.2)=decide ((pt p).1<(aL e).2.1):=by
  have:(p.1<e.bx*p.2.2)↔((pt p).1<(aL e).2.1):=by
   rw[<-gx,bO,b];show _↔(pt p).1<(e.bx:Rat);constructor
   ·intro k;refine c4.1 λz=>?_;have:=dA (show 0<=(pt p).1-(e.bx:Rat) by grind) (b0 a);grind
   ·intro k;have:=ff (show 0<(e.bx:Rat)-(pt p).1 by grind) a;grind
  simp[this]
 have d:decide (o5 e p<0)=decide (cross (aL e).1 (aL e).2 (pt p)<0):=by
  have:=(jI a (u7 h hw)).2.2.1;simp[this]
 unfold jm c_;rw[g,f,d];have c:(decide ((aL e).2.1<=(pt p).1)&&(decide ((pt p).1<(aL e).1.1)&&decide (0<cross (aL e).1 (aL e).2 (pt p))))=false:=by
  grind
 rw[c,mY]
def cp(D:List aJ)(p:P3):Int:=fN (jm p) D 0
theorem Draws.above{D:List aJ}{s:Both}(h:Draws D s){p:P3}(hw:0<p.2.2):cp D p=enc (l5 (dX s.a) (pt p)) (l5 (dX s.b) (pt p)):=by
 unfold cp;have:=vB (c:=jm p) (D:=D) (λe a=>(h.ok e a).mark) false false;rw[show enc false false=0 from rfl]at this;rw[this,iQ,iQ];have k:=h.px (c_ (pt p)) (ot (pt p));have d:M.px (λe:aJ=>e.mark==1&&jm p e) D=M.px (λe:aJ=>e.mark==1&&c_ (pt p) (aL e)) D:=cP λe a=>by rw[x3 (h.ok e a) hw]
 have b:M.px (λe:aJ=>e.mark==2&&jm p e) D=M.px (λe:aJ=>e.mark==2&&c_ (pt p) (aL e)) D:=cP λe a=>by rw[x3 (h.ok e a) hw]
 rw[d,b,k.1,k.2];rfl
def cV(e f:aJ):List P3:=
 let turn:=e.dx*f.dy-e.dy*f.dx
 if turn=0 then [(f.ax,f.ay,1),(f.bx,f.bz,1)].filter (fE e)
 else
  let a:=(f.ax-e.ax)*f.dy-(f.ay-e.ay)*f.dx
  let p:=iu (e.ax*turn+e.dx*a) (e.ay*turn+e.dy*a) turn
  if (fE e p&&fE f p)=true then [p] else []
theorem pC(c:Corner):tl (at_ c)=(c.1,c.2,1):=by
 refine vr (ya _) ⟨show(0:Int)<1 by decide,?_⟩ ?_
 ·simp_all
 ·rw[gp];unfold pt at_;grind
theorem sE{e:aJ}(b:lg e)(a:lg f):e.dx*f.dy-e.dy*f.dx=0↔para (aL e) (aL f):=by
 unfold para aL at_;dsimp only;rw[b.dx,b.dy,a.dx,a.dy];constructor
 ·intro h;have h:(e.bx-e.ax)*(f.bz-f.ay)=(e.bz-e.ay)*(f.bx-f.ax):=by omega
  have:=cq (λz:Int=>(z:Rat)) h;simpa[bO,dn] using this
 ·intro h;have:(((e.bx-e.ax)*(f.bz-f.ay):Int):Rat)=(((e.bz-e.ay)*(f.bx-f.ax):Int):Rat):=by
   simp_all
  have:=jU.1 this;omega
theorem AK{e:aJ}(b:lg e)(a:lg f)(g:e.dx*f.dy-e.dy*f.dx≠0)(d:cross (aL e).1 (aL e).2 z=0)(c:cross (aL f).1 (aL f).2 z=0):
  z=(((e.ax*(e.dx*f.dy-e.dy*f.dx)+e.dx*((f.ax-e.ax)*f.dy-(f.ay-e.ay)*f.dx):Int):Rat)/((e.dx*f.dy-e.dy*f.dx:Int):Rat),((e.ay*(e.dx*f.dy-e.dy*f.dx)+e.dy*((f.ax-e.ax)*f.dy-(f.ay-e.ay)*f.dx):Int):Rat)/((e.dx*f.dy-e.dy*f.dx:Int):Rat)):=by
 have l:=Eu g;unfold cross aL at_ at d c;dsimp only at d c;have k:((e.dx:Int):Rat)=(e.bx:Rat)-e.ax:=by rw[b.dx,dn]
 have j:((e.dy:Int):Rat)=(e.bz:Rat)-e.ay:=by rw[b.dy,dn]
 have i:((f.dx:Int):Rat)=(f.bx:Rat)-f.ax:=by rw[a.dx,dn]
 have h:((f.dy:Int):Rat)=(f.bz:Rat)-f.ay:=by rw[a.dy,dn]
 grind
theorem jH{e:aJ}(j:lg e)(l:lg f){z:P3}:z∈cV e f↔∃a,Meet (aL e) (aL f) a/\z=tl a:=by
 unfold cV Meet;dsimp only
 by_cases g:e.dx*f.dy-e.dy*f.dx=0
 ·rw[ak g];have m:=(sE j l).1 g;simp only[m,jM,um,jN,p6];rw[bh];have b:∀c:Corner,(fE e (c.1,c.2,1)=true↔On (aL e) (at_ c)):=by
   intro c;rw[kf j (show(0:Int)<1 by decide),<-pC,gp]
  constructor
  ·rintro⟨d,i⟩;have d:z=(f.ax,f.ay,1)\/z=(f.bx,f.bz,1):=by simpa using d
   rcases d with rfl | rfl
   ·exact(ab (at_ (f.ax,f.ay)) ⟨(b (f.ax,f.ay)).1 i,.inl rfl⟩ <| (pC (f.ax,f.ay)).symm)
   ·exact(ab (at_ (f.bx,f.bz)) ⟨(b (f.bx,f.bz)).1 i,.inr rfl⟩ <| (pC (f.bx,f.bz)).symm)
  ·rintro⟨a,⟨d,i⟩,rfl⟩;rcases i with rfl | rfl
   ·have:tl (aL f).1=(f.ax,f.ay,1):=pC (f.ax,f.ay);rw[this];exact⟨by simp,(b (f.ax,f.ay)).2 d⟩
   ·have:tl (aL f).2=(f.bx,f.bz,1):=pC (f.bx,f.bz);rw[this];exact⟨by simp,(b (f.bx,f.bz)).2 d⟩
 ·rw[ai g];have m:¬para (aL e) (aL f):=λk=>g ((sE j l).2 k);simp only[m,jN,qO,jM,false_or];rw[Bt g];generalize q:((((e.ax*(e.dx*f.dy-e.dy*f.dx)+e.dx*((f.ax-e.ax)*f.dy-(f.ay-e.ay)*f.dx):Int):Rat)/((e.dx*f.dy-e.dy*f.dx:Int):Rat),((e.ay*(e.dx*f.dy-e.dy*f.dx)+e.dy*((f.ax-e.ax)*f.dy-(f.ay-e.ay)*f.dx):Int):Rat)/((e.dx*f.dy-e.dy*f.dx:Int):Rat)):At)=n;have p:=kf j (dQ n);have o:=kf l (dQ n);rw[gp]at p o;constructor
  ·intro h;split at h
   ·rename_i k;rw[c5,p,o]at k;exact(ab n k <| by simpa using h)
   ·simp at h
  ·rintro⟨a,⟨d,i⟩,rfl⟩;have:=(AK j l g d.1 i.1).trans q
   simp_all
theorem pK{e:aJ}(c:lg e)(b:lg f)(h:Meet (aL e) (aL f) a):jn (tl a):=by
 refine⟨dQ a,?_⟩;obtain⟨j,d⟩:=h;rcases d with⟨g,d⟩ | ⟨g,d⟩
 ·rcases d with rfl | rfl
  ·have:tl (aL f).1=(f.ax,f.ay,1):=pC (f.ax,f.ay)
   simp_all
  ·have:tl (aL f).2=(f.bx,f.bz,1):=pC (f.bx,f.bz)
   simp_all
 ·have i:e.dx*f.dy-e.dy*f.dx≠0:=λk=>g ((sE c b).1 k);have:=Jz i (AK c b i j.1 d.1);refine Int.le_trans this ?_;have q:-32768<=e.dx/\e.dx<=32768:=by have:=c.dx;have:=c.ax;have:=c.bx;omega
  have p:-32768<=e.dy/\e.dy<=32768:=by have:=c.dy;have:=c.ay;have:=c.bz;omega
  have o:-32768<=f.dx/\f.dx<=32768:=by have:=b.dx;have:=b.ax;have:=b.bx;omega
  have l:-32768<=f.dy/\f.dy<=32768:=by have:=b.dy;have:=b.ay;have:=b.bz;omega
  have m:∀u v:Int,-32768<=u/\u<=32768->-32768<=v/\v<=32768->-1073741824<=u*v/\u*v<=1073741824:=by
   intro u v s r;have n:(u*v).natAbs<=32768*32768:=by
    rw[f_];exact Nat.mul_le_mul (by omega) (by omega)
   omega
  have c1:=m e.dx f.dy q l;have c2:=m e.dy f.dx p o;omega
theorem pG(e:Seg)(z:At):On (sf e) z↔On e z:=by
 unfold On sf;grind[eG]
theorem CO(e f:Seg):para (sf e) f↔para e f:=by
 unfold para sf;grind
theorem CN(e f:Seg):para e (sf f)↔para e f:=by
 unfold para sf;grind
theorem CW(e f:Seg)(z:At):Meet (sf e) f z↔Meet e f z:=by
 unfold Meet;rw[pG,CO]
theorem CV(e f:Seg)(z:At):Meet e (sf f) z↔Meet e f z:=by
 unfold Meet;rw[pG,CN];unfold sf;dsimp only;constructor
 ·rintro⟨h,k | k⟩
  ·exact⟨h,.inl ⟨k.1,k.2.symm⟩⟩
  ·exact⟨h,.inr k⟩
 ·rintro⟨h,k | k⟩
  ·exact⟨h,.inl ⟨k.1,k.2.symm⟩⟩
  ·exact⟨h,.inr k⟩
def Alike(E E':List Seg):Prop:=(∀e,e∈E->e∈E'\/sf e∈E')/\(∀e,e∈E'->e∈E\/sf e∈E)
theorem DU(e:Seg):sf (sf e)=e:=rfl
theorem pR{E:List Seg}(h:∀e,e∈E->e∈E'\/sf e∈E')(d:e'=e\/e'=sf e)(hc:Cut E e z):Cut E' e' z:=by
 refine ae hc λf c k=>?_;have b:∀a,(a=f\/a=sf f)->Meet e' a z:=by
  grind[CV,CW]
 rcases h f c with g | g
 ·exact(ab f g <| b f (.inl rfl))
 ·exact(ab (sf f) g <| b _ (.inr rfl))
theorem eS{E:List Seg}(h:Alike E E')(f:bC E p q):bC E' p q:=by
 refine dG f λe i c1 c2 d j=>?_;have a:∀e',e'∈E'->(e'=e\/e'=sf e)->bC E' p q:=λe' b k=>
  ⟨e',b,pR h.1 k c1,pR h.1 k c2,d,λz c=>j z (pR h.2 (by
   grind[DU]) c)⟩
 rcases h.1 e i with g | g
 ·exact a e g (.inl rfl)
 ·exact a _ g (.inr rfl)
theorem Alike.symm{E:List Seg}(h:Alike E E'):Alike E' E:=⟨h.2,h.1⟩
variable{D:List aJ}{s:Both}
theorem Draws.alike(h:Draws D s):Alike (D.map aL) (E s):=by
 have c:∀e,e∈edges s.a\/e∈edges s.b->seg e∈E s:=by
  intro e he;rw[Ji];rcases he with he | he
  ·exact kD _ (aw.2 (ab e he rfl))
  ·exact iV _ (aw.2 (ab e he rfl))
 constructor
 ·intro e he;obtain⟨f,b,rfl⟩:=aw.1 he;have:∃g m,f=pe m g/\(g∈edges s.a\/g∈edges s.b):=by
   rcases cJ.1 (h.perm.mem_iff.1 b) with k | k
   ·obtain⟨g,a,rfl⟩:=aw.1 k;exact(br g 1 rfl <| .inl a)
   ·obtain⟨g,a,rfl⟩:=aw.1 k;exact(br g 2 rfl <| .inr a)
  obtain⟨g,m,rfl,a⟩:=this;grind[km,x_,DU]
 ·intro e he;rw[Ji]at he;have:∃g m,e=seg g/\pe m g∈D/\g.1≠g.2:=by
   rcases cJ.1 he with k | k
   ·obtain⟨g,a,rfl⟩:=aw.1 k;exact(aO g 1 rfl (h.perm.mem_iff.2 (kD _ (aw.2 (ab g a rfl)))) <| km a)
   ·obtain⟨g,a,rfl⟩:=aw.1 k;exact(aO g 2 rfl (h.perm.mem_iff.2 (iV _ (aw.2 (ab g a rfl)))) <| km a)
  grind[x_]
def js(D:List aJ)(e:aJ):List P3:=(inOrder ((D.flatMap (cV e)).map pt)).map tl
theorem gg(h:Draws D s){e:aJ}(d:e∈D){z:P3}:z∈D.flatMap (cV e)↔∃a,Cut (D.map aL) (aL e) a/\z=tl a:=by
 rw[bV];constructor
 ·rintro⟨f,b,i⟩;obtain⟨a,c,rfl⟩:=(jH (h.ok e d) (h.ok f b)).1 i;exact(ab a (ab (aL f) (aw.2 (ab f b rfl)) c) rfl)
 ·rintro⟨a,⟨g,j,c⟩,rfl⟩;obtain⟨f,b,rfl⟩:=aw.1 j;exact(ab f b <| (jH (h.ok e d) (h.ok f b)).2 (ab a c rfl))
theorem oP(h:Draws D s){e:aJ}(d:e∈D)(hc:Cut (D.map aL) (aL e) a):jn (tl a):=by
 refine ae hc λg b i=>?_;obtain⟨f,c,rfl⟩:=aw.1 b;exact pK (h.ok e d) (h.ok f c) i
theorem er(h:Draws D s){e:aJ}(c:e∈D):a∈inOrder ((D.flatMap (cV e)).map pt)↔Cut (D.map aL) (aL e) a:=by
 rw[tF,aw];constructor
 ·rintro⟨z,d,rfl⟩;obtain⟨b,f,rfl⟩:=(gg h c).1 d;rw[gp];exact f
 ·intro hc;exact(ab (tl a) ((gg h c).2 (ab a hc rfl)) <| gp a)
theorem Br(h:Draws D s){e:aJ}(b:e∈D){z:P3}:z∈js D e↔z∈D.flatMap (cV e):=by
 unfold js;rw[aw,gg h b];constructor
 ·rintro⟨a,c,rfl⟩;exact(ab a ((er h b).1 c) rfl)
 ·rintro⟨a,c,rfl⟩;exact(ab a ((er h b).2 c) rfl)
theorem v7(e:aJ):(js D e).Nodup:=g_ (vf cj (dJ _)) λa _ b _ k=>mi k
theorem KS(h:Draws D s){e:aJ}(c:e∈D):(js D e).Pairwise λa b=>lexLt (place a) (place b):=by
 unfold js;rw[lM];refine kE ?_ (dJ _);intro a b g f d;rw[place_lt (oP h c ((er h c).1 g)) (oP h c ((er h c).1 f)),gp,gp];exact d
theorem Fu(p:Int×Int):¬lexLt p p:=by unfold lexLt;omega
theorem tE{p q:Int×Int}(h:lexLt p q):¬lexLt q p:=by unfold lexLt at *;omega
theorem xC(p q:Int×Int):lexLt p q\/p=q\/lexLt q p:=by
 unfold lexLt;grind
theorem FV(h:Draws D s){e:aJ}(f:e∈D){l:List P3}(m:l.Nodup)(g:∀z,z∈l↔z∈D.flatMap (cV e))(j:l.Pairwise λa b=>¬lexLt (place b) (place a)):l=js D e:=by
 have d:l.Perm (js D e):=(uP m (v7 e)).2 λz=>by rw[g,Br h f]
 refine Ag (le:=λa b=>¬lexLt (place b) (place a)) ?_ j ((KS h f).imp fun{a b} k=>tE k) d;intro a b t r q p;have n:∀z,z∈l->jn z/\Norm z:=by
  intro z i;obtain⟨c,hc,rfl⟩:=(gg h f).1 ((g z).1 i);exact⟨oP h f hc,ya c⟩
 grind[xC,vr,A5]
def gZ(D:List aJ)(e:aJ):List (P3×P3):=(js D e).zip ((js D e).drop 1)
theorem Co(l:List At):((l.map tl).zip ((l.map tl).drop 1))=(l.zip (l.drop 1)).map λx=>(tl x.1,tl x.2):=by
 rw[<-List.map_drop,List.zip_map]
 congr 1
theorem sG(h:Draws D s){e:aJ}(c:e∈D){k:P3×P3}:k∈gZ D e↔∃p q,bC (E s) p q/\On (aL e) p/\On (aL e) q/\k=(tl p,tl q):=by
 have me:aL e∈D.map aL:=aw.2 (ab e c rfl);have w:=h.alike;unfold gZ js;rw[Co,aw];constructor
 ·rintro⟨⟨p,q⟩,n,rfl⟩;obtain⟨G,F,C,k4⟩:=(c8 cj (λa b h=>bA h) (dJ _)).1 n;have c1:=(er h c).1 G;have c2:=(er h c).1 F;exact(eK p q (eS w ⟨aL e,me,c1,c2,C,λz d=>k4 z ((er h c).2 d)⟩) c1.on c2.on rfl)
 ·rintro⟨p,q,u,l,j,rfl⟩;have i:=eS w.symm u;have I:∀f,f∈D.map aL->f.1≠f.2:=by
   intro f v;obtain⟨g,H,rfl⟩:=aw.1 v;exact(h.ok g H).ne
  have m:=bq u;refine dG (id i) λf v r o _ J=>?_;have c1:=sS (bR m) r.on o.on l j r l;have c2:=sS (bR m) r.on o.on l j o j;refine(ab (p,q) ((c8 cj (λa b h=>bA h) (dJ _)).2 (oX ((er h c).2 c1) ((er h c).2 c2) m <| λz d y x=>?_)) rfl);have d:=(er h c).1 d;refine aH (r9 (h.ok e c).ne l j d.on y x) λt B A e'=>?_;exact iD I i me B A (by rw[<-e'];exact d)
theorem wQ{α:Type}:∀{l:List α} (m:List α),l.Nodup->(l.zip m).Nodup
 | [],_,_=>by simp
 | a::l,[],_=>by simp
 | a::l,b::m,h=>by
  have c:=cR.1 h;rw[qR];refine cR.2 ⟨λz=>c.1 (lH z).1,wQ m c.2⟩
theorem Bg(e:aJ):(gZ D e).Nodup:=wQ _ (v7 e)
section
variable{κ υ:Type}[DecidableEq κ]
noncomputable def cw(d:List (κ×υ))(k:κ):Option υ:=match d with
 | []=>none
 | (a,v)::d=>if a=k then some v else cw d k
noncomputable def dput(d:List (κ×υ))(k:κ)(v:υ):List (κ×υ):=match d with
 | []=>[(k,v)]
 | (a,b)::d=>if a=k then (a,v)::d else (a,b)::dput d k v
theorem sR(d:List (κ×υ))(k:κ)(v:υ):(dput d k v).map (·.1)=if k∈d.map (·.1) then d.map (·.1) else d.map (·.1)++[k]:=by
 induction d with
 | nil=>simp[dput]
 | cons a d e=>
  obtain⟨c,b⟩:=a;unfold dput;grind
theorem vZ{d:List (κ×υ)}(h:(d.map (·.1)).Nodup)(k:κ)(v:υ):((dput d k v).map (·.1)).Nodup:=by
 rw[sR];split
 ·exact h
 ·rename_i z;refine jY.2 (cO h (by simp) ?_);grind
theorem xP(d:List (κ×υ))(k b:κ)(v:υ):cw (dput d k v) b=if k=b then some v else cw d b:=by
 induction d with
 | nil=>rfl
 | cons a d g=>
  obtain⟨c,f⟩:=a;unfold dput
  by_cases e:c=k
  ·rw[ak e];subst e;unfold cw
   simp_all
  ·rw[ai e];unfold cw;grind
theorem gB{d:List (κ×υ)}(h:(d.map (·.1)).Nodup){k:κ}{v:υ}:cw d k=some v↔(k,v)∈d:=by
 induction d with
 | nil=>simp[cw]
 | cons a d e=>
  obtain⟨c,b⟩:=a;rw[bw]at h;have f:=cR.1 h;unfold cw;grind
theorem Dm{d:List (κ×υ)}{k:κ}:cw d k=none↔k∉d.map (·.1):=by
 induction d with
 | nil=>simp[cw]
 | cons a d e=>
  obtain⟨c,b⟩:=a;unfold cw;grind
end
def fZ{κ:Type}[DecidableEq κ](d:List (κ×Int))(a:κ×Int):List (κ×Int):=dput d a.1 (xr ((cw d a.1).getD 0) a.2)
def lr{κ:Type}[DecidableEq κ](l:List (κ×Int))(d:List (κ×Int)):List (κ×Int):=l.foldl fZ d
theorem l4{κ:Type}[DecidableEq κ]:∀(l:List (κ×Int)) (d:List (κ×Int)),(d.map (·.1)).Nodup->((lr l d).map (·.1)).Nodup/\∀k,k∈(lr l d).map (·.1)↔k∈d.map (·.1)\/k∈l.map (·.1)
 | [],d,h=>⟨h,λk=>by simp[lr]⟩
 | a::l,d,h=>by
  have b:=l4 l (fZ d a) (vZ h _ _);have e:lr (a::l) d=lr l (fZ d a):=rfl;rw[e];refine⟨b.1,λk=>?_⟩;rw[b.2 k];unfold fZ;rw[sR];grind
theorem rW{κ:Type}[DecidableEq κ](k:κ):∀l d u v,(∀e,e∈l->e.2=1\/e.2=2)->(cw d k).getD 0=enc u v->
  (cw (lr l d) k).getD 0=enc (u^^px (λe:κ×Int=>decide (e.1=k)&&e.2==1) l) (v^^px (λe:κ×Int=>decide (e.1=k)&&e.2==2) l)
 | [],d,u,v,_,h=>by
  show(cw d k).getD 0=_;rw[h];simp[px]
 | a::l,d,u,v,f,h=>by
  have e:lr (a::l) d=lr l (fZ d a):=rfl;have i:px (λe:κ×Int=>decide (e.1=k)&&e.2==1) (a::l)=((decide (a.1=k)&&a.2==1)^^px (λe:κ×Int=>decide (e.1=k)&&e.2==1) l):=rfl;have g:px (λe:κ×Int=>decide (e.1=k)&&e.2==2) (a::l)=((decide (a.1=k)&&a.2==2)^^px (λe:κ×Int=>decide (e.1=k)&&e.2==2) l):=rfl;rw[e,i,g]
  by_cases c:a.1=k
  ·have lk:(cw (fZ d a) k).getD 0=xr (enc u v) a.2:=by
    unfold fZ;rw[xP,ak c,c,h];rfl
   rcases f a (by simp) with m | m
   ·rw[m,EB,nB]at lk;rw[rW k l (fZ d a) _ _ (λe b=>f e (by simp[b])) lk];simp[c,m,jQ]
   ·rw[m,EA,nB]at lk;rw[rW k l (fZ d a) _ _ (λe b=>f e (by simp[b])) lk];simp[c,m,jQ]
  ·have lk:(cw (fZ d a) k).getD 0=enc u v:=by
    unfold fZ;rw[xP,ai c,h]
   rw[rW k l (fZ d a) u v (λe b=>f e (by simp[b])) lk];simp[c]
def iZ(D:List aJ):List ((P3×P3)×Int):=D.flatMap λe=>(gZ D e).map λk=>(k,e.mark)
def ip(D:List aJ):List ((P3×P3)×Int):=lr (iZ D) []
theorem yt{α β:Type}(f:α->List β)(p:β->Bool):∀l:List α,px p (l.flatMap f)=px (λx=>px p (f x)) l
 | []=>rfl
 | a::l=>by
  rw[gv,jJ,yt f p l];rfl
theorem G_{α:Type}[DecidableEq α]{k:α}{c:Bool}:∀{l:List α},l.Nodup->px (λx=>decide (x=k)&&c) l=(decide (k∈l)&&c)
 | [],_=>by simp[px]
 | a::l,h=>by
  have b:=cR.1 h;have d:=G_ (k:=k) (c:=c) b.2;show((decide (a=k)&&c)^^px _ l)=_;rw[d]
  by_cases e:a=k
  ·subst e;simp[b.1]
  ·have e':¬k=a:=λz=>e z.symm;simp[e,e']
theorem sP(p q:At)(e:Seg):holds p q (sf e)=holds p q e:=by
 unfold holds;simp only[pG]
theorem Bf(h:Draws D s):((ip D).map (·.1)).Nodup/\(∀k,k∈(ip D).map (·.1)↔∃p q,bC (E s) p q/\k=(tl p,tl q))/\
  ∀p q,bC (E s) p q->cw (ip D) (tl p,tl q)=some (enc (px (holds p q) (dX s.a)) (px (holds p q) (dX s.b))):=by
 have ks:=l4 (iZ D) [] (by simp);have o:∀e,e∈iZ D->e.2=1\/e.2=2:=by
  intro e b;refine ae (bV.1 b) λf g b=>?_;obtain⟨k,_,rfl⟩:=aw.1 b;exact(h.ok f g).mark
 have n:∀k,k∈(ip D).map (·.1)↔∃p q,bC (E s) p q/\k=(tl p,tl q):=by
  intro k;unfold ip;rw[ks.2 k];constructor
  ·rintro(z | z)
   ·simp at z
   ·obtain⟨B,l,rfl⟩:=aw.1 z;refine ae (bV.1 l) λf g b=>?_;obtain⟨k,r,rfl⟩:=aw.1 b;obtain⟨p,q,d,_,_,rfl⟩:=(sG h g).1 r;exact(br p q d rfl)
  ·rintro⟨p,q,d,rfl⟩;right;refine dG (eS h.alike.symm d) λf g x u _ _=>?_;obtain⟨e,b,rfl⟩:=aw.1 g;exact aw.2 (ab ((tl p,tl q),e.mark) (bV.2 (ab e b <| aw.2 (aa ((sG h b).2 (eK p q d x.on u.on rfl)) rfl))) rfl)
 refine(cO ks.1 n <| λp q d=>?_);have v:=rW (tl p,tl q) (iZ D) [] false false o rfl;have a:cw (ip D) (tl p,tl q)≠none:=λz=>Dm.1 z ((n _).2 (br p q d rfl));have cnt:∀m:Int,px (λe:(P3×P3)×Int=>decide (e.1=(tl p,tl q))&&e.2==m) (iZ D)=px (λe:aJ=>e.mark==m&&holds p q (aL e)) D:=by
  intro m;unfold iZ;rw[yt];refine cP λe b=>?_;rw[kT];rw[G_ (k:=(tl p,tl q)) (c:=e.mark==m) (Bg e),qk]
  congr 1
  unfold holds;have:((tl p,tl q)∈gZ D e)↔(On (aL e) p/\On (aL e) q):=by
   rw[sG h b];constructor
   ·rintro⟨A,y,_,j,i,k⟩;have:=cy k;rw[mi this.1,mi this.2];exact⟨j,i⟩
   ·rintro⟨j,i⟩;exact(eK p q d j i rfl)
  simp[this]
 rw[cnt,cnt,(h.px (holds p q) (sP p q)).1,(h.px (holds p q) (sP p q)).2,iQ,iQ]at v;unfold ip at a ⊢;cases t:cw (lr (iZ D) []) (tl p,tl q) with
 | none=>exact absurd t a
 | some w=>
  simp_all
noncomputable def kj(k:P3×P3):P3:=(k.1.1*k.2.2.2+k.2.1*k.1.2.2,k.1.2.1*k.2.2.2+k.2.2.1*k.1.2.2,2*k.1.2.2*k.2.2.2)
def iz(D:List aJ)(k:P3×P3)(a:Int):Int:=if k.1.1*k.2.2.2=k.2.1*k.1.2.2 then xr (cp D (kj k)) a else cp D (kj k)
def dH(D:List aJ):List ((P3×P3)×Int×Int):=(ip D).map λx=>(x.1,iz D x.1 x.2,xr (iz D x.1 x.2) x.2)
theorem KA(p q:At):0<(kj (tl p,tl q)).2.2/\pt (kj (tl p,tl q))=aI p q (1/2):=by
 have w1:=dQ p;have a:=dQ q;have hw:0<(kj (tl p,tl q)).2.2:=by
  unfold kj;dsimp only;exact mO (mO (by decide) w1) a
 refine⟨hw,?_⟩;have c:=AY w1;have b:=AY a;rw[gp]at c b;have e:=eh w1;have d:=eh a;unfold kj pt aI;dsimp only;rw[jT,jT,bO,bO,bO,bO,bO,bO,c.1,c.2,b.1,b.2];rw[show((2:Int):Rat)=2 from rfl];have f:=ff e d;grind
theorem DO(p q:At):(tl p).1*(tl q).2.2=(tl q).1*(tl p).2.2↔p.1=q.1:=by
 have w1:=dQ p;have g:=dQ q;have:=gA (a:=(tl p).1) (b:=(tl p).2.2) (c:=(tl q).1) (d:=(tl q).2.2) (by omega) (by omega);rw[<-this];have f:((tl p).1:Rat)/(tl p).2.2=p.1:=cq Prod.fst (gp p);have e:((tl q).1:Rat)/(tl q).2.2=q.1:=cq Prod.fst (gp q);rw[f,e]
def oL(d:Drawing)(p:Piece):Bool:=odd d (Bq p) (-(p.2.2-p.1.2),p.2.1-p.1.1)
def oR(d:Drawing)(p:Piece):Bool:=odd d (Bq p) (p.2.2-p.1.2,-(p.2.1-p.1.1))
theorem AH(h:Draws D s)(b:bC (E s) p q):iz D (tl p,tl q) (enc (px (holds p q) (dX s.a)) (px (holds p q) (dX s.b)))=enc (oL s.a (p,q)) (oL s.b (p,q))/\
  xr (enc (oL s.a (p,q)) (oL s.b (p,q))) (enc (px (holds p q) (dX s.a)) (px (holds p q) (dX s.b)))=enc (oR s.a (p,q)) (oR s.b (p,q)):=by
 have f:=bq b;have d:=bR f;have k:l_ (dX s.a) p q (oL s.a (p,q)):=lT s.a (λe a=>ir a) (p:=(p,q)) b;have j:l_ (dX s.b) p q (oL s.b (p,q)):=lT s.b (λe a=>iq a) (p:=(p,q)) b;have i:l_ (dX s.a) q p (oR s.a (p,q)):=j6 s.a (λe a=>ir a) (p:=(p,q)) b;have g:l_ (dX s.b) q p (oR s.b (p,q)):=j6 s.b (λe a=>iq a) (p:=(p,q)) b;have m:=Fz (de s.a) d (λe a=>en mI b e (ir a)) k i;have l:=Fz (de s.b) d (λe a=>en mI b e (iq a)) j g;obtain⟨hw,o⟩:=KA p q;have n:=h.above hw;rw[o]at n;constructor
 ·unfold iz;dsimp only;rw[n]
  by_cases c:p.1=q.1
  ·rw[ak ((DO p q).2 c)];have up:p.2<q.2:=by have:=cn.1 f;grind
   rw[nH (de s.a) c up i,nH (de s.b) c up g,nB,<-m,<-l];cases oL s.a (p,q) <;> cases oR s.a (p,q) <;> cases oL s.b (p,q) <;> cases oR s.b (p,q) <;> rfl
  ·rw[ai λz=>c ((DO p q).1 z)];have lt:p.1<q.1:=by have:=cn.1 f;grind
   rw[Gh (de s.a) lt k,Gh (de s.b) lt j]
 ·rw[nB,<-m,<-l];cases oL s.a (p,q) <;> cases oR s.a (p,q) <;> cases oL s.b (p,q) <;> cases oR s.b (p,q) <;> rfl
noncomputable def fS(U:Nat)(m:Int):Bool:=match U with
 | 0=>m==1 || m==3
 | 1=>m==2 || m==3
 | 2=>m==1 || (m==2 || m==3)
 | 3=>m==3
 | 4=>m==1
 | _=>m==1 || m==2
theorem mE:∀U a b,fS U (enc a b)=mixed U a b
 | 0,a,b=>by cases a <;> cases b <;> rfl
 | 1,a,b=>by cases a <;> cases b <;> rfl
 | 2,a,b=>by cases a <;> cases b <;> rfl
 | 3,a,b=>by cases a <;> cases b <;> rfl
 | 4,a,b=>by cases a <;> cases b <;> rfl
 | n+5,a,b=>by cases a <;> cases b <;> rfl
def eZ(U:Nat)(x:(P3×P3)×Int×Int):List (P3×P3):=
 (if (fS U x.2.1&&!fS U x.2.2)=true then [x.1] else [])++(if (fS U x.2.2&&!fS U x.2.1)=true then [(x.1.2,x.1.1)] else [])
def cY(U:Nat)(l:List ((P3×P3)×Int×Int)):List (P3×P3):=l.flatMap (eZ U)
def cU(d:At×At):P3×P3:=(tl d.1,tl d.2)
theorem iY{a b:At×At}(h:cU a=cU b):a=b:=by
 have:=cy h;exact a9 (mi this.1) (mi this.2)
theorem mB(h:Draws D s){x:(P3×P3)×Int×Int}:x∈dH D↔∃p q,bC (E s) p q/\x=((tl p,tl q),enc (oL s.a (p,q)) (oL s.b (p,q)),enc (oR s.a (p,q)) (oR s.b (p,q))):=by
 refine fb (Bf h) λc f b=>?_;unfold dH;rw[aw];constructor
 ·rintro⟨⟨k,g⟩,d,rfl⟩;obtain⟨p,q,a,rfl⟩:=(f k).1 (aw.2 (aa d rfl));have v:=b p q a;rw[(gB c).2 d]at v;have v:=bN v;subst v;have e:=AH h a;refine(br p q a ?_)
  simp_all
 ·rintro⟨p,q,a,rfl⟩;have v:=(gB c).1 (b p q a);have e:=AH h a;refine(aa v ?_)
  simp_all
theorem HZ(U:Nat)(p:Piece):H_ s U p=mixed U (oL s.a p) (oL s.b p):=rfl
theorem GU(U:Nat)(p:Piece):GV s U p=mixed U (oR s.a p) (oR s.b p):=rfl
theorem kL(h:Draws D s){U:Nat}{d:P3×P3}:d∈cY U (dH D)↔∃e,bK s U true e/\d=cU e:=by
 unfold cY;rw[bV];constructor
 ·rintro⟨x,k,hd⟩;obtain⟨p,q,b,rfl⟩:=(mB h).1 k;have a:Jm s U (p,q)∈sided s U:=aM.2 ⟨b,rfl⟩;unfold eZ at hd;dsimp only at hd;rw[mE,mE,<-HZ,<-GU]at hd;rcases cJ.1 hd with hd | hd
  ·split at hd
   ·rename_i c;have:d=(tl p,tl q):=by simpa using hd
    rw[c5,qJ]at c;exact(ab (p,q) (cz a (by show H_ s U (p,q)≠GV s U (p,q);rw[c.1,c.2];decide) <| .inl ⟨c.1,rfl⟩) this)
   ·simp at hd
  ·split at hd
   ·rename_i c;have:d=(tl q,tl p):=by simpa using hd
    rw[c5,qJ]at c;exact(ab (q,p) (cz a (by show H_ s U (p,q)≠GV s U (p,q);rw[c.1,c.2];decide) <| .inr ⟨by show H_ s U (p,q)≠true;rw[c.2];decide,rfl⟩) this)
   ·simp at hd
 ·rintro⟨e,⟨t,a,f,j⟩,rfl⟩;obtain⟨b,g⟩:=aM.1 a;refine(aa ((mB h).2 (br t.p.1 t.p.2 b rfl)) ?_);unfold eZ;dsimp only;rw[mE,mE,<-HZ,<-GU];have i:t.left=H_ s U t.p:=by rw[g];rfl
  have m:t.right=GV s U t.p:=by rw[g];rfl
  rw[i,m]at f;rw[i]at j;have l:((t.p.1,t.p.2):Piece)=t.p:=rfl;rw[l];rcases j with⟨c,rfl⟩ | ⟨c,rfl⟩
  ·have c2:GV s U t.p=false:=by grind
   rw[c,c2];simp[cU]
  ·have c1:H_ s U t.p=false:=by simpa using c
   have c2:GV s U t.p=true:=by grind
   rw[c1,c2];simp[cU]
theorem oj{α β:Type}{f:α->List β}:∀{l:List α},l.Nodup->(∀a,a∈l->(f a).Nodup)->(∀a,a∈l->∀b,b∈l->∀x,x∈f a->x∈f b->a=b)->(l.flatMap f).Nodup
 | [],_,_,_=>List.Pairwise.nil
 | a::l,h,e,g=>by
  have i:=cR.1 h;rw[gv];refine jY.2 (cO (e a (by simp)) (oj i.2 (λb d=>e b (by simp[d])) (λb d c hc=>g b (by simp[d]) c (by simp[hc]))) ?_);grind
theorem wM(h:Draws D s){U:Nat}:(cY U (dH D)).Nodup:=by
 refine fb (Bf h) λt u r=>?_;unfold cY;have j:(dH D).Nodup:=by
  unfold dH;grind
 refine oj j ?_ ?_
 ·intro x i;unfold eZ;split <;> split
  ·simp_all
  ·simp
  ·simp
  ·simp
 ·intro x i y m d hd g;obtain⟨p,q,o,rfl⟩:=(mB h).1 i;obtain⟨l,k,f,rfl⟩:=(mB h).1 m;have c:∀{p q:At} {a b:Int} {d:P3×P3},d∈eZ U ((tl p,tl q),a,b)->d=cU (p,q)\/d=cU (q,p):=by
   intro p q a b d hd;unfold eZ at hd;rcases cJ.1 hd with hd | hd
   ·split at hd
    ·exact .inl (by simpa[cU] using hd)
    ·simp at hd
   ·split at hd
    ·exact .inr (by simpa[cU] using hd)
    ·simp at hd
  have v:=bq o;have n:=bq f;have:p=l/\q=k:=by
   rcases c hd with e | e <;> rcases c g with e' | e'
   ·have:=iY (e.symm.trans e');exact cy this
   ·grind[Prod.mk.inj,iY,bA]
   ·grind[Prod.mk.inj,iY,bA]
   ·have:=cy (iY (e.symm.trans e'));simp_all
  rw[this.1,this.2]
variable{s:Both}{U:Nat}
def rB(x w:At×At):Prop:=cross x.1 x.2 w.2=0/\0<dot (aP x.1 x.2) (aP w.1 w.2)
def cZ(s:Both)(U:Nat)(Y:Bool)(x w:At×At):Prop:=bK s U Y x/\bK s U Y w/\w.1=x.2/\(∀e,bK s U Y e->e.1=x.2->e=w)/\rB x w
def rev(d:At×At):At×At:=(d.2,d.1)
theorem rev_rev(d:At×At):rev (rev d)=d:=rfl
theorem bK.ne(D:bK s U Y d):d.1≠d.2:=D.places.2.2.2.2
theorem cZ.uniq{x a:At×At}(h:cZ s U Y x w)(b:cZ s U Y x a):w=a:=(h.2.2.2.1 a b.2.1 b.2.2.1).symm
theorem mj{x:At×At}(b:x.1≠x.2)(e:w.1=x.2)(h:rB x w):∃k:Rat,0<k/\w.2.1-w.1.1=k*(x.2.1-x.1.1)/\w.2.2-w.1.2=k*(x.2.2-x.1.2):=by
 obtain⟨d,c⟩:=h;obtain⟨t,a⟩:=eT b d;have p:=rY b;refine(a8 (t-1) ?_ ?_ ?_)
 ·have f:dot (aP x.1 x.2) (aP w.1 w.2)=(t-1)*dot (aP x.1 x.2) (aP x.1 x.2):=by
   rw[e,a];unfold dot aP aI;dsimp only;grind
  rw[f]at c;exact fK c p
 ·rw[e,a];unfold aI;dsimp only;grind
 ·rw[e,a];unfold aI;dsimp only;grind
theorem cZ.rev{Y:Bool}{x w:At×At}(h:cZ s U Y x w):cZ s U (!Y) (M.rev w) (M.rev x):=by
 obtain⟨a,hw,e,g,i⟩:=id h;refine aH (mj a.ne e i) λk d c b=>?_;refine⟨hw.rev,a.rev,e.symm,?_,?_,?_⟩
 ·intro f j o;have:=vp (v:=x.2) g j.MH a (o.trans e) rfl;have:f=M.rev x:=by rw[<-this];rfl
  exact this
 ·unfold M.rev cross;dsimp only;rw[e]at c b ⊢;grind
 ·unfold M.rev dot aP;dsimp only;rw[e]at c b ⊢;have p:=rY a.ne;unfold dot aP at p;dsimp only at p;have q:=ff d p;have n:x.2.1-w.2.1=-(k*(x.2.1-x.1.1)):=by rw[<-c];grind
  have m:x.2.2-w.2.2=-(k*(x.2.2-x.1.2)):=by rw[<-b];grind
  have l:(x.2.1-w.2.1)*(x.1.1-x.2.1)+(x.2.2-w.2.2)*(x.1.2-x.2.2)=k*((x.2.1-x.1.1)*(x.2.1-x.1.1)+(x.2.2-x.1.2)*(x.2.2-x.1.2)):=by
   rw[n,m];grind
  rw[l];exact q
theorem cZ.Pn{x:At×At}(h:cZ s U Y x w):pz s U Y x w:=by
 obtain⟨g,hw,e,d,i⟩:=h;refine(oX g hw e ?_)
 by_cases c:d5 (aP x.2 w.2) (aP x.2 x.1)
 ·refine .inl ⟨c,λf a b _=>?_⟩;rw[d f a b];exact jL _
 ·refine .inr ⟨λf a b=>?_,λf a b=>?_⟩
  ·rw[d f a b];exact c
  ·rw[d f a b];exact jL _
def lh(s:Both)(U:Nat)(Y:Bool):At×At->List (At×At)->Prop
 | x,[]=>bK s U Y x
 | x,y::r=>cZ s U Y x y/\lh s U Y y r
def aR:At×At->List (At×At)->At×At
 | x,[]=>x
 | _,y::r=>aR y r
theorem lh.head{x:At×At}{r:List (At×At)}(h:lh s U Y x r):bK s U Y x:=by
 cases r with
 | nil=>exact h
 | cons y r=>exact h.1.1
theorem lh.dir{Y:Bool}:∀{r:List (At×At)} {x:At×At},lh s U Y x r->∀d,d∈x::r->bK s U Y d
 | [],x,h,d,a=>by
  have:d=x:=by simpa using a
  rw[this];exact h
 | y::r,x,h,d,a=>by
  rcases aY.1 a with e | e
  ·rw[e];exact h.1.1
  ·exact lh.dir h.2 d e
theorem gh:∀r x,aR x r∈x::r
 | [],x=>by simp[aR]
 | y::r,x=>cN _ (gh r y)
theorem lst_snoc:∀r x b,aR x (r++[b])=b
 | [],x,b=>rfl
 | y::r,x,b=>lst_snoc r y b
theorem lh.snoc{Y:Bool}:∀{r:List (At×At)} {x b:At×At},lh s U Y x r->cZ s U Y (aR x r) b->lh s U Y x (r++[b])
 | [],x,b,_,g=>⟨g,g.2.1⟩
 | y::r,x,b,h,g=>⟨h.1,lh.snoc h.2 g⟩
theorem lh.rev{Y:Bool}:∀{r:List (At×At)} {x:At×At},lh s U Y x r->∃r',lh s U (!Y) (M.rev (aR x r)) r'/\aR (M.rev (aR x r)) r'=M.rev x/\M.rev (aR x r)::r'=((x::r).map M.rev).reverse
 | [],x,h=>(a8 [] (bK.rev h) rfl rfl)
 | y::r,x,h=>by
  refine aH (lh.rev h.2) λr' c b a=>?_;refine(a8 (r'++[M.rev x]) (c.snoc (by rw[b];exact h.1.rev)) (lst_snoc _ _ _) ?_);show M.rev (aR y r)::(r'++[M.rev x])=_;rw[<-iT,a];simp
theorem lh.end_{Y:Bool}:∀{r:List (At×At)} {x:At×At},lh s U Y x r->∃m:Rat,1<=m/\(aR x r).2=aI x.1 x.2 m
 | [],x,h=>(ab 1 (by grind) <| (hI _ _).symm)
 | y::r,x,h=>by
  refine ae (lh.end_ h.2) λm f d=>?_;refine aH (mj h.1.1.ne h.1.2.2.1 h.1.2.2.2.2) λl c b a=>?_;refine(ab (1+m*l) ?_ ?_)
  ·have:=dA (show 0<=m by grind) (b0 c);grind
  ·show(aR y r).2=_;rw[d];have e:=h.1.2.2.1;unfold aI;refine a9 ?_ ?_
   ·dsimp only;rw[b,e];grind
   ·dsimp only;rw[a,e];grind
theorem lh.sum{Y:Bool}(g:At->Rat):∀{r:List (At×At)} {x:At×At},lh s U Y x r->rs (λd=>g d.2-g d.1) (x::r)=g (aR x r).2-g x.1
 | [],x,h=>by simp only[rs,aR];grind
 | y::r,x,h=>by
  have a:=lh.sum g h.2;have e:rs (λd:At×At=>g d.2-g d.1) (x::y::r)=(g x.2-g x.1)+rs (λd:At×At=>g d.2-g d.1) (y::r):=rfl;rw[e,a,<-h.1.2.2.1];show _=g (aR y r).2-g x.1;grind
theorem lh.f6{Y:Bool}:∀{r:List (At×At)} {x:At×At},lh s U Y x r->M.f6 (x::r)=x.1.1*(aR x r).2.2-(aR x r).2.1*x.1.2
 | [],x,h=>by simp only[M.f6,rs,aR];grind
 | y::r,x,h=>by
  have b:=lh.f6 h.2;refine ae (lh.end_ (r:=y::r) (x:=x) h) λm d a=>?_;have e:M.f6 (x::y::r)=(x.1.1*x.2.2-x.2.1*x.1.2)+M.f6 (y::r):=rfl;rw[e,b];have c:aR x (y::r)=aR y r:=rfl;rw[c]at a ⊢;rw[h.1.2.2.1,a];unfold aI;dsimp only;grind
theorem lh.nodup{Y:Bool}:∀{r:List (At×At)} {x:At×At},lh s U Y x r->(x::r).Nodup/\∀d,d∈r->dot (aP x.1 x.2) x.1<dot (aP x.1 x.2) d.1
 | [],x,h=>⟨by simp,λd c=>by simp at c⟩
 | y::r,x,h=>by
  obtain⟨b,a⟩:=lh.nodup h.2;refine aH (mj h.1.1.ne h.1.2.2.1 h.1.2.2.2.2) λl j i g=>?_;have p:=rY h.1.1.ne;have k:dot (aP x.1 x.2) x.1<dot (aP x.1 x.2) y.1:=by
   rw[h.1.2.2.1];unfold dot aP at *;dsimp only at *;grind
  have all:∀d,d∈y::r->dot (aP x.1 x.2) x.1<dot (aP x.1 x.2) d.1:=by
   intro d c;rcases aY.1 c with e | e
   ·rw[e];exact k
   ·have:=a d e;have f:∀z:At,dot (aP y.1 y.2) z=l*dot (aP x.1 x.2) z:=by
     intro z;unfold dot aP;dsimp only;rw[i,g];grind
    rw[f,f]at this;have:dot (aP x.1 x.2) y.1<dot (aP x.1 x.2) d.1:=by
     refine c4.1 λz=>?_;have:=dA (b0 j) (show 0<=dot (aP x.1 x.2) y.1-dot (aP x.1 x.2) d.1 by grind);grind
    grind
  refine⟨cR.2 ⟨λz=>?_,b⟩,all⟩;have:=all x z;exact absurd this ig
theorem fu{α:Type}[DecidableEq α]:∀{l m:List α},l.Nodup->(∀x,x∈l->x∈m)->l.length<=m.length
 | [],m,_,_=>bZ _
 | a::l,m,h,k=>by
  have c:=cR.1 h;have d:=k a (by simp);have:=fu (l:=l) (m:=m.erase a) c.2 λx b=>(List.mem_erase_of_ne (λe=>c.1 (by rw[<-e];exact b))).2 (k x (by simp[b]));grind
theorem l6(i:∀d,bK s U Y d->d∈l){x:At×At}(h:bK s U Y x):∃r,lh s U Y x r/\(¬∃z,cZ s U Y (aR x r) z):=by
 refine d8 λe=>?_;have b:∀n:Nat,∃r,lh s U Y x r/\r.length=n:=by
  intro n
  induction n with
  | zero=>exact(ab [] h rfl)
  | succ n f=>
   refine ae f λr a c=>?_;have:∃z,cZ s U Y (aR x r) z:=d8 λk=>e (ab r a k);obtain⟨z,g⟩:=this;exact(ab (r++[z]) (a.snoc g) <| by simp[c])
 refine ae (b l.length) λr a c=>?_;have:=fu a.nodup.1 λd j=>i d (a.dir d j);grind
theorem kn{Y:Bool}:∀{r r':List (At×At)} {x:At×At},lh s U Y x r->lh s U Y x r'->(¬∃z,cZ s U Y (aR x r) z)->(¬∃z,cZ s U Y (aR x r') z)->r=r'
 | [],[],x,_,_,_,_=>rfl
 | [],y::r',x,_,a,n,_=>absurd ⟨y,a.1⟩ n
 | y::r,[],x,h,_,_,b=>absurd ⟨y,h.1⟩ b
 | y::r,c::r',x,h,a,n,b=>by
  have:=h.1.uniq a.1;subst this;rw[kn h.2 a.2 n b]
theorem Dv(i:∀d,bK s U Y d->d∈l)(w:bK s U Y d):∃x r,lh s U Y x r/\(¬∃z,cZ s U Y z x)/\(¬∃z,cZ s U Y (aR x r) z)/\d∈x::r:=by
 refine ae (l6 (Y:=!Y) (l:=l.map rev) (λe a=>aw.2 (ab (rev e) (i _ a.MH) rfl)) w.rev) λq v m=>?_;refine aH v.rev λr' b A C=>?_;rw[mS]at b;generalize u:rev (aR (d.2,d.1) q)=x at *;have o:¬∃z,cZ s U Y z x:=by
  rintro⟨z,t⟩;refine m ⟨rev z,?_⟩;have:=t.rev;rw[<-u,rev_rev]at this;exact this
 refine ae (l6 (Y:=Y) i b.head) λr g f=>?_;refine(eK x r g o f ?_);have j:∀{r' r:List (At×At)} {x:At×At},lh s U Y x r'->lh s U Y x r->(¬∃z,cZ s U Y (aR x r) z)->∀e,e∈x::r'->e∈x::r:=by
  intro r'
  induction r' with
  | nil=>intro r x _ _ _ e a;simp_all
  | cons y r' p=>
   intro r x c h n e a;cases r with
   | nil=>exact absurd ⟨y,c.1⟩ n
   | cons B r=>
    have:=c.1.uniq h.1;subst this;rcases aY.1 a with k | k
    ·rw[k];simp
    ·exact cN _ (p c.2 h.2 n e k)
 refine j b g f d ?_;have:d=aR x r':=by rw[A];rfl
 rw[this];exact gh r' x
structure Line(s:Both)(U:Nat)(Y:Bool)(t:At×At)(x:At×At)(r:List (At×At)):Prop where
 mf:lh s U Y x r
 start:¬∃z,cZ s U Y z x
 stop:¬∃z,cZ s U Y (aR x r) z
 eq:t=(x.1,(aR x r).2)
def bH(s:Both)(U:Nat)(Y:Bool)(t:At×At):Prop:=∃x r,Line s U Y t x r
theorem Line.rev{Y:Bool}{t x:At×At}{r:List (At×At)}(h:Line s U Y t x r):bH s U (!Y) (M.rev t):=by
 refine aH h.mf.rev λr' c b d=>?_;refine⟨M.rev (aR x r),r',c,?_,?_,?_⟩
 ·rintro⟨z,a⟩;have:=a.rev;rw[mS,rev_rev]at this;exact h.stop ⟨_,this⟩
 ·rintro⟨z,a⟩;rw[b]at a;have:=a.rev;rw[mS,rev_rev]at this;exact h.start ⟨_,this⟩
 ·rw[b,h.eq];rfl
theorem vJ{t:At×At}:bH s U (!Y) (rev t)↔bH s U Y t:=by
 constructor
 ·rintro⟨x,r,h⟩;have:=h.rev;rw[mS,rev_rev]at this;exact this
 ·rintro⟨x,r,h⟩;exact h.rev
theorem Line.eN{t x:At×At}{r:List (At×At)}(h:Line s U Y t x r):x.1=t.1/\∃m:Rat,0<m/\aP t.1 t.2=(m*(aP x.1 x.2).1,m*(aP x.1 x.2).2):=by
 refine ae h.mf.end_ λm b a=>?_;refine(⟨by rw[h.eq],ab m (by grind) ?_⟩);rw[h.eq,a];unfold aP aI;grind
theorem Line.tY{t x:At×At}{r:List (At×At)}(h:Line s U Y t x r):(aR x r).2=t.2/\∃m:Rat,0<m/\aP t.2 t.1=(m*(aP (aR x r).2 (aR x r).1).1,m*(aP (aR x r).2 (aR x r).1).2):=by
 refine aN h.rev λa r' p=>?_;have k:=p.eN;refine aH h.mf.rev λq n u A=>?_;have w:a=M.rev (aR x r):=by
  have i:a.1=(aR x r).2:=by rw[k.1,h.eq];rfl
  refine ae k.2 λm f g=>?_;refine ae n.end_ λb v c=>?_;rw[u]at c;have z:=p.mf.head;have y:=n.head;rcases yH z y (by show(aR x r).2=a.1;exact i.symm) with o | o | o
  ·exfalso;have w1:aP t.2 t.1=(b*(aP a.1 (M.rev (aR x r)).2).1,b*(aP a.1 (M.rev (aR x r)).2).2):=by
    rw[i,h.eq];show aP (aR x r).2 x.1=_;have:x.1=aI (aR x r).2 (aR x r).1 b:=c;rw[this];unfold aP aI M.rev;grind
   have j:aP t.2 t.1=(m*(aP a.1 a.2).1,m*(aP a.1 a.2).2):=g;have l:=(et (d:=aP a.1 a.2) (d':=aP t.2 t.1) (e:=aP a.1 (M.rev (aR x r)).2) (e':=aP t.2 t.1) f (show 0<b by grind) j w1).1.2 o;exact jL _ l
  ·exact a9 i o
  ·exfalso;have w1:aP t.2 t.1=(b*(aP a.1 (M.rev (aR x r)).2).1,b*(aP a.1 (M.rev (aR x r)).2).2):=by
    rw[i,h.eq];show aP (aR x r).2 x.1=_;have:x.1=aI (aR x r).2 (aR x r).1 b:=c;rw[this];unfold aP aI M.rev;grind
   have j:aP t.2 t.1=(m*(aP a.1 a.2).1,m*(aP a.1 a.2).2):=g;have l:=(et (e:=aP a.1 a.2) (e':=aP t.2 t.1) (d:=aP a.1 (M.rev (aR x r)).2) (d':=aP t.2 t.1) (show 0<b by grind) f w1 j).1.2 o;exact jL _ l
 subst w;refine⟨by rw[h.eq],?_⟩;refine ae k.2 λm f g=>?_;exact(ab m f g)
variable{s:Both}{U:Nat}
def hU(s:Both)(U:Nat)(Y:Bool)(t t':At×At):Prop:=bH s U Y t/\bH s U Y t'/\t'.1=t.2/\
 ((d5 (aP t.2 t'.2) (aP t.2 t.1)/\∀e,bH s U Y e->e.1=t.2->d5 (aP t.2 e.2) (aP t.2 t.1)->¬d5 (aP t.2 t'.2) (aP t.2 e.2))\/((∀e,bH s U Y e->e.1=t.2->¬d5 (aP t.2 e.2) (aP t.2 t.1))/\∀e,bH s U Y e->e.1=t.2->¬d5 (aP t.2 t'.2) (aP t.2 e.2)))
noncomputable def B0(s:Both)(U:Nat)(Y:Bool):List (At×At):=(sided s U).filterMap λt=>if t.left=t.right then none else if t.left=Y then some (t.p.1,t.p.2) else some (t.p.2,t.p.1)
theorem nT:d∈B0 s U Y↔bK s U Y d:=by
 unfold B0 bK;grind
theorem D6:rims s U=B0 s U true:=rfl
theorem Line.starts{t x:At×At}{r:List (At×At)}(h:Line s U Y t x r){f:At×At}(F:bK s U Y f)(e:f.1=t.2):∃u q,Line s U Y u f q:=by
 have c:¬∃z,cZ s U Y z f:=by
  rintro⟨z,a⟩;have g:=h.mf.dir _ (gh r x);have k:(aR x r).2=z.2:=by rw[<-a.2.2.1,e,h.eq]
  have:=vp (v:=z.2) a.2.2.2.1 g a.1 k rfl;exact h.stop ⟨f,by rw[this];exact a⟩
 refine ae (l6 (Y:=Y) (l:=B0 s U Y) (λd j=>nT.2 j) F) λq i b=>?_;exact⟨_,q,i,c,b,rfl⟩
theorem iw{t x:At×At}{r:List (At×At)}(h:Line s U Y t x r){u f:At×At}{q:List (At×At)}(z:Line s U Y u f q)(e:u.1=t.2){g v:At×At}{w:List (At×At)}(j:Line s U Y g v w)(e':g.1=t.2):
  (d5 (aP t.2 u.2) (aP t.2 t.1)↔d5 (aP (aR x r).2 f.2) (aP (aR x r).2 (aR x r).1))/\(d5 (aP t.2 u.2) (aP t.2 g.2)↔d5 (aP (aR x r).2 f.2) (aP (aR x r).2 v.2)):=by
 refine cE h.tY λl b=>ae b λm y o=>?_;refine cE z.eN λp b=>ae b λk n d=>?_;refine cE j.eN λc b=>ae b λA i a=>?_;rw[e]at d p;rw[e']at a c;rw[p,<-l]at d;rw[c,<-l]at a;rw[<-l]at o ⊢;exact⟨(et n y d o).1,(et n i d a).1⟩
theorem jK{t x:At×At}{r:List (At×At)}(h:Line s U Y t x r){u f:At×At}{q:List (At×At)}(c:Line s U Y u f q)(e:u.1=t.2):hU s U Y t u↔pz s U Y (aR x r) f:=by
 have o:=h.mf.dir _ (gh r x);have i:=h.tY.1;have v:=c.eN.1;have a:=iw h c e c e;constructor
 ·rintro⟨_,_,_,n⟩;refine(oX o c.mf.head (by rw[v,e,i]) ?_);rcases n with⟨k,j⟩ | ⟨k,j⟩
  ·refine .inl ⟨a.1.mp k,λg G d m l=>?_⟩;refine aN (h.starts G (by rw[d,i])) λw p hw=>?_;have b:w.1=t.2:=by rw[<-hw.eN.1,d,i]
   exact j w ⟨g,p,hw⟩ b ((iw h hw b hw b).1.2 m) ((iw h c e hw b).2.2 l)
  ·refine .inr ⟨λg G d m=>?_,λg G d l=>?_⟩
   ·refine aN (h.starts G (by rw[d,i])) λw p hw=>?_;have b:w.1=t.2:=by rw[<-hw.eN.1,d,i]
    exact k w ⟨g,p,hw⟩ b ((iw h hw b hw b).1.2 m)
   ·refine aN (h.starts G (by rw[d,i])) λw p hw=>?_;have b:w.1=t.2:=by rw[<-hw.eN.1,d,i]
    exact j w ⟨g,p,hw⟩ b ((iw h c e hw b).2.2 l)
 ·rintro⟨_,_,_,n⟩;refine(oX ⟨x,r,h⟩ ⟨f,q,c⟩ e ?_);have first:∀{w g:At×At} {p:List (At×At)},Line s U Y w g p->w.1=t.2->g.1=(aR x r).2:=λhw b=>by rw[hw.eN.1,b,i]
  rcases n with⟨k,j⟩ | ⟨k,j⟩
  ·refine .inl ⟨a.1.2 k,?_⟩;rintro w ⟨g,p,hw⟩ b m l;exact j g hw.mf.head (first hw b) ((iw h hw b hw b).1.mp m) ((iw h c e hw b).2.mp l)
  ·refine .inr ⟨?_,?_⟩
   ·rintro w ⟨g,p,hw⟩ b m;exact k g hw.mf.head (first hw b) ((iw h hw b hw b).1.mp m)
   ·rintro w ⟨g,p,hw⟩ b l;exact j g hw.mf.head (first hw b) ((iw h c e hw b).2.mp l)
theorem vv{t:At×At}(h:bH s U Y t):∃t',hU s U Y t t':=by
 refine aN h λx r h=>?_;obtain⟨f,N⟩:=nR (h.mf.dir _ (gh r x));have b:=h.tY.1;refine aN (h.starts N.2.1 (by rw[N.2.2.1,b])) λu q a=>?_;exact⟨u,(jK h a (by rw[<-a.eN.1,N.2.2.1,b])).2 N⟩
theorem xB{t x b:At×At}{r:List (At×At)}(h:Line s U Y t x r)(d:Line s U Y t' b r')(e:aR x r=aR b r'):t=t'/\x=b/\r=r':=by
 refine aH h.mf.rev λq i f m=>?_;refine aH d.mf.rev λn c a g=>?_;have st:∀{t x:At×At} {r:List (At×At)},Line s U Y t x r->¬∃z,cZ s U (!Y) (rev x) z:=by
  rintro t x r h ⟨z,j⟩;have:=j.rev;rw[mS,rev_rev]at this;exact h.start ⟨_,this⟩
 rw[<-e]at c a;have l:=kn i c (by rw[f];exact st h) (by rw[a];exact st d);have k:x=b:=by
  have:rev x=rev b:=by rw[<-f,<-a,l]
  have:=cq rev this;exact this
 subst k;exact(cO (by rw[h.eq,d.eq,e]) rfl <| kn h.mf d.mf h.stop d.stop)
theorem Fl{t u:At×At}(N:hU s U Y t u)(c:hU s U Y t' u):t=t':=by
 obtain⟨⟨x,r,h⟩,⟨f,q,a⟩,e,_⟩:=id N;obtain⟨⟨d,r',b⟩,_,e',_⟩:=id c;have:=xo ((jK h a e).1 N) ((jK b a e').1 c);exact(xB h b this).1
theorem vG{t x:At×At}{r:List (At×At)}(h:Line s U Y t x r)(a:Line s U Y t' x r'):t=t'/\r=r':=by
 have:=kn h.mf a.mf h.stop a.stop;subst this;exact⟨h.eq.trans a.eq.symm,rfl⟩
theorem my{t u b:At×At}(N:hU s U Y t u)(d:hU s U Y t b):u=b:=by
 obtain⟨⟨x,r,h⟩,⟨f,q,c⟩,e,_⟩:=id N;obtain⟨_,⟨i,g,a⟩,e',_⟩:=id d;have:=CU ((jK h c e).1 N) ((jK h a e').1 d);subst this;exact(vG c a).1
theorem Ft{t x g:At×At}{r:List (At×At)}(h:Line s U Y t x r)(i:Line s U Y t g r'):x=g/\r=r':=by
 refine cE h.eN λe f=>ae f λm j d=>?_;refine cE i.eN λb f=>ae f λl c a=>?_;have k:x=g:=by
  rcases yH h.mf.head i.mf.head (by rw[e,b]) with o | o | o
  ·exfalso;rw[b]at a;rw[e]at d o;exact jL _ ((et j c d a).1.2 o)
  ·exact a9 (e.trans b.symm) o
  ·exfalso;rw[b]at a;rw[e]at d o;exact jL _ ((et c j a d).1.2 o)
 subst k;exact⟨rfl,(vG h i).2⟩
section
open Classical
noncomputable def Ck (s:Both) (U:Nat) (Y:Bool) (t:At×At):List (At×At):=if h:bH s U Y t then h.choose::h.choose_spec.choose else []
theorem kW{t x:At×At}{r:List (At×At)}(h:Line s U Y t x r):Ck s U Y t=x::r:=by
 have a:bH s U Y t:=⟨x,r,h⟩
 unfold Ck;rw[dif_pos a];have:=Ft a.choose_spec.choose_spec h;exact congr (cq List.cons this.1) this.2
end
theorem CL{Y:Bool}:∀{r:List (At×At)} {x d:At×At},lh s U Y x r->d∈x::r->∃a,lh s U Y d a/\aR d a=aR x r
 | [],x,d,h,b=>by
  grind
 | y::r,x,d,h,b=>by
  rcases aY.1 b with e | e
  ·rw[e];exact(ab (y::r) h rfl)
  ·refine ae (CL h.2 e) λa f c=>?_;exact(ab a f c)
theorem Be{t:At×At}(h:bH s U Y t)(a:bH s U Y t')(g:d∈Ck s U Y t)(c:d∈Ck s U Y t'):t=t':=by
 refine aN h λx r h=>?_;refine aN a λj r' a=>?_;rw[kW h]at g;rw[kW a]at c;refine ae (CL h.mf g) λq i f=>?_;refine ae (CL a.mf c) λk e b=>?_;have:=kn i e (by rw[f];exact h.stop) (by rw[b];exact a.stop);subst this;exact(xB h a (f.symm.trans b)).1
def zH(s:Both)(U:Nat)(Y:Bool):At×At->List (At×At)->Prop
 | _,[]=>True
 | t,u::l=>hU s U Y t u/\zH s U Y u l
structure Jj(s:Both)(U:Nat)(Y:Bool)(t:At×At)(l:List (At×At)):Prop where
 line:bH s U Y t
 F':zH s U Y t l
 back:hU s U Y (aR t l) t
 nodup:(t::l).Nodup
theorem zH.lines{Y:Bool}:∀{l:List (At×At)} {t:At×At},bH s U Y t->zH s U Y t l->∀u,u∈t::l->bH s U Y u
 | [],t,h,_,u,a=>by
  simp_all
 | v::l,t,h,p,u,a=>by
  rcases aY.1 a with e | e
  ·rw[e];exact h
  ·exact zH.lines p.1.2.1 p.2 u e
theorem B'(l m:List (At×At)):f6 (l++m)=f6 l+f6 m:=lU _ _ _
theorem xX{Y:Bool}:∀{l:List (At×At)},(∀t,t∈l->bH s U Y t)->f6 (l.flatMap (Ck s U Y))=f6 l
 | [],_=>rfl
 | t::l,h=>by
  rw[gv,B',xX λu b=>h u (by simp[b])];refine aN (h t (by simp)) λx r a=>?_;rw[kW a,a.mf.f6];show _=(t.1.1*t.2.2-t.2.1*t.1.2)+f6 l;rw[a.eq]
theorem AG{Y:Bool}(g:At->Rat):∀{l:List (At×At)},(∀t,t∈l->bH s U Y t)->rs (λd:At×At=>g d.2-g d.1) (l.flatMap (Ck s U Y))=rs (λd:At×At=>g d.2-g d.1) l
 | [],_=>rfl
 | t::l,h=>by
  rw[gv,lU,AG g λu b=>h u (by simp[b])];refine aN (h t (by simp)) λx r a=>?_;rw[kW a,a.mf.sum];show _=(g t.2-g t.1)+_;rw[a.eq]
theorem zH.sum{Y:Bool}(g:At->Rat):∀{l:List (At×At)} {t:At×At},zH s U Y t l->rs (λd:At×At=>g d.2-g d.1) (t::l)=g (aR t l).2-g t.1
 | [],t,_=>by simp only[rs,aR];grind
 | u::l,t,p=>by
  have a:=zH.sum g p.2;show(g t.2-g t.1)+rs _ (u::l)=g (aR u l).2-g t.1;rw[a,p.1.2.2.1];grind
theorem tW(D:bK s U Y d):∃φ,e7 s U d φ:=by
 obtain⟨_,⟨k,⟨P⟩⟩,_⟩:=D.places;refine cE (D.into P) λ_ a=>aF a λ_ _ _ _ h=>?_;exact⟨_,h⟩
theorem lh.left{Y:Bool}:∀{r:List (At×At)} {x:At×At},lh s U Y x r->∀{φ:Nat},e7 s U x φ->∀d,d∈x::r->∀f,e7 s U d f->dc (JJ s U) f φ
 | [],x,h,φ,c,d,g,f,b=>by
  grind[lX]
 | y::r,x,h,φ,c,d,g,f,b=>by
  rcases aY.1 g with e | e
  ·subst e;exact lX b c
  ·obtain⟨i,a⟩:=tW h.1.2.1;exact(lh.left h.2 a d e f b).trans (vw h.1.Pn c a).symm
theorem zH.left{Y:Bool}:∀{l:List (At×At)} {t:At×At},bH s U Y t->zH s U Y t l->∀{x:At×At} {r:List (At×At)},Line s U Y t x r->∀{φ:Nat},e7 s U x φ->∀d,d∈(t::l).flatMap (Ck s U Y)->∀i,e7 s U d i->dc (JJ s U) i φ
 | [],t,h,p,x,r,g,φ,b,d,hd,i,a=>by
  have hd:d∈Ck s U Y t:=by simpa using hd
  rw[kW g]at hd;exact g.mf.left b d hd i a
 | u::l,t,h,p,x,r,g,φ,b,d,hd,i,a=>by
  rw[gv]at hd;rcases cJ.1 hd with hd | hd
  ·rw[kW g]at hd;exact g.mf.left b d hd i a
  ·obtain⟨_,⟨f,q,k⟩,e,_⟩:=id p.1;obtain⟨n,c⟩:=tW k.mf.head;obtain⟨m,j⟩:=tW (g.mf.dir _ (gh r x));have c1:=zH.left p.1.2.1 p.2 k c d hd i a;have c2:=vw ((jK g k e).1 p.1) j c;have o:=g.mf.left b _ (gh r x) m j;exact c1.trans (c2.symm.trans o)
theorem Jj.loop{t:At×At}(C:Jj s U Y t l):∃φ,Loop s U Y ((t::l).flatMap (Ck s U Y)) φ:=by
 refine aN C.line λx r h=>?_;obtain⟨φ,c⟩:=tW h.mf.head;have b:=C.F'.lines C.line;have k:∀d,d∈(t::l).flatMap (Ck s U Y)->bK s U Y d:=by
  intro d a;refine ae (bV.1 a) λu f a=>?_;refine aN (b u f) λy q e=>?_;rw[kW e]at a;exact e.mf.dir d a
 refine⟨φ,oj C.nodup ?_ ?_,?_,k,C.F'.left C.line h c,x,?_,c⟩
 ·intro u f;refine aN (b u f) λy q e=>?_;rw[kW e];exact e.mf.nodup.1
 ·intro u f v j d a i;exact Be (b u f) (b v j) a i
 ·intro g;rw[AG g b,C.F'.sum g,C.back.2.2.1];grind
 ·refine bV.2 (ab t (by simp) ?_);rw[kW h];simp
structure pV(s:Both)(U:Nat)(Y:Bool)(R:List ((At×At)×List (At×At))):Prop where
 Ob:∀c,c∈R->Jj s U Y c.1 c.2
 apart:R.Pairwise λc d=>∀t,t∈c.1::c.2->t∉d.1::d.2
 all:∀t,bH s U Y t->∃c,c∈R/\t∈c.1::c.2
def dI(c:(At×At)×List (At×At)):Bool:=decide (0<f6 (c.1::c.2))
theorem pV.count{R:List ((At×At)×List (At×At))}(H:pV s U Y R):∃L:List Lp,Loops s U Y L/\(L.filter gO).length=(R.filter dI).length:=by
 have m:∀R:List ((At×At)×List (At×At)),(∀c,c∈R->Jj s U Y c.1 c.2)->∃L:List Lp,L.map (·.1)=R.map (λc=>(c.1::c.2).flatMap (Ck s U Y))/\∀l,l∈L->Loop s U Y l.1 l.2:=by
  intro R
  induction R with
  | nil=>intro _;exact(ab [] rfl <| λl o=>by simp at o)
  | cons c R n=>
   intro h;refine ae (n λd g=>h d (by simp[g])) λL N M=>?_;obtain⟨φ,v⟩:=(h c (by simp)).loop;refine(ab (((c.1::c.2).flatMap (Ck s U Y),φ)::L) (by rw[bw,bw,N]) <| λl o=>?_);rcases aY.1 o with e | e
   ·rw[e];exact v
   ·exact M l e
 refine ae (m R H.Ob) λL K j=>?_;have f:L.map (·.1)=R.map (λc=>(c.1::c.2).flatMap (Ck s U Y)):=K;refine(ab L ⟨j,?_,?_⟩ ?_)
 ·have z:(R.map (λc=>(c.1::c.2).flatMap (Ck s U Y))).Pairwise λa b=>∀d,d∈a->d∉b:=by
   rw[lM];refine kE ?_ H.apart;intro c B hc q k d g i;refine ae (bV.1 g) λu A g=>?_;refine ae (bV.1 i) λC p i=>?_;have E:=(H.Ob c hc).F'.lines (H.Ob c hc).line u A;have t:=(H.Ob B q).F'.lines (H.Ob B q).line C p;have:=Be E t g i;subst this;exact k u A p
  rw[<-f,lM]at z;exact z
 ·intro d D;refine e_ (Dv (Y:=Y) (l:=B0 s U Y) (λd g=>nT.2 g) D) λx r I G F k4=>?_;have o:Line s U Y (x.1,(aR x r).2) x r:=⟨I,G,F,rfl⟩
  refine ae (H.all _ ⟨x,r,o⟩) λc hc J=>?_;have:(c.1::c.2).flatMap (Ck s U Y)∈L.map (·.1):=by rw[f];exact aw.2 (ab c hc rfl)
  refine ae (aw.1 this) λl w O=>?_;refine(ab l w ?_);rw[O];exact bV.2 (aa J <| by rw[kW o];exact k4)
 ·have cnt:∀(L:List Lp) (R:List ((At×At)×List (At×At))),(∀c,c∈R->Jj s U Y c.1 c.2)->L.map (·.1)=R.map (λc=>(c.1::c.2).flatMap (Ck s U Y))->(L.filter gO).length=(R.filter dI).length:=by
   intro L
   induction L with
   | nil=>simp_all
   | cons l L n=>
    intro R y e;cases R with
    | nil=>simp at e
    | cons c R=>
     rw[bw,bw,List.cons.injEq]at e;have n:=n R (λd g=>y d (by simp[g])) e.2;have P:gO l=dI c:=by
      unfold gO dI;rw[e.1,xX ((y c (by simp)).F'.lines (y c (by simp)).line)]
     rw[h9,h9,P];split
     ·simp[n]
     ·exact n
  exact cnt L R H.Ob f
theorem pV.inside{R:List ((At×At)×List (At×At))}(H:pV s U true R):(counted s U).1=(R.filter dI).length:=by
 refine ae H.count λL b a=>?_;rw[b.inside,a]
theorem pV.outside{R:List ((At×At)×List (At×At))}(H:pV s U false R):(counted s U).2=(R.filter dI).length+1:=by
 refine ae H.count λL b a=>?_;rw[b.outside,a]
variable{D:List aJ}{s:Both}{U:Nat}
def jv(D:List aJ)(v:At):Prop:=v≠(0,0)/\∃e,e∈D/\∃k:Rat,v=(k*(e.dx:Rat),k*(e.dy:Rat))
theorem A8(h:Draws D s)(i:bC (E s) p q):jv D (aP p q)/\jv D (aP q p):=by
 have a:=bR (bq i);refine dG (eS h.alike.symm i) λf r u t _ _=>?_;obtain⟨e,b,rfl⟩:=aw.1 r;refine aH (along u.on t.on a) λk v g d=>?_;have c:=h.ok e b;have l:((e.dx:Int):Rat)=(aL e).2.1-(aL e).1.1:=by rw[c.dx,dn];rfl
 have j:((e.dy:Int):Rat)=(aL e).2.2-(aL e).1.2:=by rw[c.dy,dn];rfl
 have o:1/k*k=1:=by grind
 have n:aP p q≠(0,0):=λz=>a (by
  have:=cy z;grind)
 have m:aP q p≠(0,0):=λz=>a (by
  have:=cy z;grind)
 refine⟨(⟨n,ab e b ⟨1/k,?_⟩⟩),(⟨m,ab e b ⟨-(1/k),?_⟩⟩)⟩
 ·rw[l,j,g,d];unfold aP;grind
 ·rw[l,j,g,d];unfold aP;grind
theorem bK.along(h:Draws D s)(b:bK s U Y d):jv D (aP d.1 d.2)/\jv D (aP d.2 d.1):=by
 refine aH b λt a _ k=>?_;have:=A8 h (aM.1 a).1;rcases k with⟨_,rfl⟩ | ⟨_,rfl⟩
 ·exact this
 simp_all
theorem jv.scale(h:jv D v)(f:m≠0):jv D (m*v.1,m*v.2):=by
 refine cE h λb a=>ae a λe d a=>aA a λk c=>?_;refine(⟨λz=>b ?_,ab e d ⟨m*k,?_⟩⟩)
 ·grind
 ·rw[c];grind
theorem bH.along(h:Draws D s){Y:Bool}{t:At×At}(a:bH s U Y t):jv D (aP t.1 t.2)/\jv D (aP t.2 t.1):=by
 refine aN a λx r a=>?_;refine cE a.eN λl b=>ae b λm i e=>?_;refine cE a.tY λk b=>ae b λj d c=>?_;have g:=(bK.along h a.mf.head).1;have f:=(bK.along h (a.mf.dir _ (gh r x))).2;refine⟨?_,?_⟩
 ·rw[e];exact g.scale (by grind)
 ·rw[c];exact f.scale (by grind)
theorem jv.DZ(h:Draws D s)(a:jv D v){X Y:Int}{c:Rat}(hc:0<c)(e:iv X Y=(c*v.1,c*v.2)):mG X Y:=by
 refine cE a λx j=>ae j λf C j=>aA j λk p=>?_;have m:=h.ok f C;have r:(X:Rat)=c*v.1:=(cy e).1;have q:(Y:Rat)=c*v.2:=(cy e).2;have l:v.1=k*(f.dx:Rat):=cq Prod.fst p;have u:v.2=k*(f.dy:Rat):=cq Prod.snd p;have t:X=0↔v.1=0:=(jI (n:=X) (w:=c) (c:=v.1) hc r).1;have y:Y=0↔v.2=0:=(jI (n:=Y) (w:=c) (c:=v.2) hc q).1
 by_cases i:X=0
 ·refine .inl ⟨i,λy0=>x ?_⟩;exact a9 (t.mp i) (y.mp y0)
 ·refine .inr ⟨i,?_⟩;have d:v.1≠0:=λz=>i (t.2 z);have A:k≠0:=λz=>d (by rw[l,z];grind);have g:f.dx≠0:=λz=>d (by simp_all);have B:=Eu g;have E:-32768<=f.dx/\f.dx<=32768:=by have:=m.dx;have:=m.ax;have:=m.bx;omega
  have sl:(Y:Rat)/X=(f.dy:Rat)/f.dx:=by
   rw[r,q,l,u];generalize (f.dx:Rat)=a at *;generalize (f.dy:Rat)=b at *;clear r q l u d p x e;grind
  rcases lJ f.dx 0 with o | o | o
  ·refine(aO (-f.dy) (-f.dx) (by omega) (by omega) ?_);rw[sl];refine(gA g (by omega)).2 ?_;grind
  ·exact absurd o g
  ·exact(aO f.dy f.dx o (by omega) sl)
theorem oh(h:Draws D s){b:At}(q:jv D (aP z a))(p:jv D (aP z b)):(lexLt (bQ (tl z) (tl a)) (bQ (tl z) (tl b))↔d5 (aP z a) (aP z b))/\
  (bQ (tl z) (tl a)=bQ (tl z) (tl b)↔(cls (aP z a)=cls (aP z b)/\(aP z a).2/(aP z a).1=(aP z b).2/(aP z b).1)):=by
 have d:=dQ z;have l:=dQ a;have k:=dQ b;have f:=n_ d l;have e:=n_ d k;rw[gp,gp]at f e;have i:=ff (eh d) (eh l);have g:=ff (eh d) (eh k);have o:=q.DZ h i f;have n:=p.DZ h g e;have m:=zm o n;have j:=et i g f e;have c:=et g i e f;unfold bQ;rw[m.1,m.2,j.1,j.2.1,j.2.2,c.2.1,c.2.2]
 simp_all
theorem BI(z a:At):∃c:Rat,0<c/\iv ((tl a).1*(tl z).2.2-(tl z).1*(tl a).2.2) ((tl a).2.1*(tl z).2.2-(tl z).2.1*(tl a).2.2)=(c*(aP z a).1,c*(aP z a).2):=by
 have b:=n_ (dQ z) (dQ a);rw[gp,gp]at b;exact(aa (ff (eh (dQ z)) (eh (dQ a))) b)
theorem Ky(h:Draws D s){b:At}(y:jv D (aP a z))(x:jv D (aP z b)):bQ (tl a) (tl z)=bQ (tl z) (tl b)↔rB (a,z) (z,b):=by
 refine ae (BI a z) λc1 j o=>?_;refine ae (BI z b) λc2 i n=>?_;have E:=y.DZ h j o;have g:=x.DZ h i n;have M:=zm E g;have B:=et j i o n;have A:=et i j n o;unfold bQ;rw[M.2,B.2.1,B.2.2,A.2.1,A.2.2];have G:=y.1;have F:=x.1;unfold rB cross dot;dsimp only;have K:(aP a z).1=z.1-a.1:=rfl;have J:(aP a z).2=z.2-a.2:=rfl;have I:(aP z b).1=b.1-z.1:=rfl;have H:(aP z b).2=b.2-z.2:=rfl;have L:(z.1-a.1)*(b.2-a.2)-(z.2-a.2)*(b.1-a.1)=(aP a z).1*(aP z b).2-(aP a z).2*(aP z b).1:=by rw[K,J,I,H];grind
 rw[L];generalize aP a z=u at *;generalize aP z b=v at *;clear L K J I H o n B A M E g y x;obtain⟨f,c⟩:=u;obtain⟨w1,d⟩:=v;dsimp only at *;have t:∀{p q:Rat},((p,q):At)≠(0,0)->p=0->q≠0:=λh e z=>h (by rw[e,z])
 by_cases l:f=0 <;> by_cases w:w1=0
 ·subst l;subst w;have N:=t G rfl;have C:=t F rfl;rw[F7,F7];unfold cls;dsimp only;rw[ak rfl,ak rfl];rcases(show c<0\/0<c by grind) with a | a <;> rcases(show d<0\/0<d by grind) with b | b
  ·have:=wK a b;grind
  ·have:=F_ a b;grind
  ·have:=Em a b;grind
  ·have:=ff a b;grind
 ·subst l;have N:=t G rfl;constructor
  ·rintro⟨k,_⟩;exfalso;unfold cls at k;grind
  grind
 ·subst w;have C:=t F rfl;constructor
  ·rintro⟨k,_⟩;exfalso;unfold cls at k;grind
  ·rintro⟨k,_⟩;exfalso;exact l (cg (a:=f) (b:=d) (by grind) C)
 ·have sl:(c/f=d/w1)↔f*d-c*w1=0:=by
   grind
  rw[sl];unfold cls;dsimp only;rw[ai l,ai w];have para:f*d-c*w1=0->c*d*(f*f)=c*c*(f*w1):=by intro k;grind
  have r:=sq_pos l;have g:=Gv c;rcases(show f<0\/0<f by grind) with a | a <;> rcases(show w1<0\/0<w1 by grind) with b | b
  ·have m:=wK a b;rw[ak a,ak b];constructor
   ·rintro⟨_,k⟩;refine⟨k,?_⟩;have p:=para k;have q:=dA g (b0 m);rw[<-p]at q;have:0<=c*d:=by
     refine bM.1 λz=>?_;have:=F_ z r;grind
    grind
   simp_all
  ·have m:=F_ a b;rw[ak a,ai (by grind)];constructor
   ·simp_all
   ·rintro⟨k,O⟩;exfalso;have p:=para k;have q:=sF g (b0 m);rw[<-p]at q;have:c*d<=0:=by
     refine bM.1 λz=>?_;have:=ff z r;grind
    grind
  ·have m:=Em a b;rw[ai (by grind),ak b];constructor
   ·simp_all
   ·rintro⟨k,O⟩;exfalso;have p:=para k;have q:=sF g (b0 m);rw[<-p]at q;have:c*d<=0:=by
     refine bM.1 λz=>?_;have:=ff z r;grind
    grind
  ·have m:=ff a b;rw[ai (by grind),ai (by grind)];constructor
   ·rintro⟨_,k⟩;refine⟨k,?_⟩;have p:=para k;have q:=dA g (b0 m);rw[<-p]at q;have:0<=c*d:=by
     refine bM.1 λz=>?_;have:=F_ z r;grind
    grind
   simp_all
noncomputable def dt(B:List (P3×P3))(v:P3):List P3:=(B.filter λd=>decide (d.1=v)).map (·.2)
noncomputable def ins(B:List (P3×P3))(v:P3):List P3:=(B.filter λd=>decide (d.2=v)).map (·.1)
def jq(B:List (P3×P3))(v:P3):Bool:=if 1<(dt B v).length then false else decide (bQ ((ins B v).headD (0,0,1)) v=bQ v ((dt B v).headD (0,0,1)))
structure Cn(B:List (P3×P3))(s:Both)(U:Nat)(Y:Bool):Prop where
 nodup:B.Nodup
 mem:∀d,d∈B↔∃e,bK s U Y e/\d=cU e
theorem B8(h:Draws D s):Cn (cY U (dH D)) s U true:=⟨wM h,λd=>kL h⟩
theorem Cn.eD(H:Cn B s U Y){p:P3}:p∈dt B (tl z)↔∃a,bK s U Y (z,a)/\p=tl a:=by
 unfold dt;rw[aw];constructor
 ·rintro⟨d,b,rfl⟩;obtain⟨b,e⟩:=bh.1 b;obtain⟨f,F,rfl⟩:=(H.mem d).1 b;have:f.1=z:=mi (b_ e);exact(ab f.2 (by rw[<-this];exact F) rfl)
 ·rintro⟨a,F,rfl⟩;exact(ab (cU (z,a)) (bh.2 ⟨(H.mem _).2 (aa F rfl),bE rfl⟩) rfl)
theorem Cn.yR(H:Cn B s U Y){p:P3}:p∈ins B (tl z)↔∃a,bK s U Y (a,z)/\p=tl a:=by
 unfold ins;rw[aw];constructor
 ·rintro⟨d,b,rfl⟩;obtain⟨b,e⟩:=bh.1 b;obtain⟨f,F,rfl⟩:=(H.mem d).1 b;have:f.2=z:=mi (b_ e);exact(ab f.1 (by rw[<-this];exact F) rfl)
 ·rintro⟨a,F,rfl⟩;exact(ab (cU (a,z)) (bh.2 ⟨(H.mem _).2 (aa F rfl),bE rfl⟩) rfl)
theorem Cn.vn(H:Cn B s U Y)(v:P3):(dt B v).Nodup:=by
 unfold dt;refine g_ (H.nodup.sublist jA) λa d b c e=>?_;grind
theorem BK(h:Draws D s)(H:Cn B s U Y)(M:(∃a,bK s U Y (z,a))\/∃a,bK s U Y (a,z)):jq B (tl z)=true↔∃x w,cZ s U Y x w/\x.2=z:=by
 have d:∃a,bK s U Y (z,a):=by
  grind[xk]
 have o:∃a,bK s U Y (a,z):=by
  grind[xI]
 obtain⟨a,f⟩:=d;obtain⟨b,q⟩:=o;have J:=H.eD.2 (ab a f rfl);have I:=H.yR.2 (ab b q rfl);have n:=H.vn (tl z);unfold jq;cases d:dt B (tl z) with
 | nil=>simp_all
 | cons i l=>
  cases l with
  | cons E l=>
   rw[ak (by simp)];constructor
   ·intro z;cases z
   ·rintro⟨x,w,g,rfl⟩;exfalso;rw[d]at n;refine ae (H.eD.1 (show i∈dt B (tl x.2) by rw[d];simp)) λc1 G A=>?_;refine ae (H.eD.1 (show E∈dt B (tl x.2) by rw[d];simp)) λc2 F y=>?_;have L:=g.2.2.2.1 _ G rfl;have K:=g.2.2.2.1 _ F rfl;grind
  | nil=>
   rw[ai (by simp)];have u:i=tl a:=by simp_all
   have only:∀e,bK s U Y e->e.1=z->e=(z,a):=by
    intro e E' p;have:=H.eD.2 (ab e.2 (by rw[<-p];exact E':bK s U Y (z,e.2)) rfl);grind[Prod.ext,mi]
   cases r:ins B (tl z) with
   | nil=>simp_all
   | cons m l=>
    refine ae (H.yR.1 (show m∈ins B (tl z) by rw[r];simp)) λc C t=>?_;rw[jZ];show bQ m (tl z)=bQ (tl z) i↔_;rw[u,t,Ky h (bK.along h C).1 (bK.along h f).1];constructor
    ·intro k;exact(br (c,z) (z,a) ⟨C,f,rfl,only,k⟩ rfl)
    ·rintro⟨x,w,g,j⟩;have A:w=(z,a):=only w g.2.1 (g.2.2.1.trans j);have y:x=(c,z):=vp (v:=z) only g.1 C j rfl;have:=g.2.2.2.2
     simp_all
theorem FJ(H:Cn B s U Y){x:At×At}(g:cZ s U Y x w):(dt B (tl x.2)).headD (0,0,1)=tl w.2/\dt B (tl x.2)=[tl w.2]:=by
 have c:=H.vn (tl x.2);have m:=H.eD.2 (ab w.2 (by rw[<-g.2.2.1];exact g.2.1:bK s U Y (x.2,w.2)) rfl);have all:∀p,p∈dt B (tl x.2)->p=tl w.2:=by
  intro p d;obtain⟨a,A,rfl⟩:=H.eD.1 d;have:=g.2.2.2.1 _ A rfl;rw[<-this]
 have e:dt B (tl x.2)=[tl w.2]:=by
  cases f:dt B (tl x.2) with
  | nil=>simp_all
  | cons a l=>
   rw[f]at all c;have h:=all a (by simp);cases l with
   | nil=>rw[h]
   | cons b l=>
    have i:=all b (by simp);grind
 simp_all
theorem fo:d∈rims s U↔bK s U true d:=by rw[D6];exact nT
theorem pF:(rims s U).Nodup:=by
 rw[D6];unfold B0;have m:=tq s U;have i:∀l:List Sided,l.Nodup->(∀t,t∈l->t∈sided s U)->(l.filterMap λt=>if t.left=t.right then none else if t.left=true then some (t.p.1,t.p.2) else some (t.p.2,t.p.1)).Nodup:=by
  intro l
  induction l with
  | nil=>simp_all
  | cons a l f=>
   intro h j;have o:=cR.1 h;have f:=f o.2 λt b=>j t (by simp[b]);rw[qU];have g:∀d,ku s U d a->d∉l.filterMap λt=>if t.left=t.right then none else if t.left=true then some (t.p.1,t.p.2) else some (t.p.2,t.p.1):=by
    intro d n k;refine ae (lO.1 k) λt b e=>?_;have c:ku s U d t:=by
     refine⟨j t (by simp[b]),?_⟩;split at e
     ·cases e
     ·split at e
      ·simp_all
      simp_all
    have:t=a:=by
     refine d8 λz=>?_;have h0:=i_ n c.1 z;rcases j7 c with⟨_,e⟩ | ⟨_,e⟩
     ·rw[e]at h0;grind
     grind
    simp_all
   split
   ·exact f
   ·rename_i d k;refine cR.2 ⟨g d ⟨j a (by simp),?_⟩,f⟩;grind
 exact i _ m λt b=>b
theorem AA[DecidableEq α]{l:List α}{a b:α}(g:l.Nodup)(h:a∈l)(j:b∈l)(e:a≠b)(all:∀c,c∈l->c=a\/c=b):l=[a,b]\/l=[b,a]:=by
 cases l with
 | nil=>simp at h
 | cons c l=>
  cases l with
  | nil=>
   grind
  | cons d l=>
   cases l with
   | nil=>
    grind
   | cons f l=>
    exfalso;have:=fu (l:=c::d::f::l) (m:=[a,b]) g λx i=>by
     grind
    simp at this
theorem j_{x:At×At}(i:bK s U true x):onward (rims s U) x=some w↔cZ s U true x w:=by
 have d:∀y,y∈(rims s U).filter (λy=>y.1==x.2 || y.2==x.2)↔bK s U true y/\(y.1=x.2\/y.2=x.2):=by
  intro y;rw[bh,fo,qA,gu,gu]
 have o:((rims s U).filter (λy=>y.1==x.2 || y.2==x.2)).Nodup:=pF.sublist jA;have a:=(d x).2 ⟨i,.inr rfl⟩;constructor
 ·intro h;unfold onward at h;split at h
  ·rename_i y z m;rw[m]at d a o;have l:y≠z:=by simp_all
   generalize n:(if y=x then z else y)=j at h;dsimp only at h;split at h
   ·rename_i c;have f:j=w:=bN h;subst f;have q:j∈[y,z]:=by rw[<-n];split <;> simp
    have hw:=(d j).1 q;refine⟨i,hw.1,c.1,?_,c.2.1,c.2.2⟩;intro e E' p;have:=(d e).2 ⟨E',.inl p⟩;have b:e≠x:=λk=>E'.ne (by rw[p,k]);grind
   ·cases h
  ·cases h
 ·intro g;have b:x≠w:=λk=>i.ne (by rw[<-g.2.2.1,<-k]);have all:∀c,c∈(rims s U).filter (λy=>y.1==x.2 || y.2==x.2)->c=x\/c=w:=by
   intro c hc;obtain⟨C,k⟩:=(d c).1 hc;rcases k with k | k
   ·exact .inr (g.2.2.2.1 c C k)
   ·exact .inl (vp (v:=x.2) g.2.2.2.1 C i k rfl)
  have two:=AA o a ((d w).2 ⟨g.2.1,.inl g.2.2.1⟩) b all;unfold onward;rcases two with e | e
  ·rw[e];have f:(if x=x then w else x)=w:=ak rfl;show(if (if x=x then w else x).1=x.2/\cross x.1 x.2 (if x=x then w else x).2=0/\0<(x.2.1-x.1.1)*((if x=x then w else x).2.1-(if x=x then w else x).1.1)+(x.2.2-x.1.2)*((if x=x then w else x).2.2-(if x=x then w else x).1.2) then some (if x=x then w else x) else none)=some w;rw[f];exact ak (cO g.2.2.1 g.2.2.2.2.1 g.2.2.2.2.2)
  ·rw[e];have f:(if w=x then x else w)=w:=ai (λk=>b k.symm);show(if (if w=x then x else w).1=x.2/\cross x.1 x.2 (if w=x then x else w).2=0/\0<(x.2.1-x.1.1)*((if w=x then x else w).2.1-(if w=x then x else w).1.1)+(x.2.2-x.1.2)*((if w=x then x else w).2.2-(if w=x then x else w).1.2) then some (if w=x then x else w) else none)=some w;rw[f];exact ak (cO g.2.2.1 g.2.2.2.2.1 g.2.2.2.2.2)
theorem Bi{x:At×At}(a:bK s U true x):onward (rims s U) x=none↔¬∃w,cZ s U true x w:=by
 cases h:onward (rims s U) x with
 | none=>
  simp only[true_iff];rintro⟨w,hw⟩;rw[(j_ a).2 hw]at h;cases h
 | some w=>
  simp only[reduceCtorEq,false_iff,Classical.not_not];exact⟨w,(j_ a).1 h⟩
theorem kO:∀(f:Nat) {x:At×At} {r:List (At×At)},lh s U true x r->(¬∃z,cZ s U true (aR x r) z)->r.length<=f->farthest (rims s U) f x=(aR x r).2
 | 0,x,r,h,n,a=>by
  cases r with
  | nil=>rfl
  | cons y r=>simp at a
 | f+1,x,r,h,n,a=>by
  unfold farthest;cases r with
  | nil=>
   rw[(Bi h.head).2 n];rfl
  | cons y r=>
   rw[(j_ h.head).2 h.1];exact kO f h.2 n (by simpa using a)
def pT(s:Both)(U:Nat)(x:At×At):Bool:=!((rims s U).filterMap (onward (rims s U))).contains x
theorem pS{x:At×At}(b:bK s U true x):pT s U x=true↔¬∃z,cZ s U true z x:=by
 unfold pT;rw[qJ,<-Bool.not_eq_true,List.contains_iff_mem,lO];constructor
 ·rintro h ⟨z,a⟩;exact h (ab z (fo.2 a.1) <| (j_ a.1).2 a)
 ·rintro h ⟨z,a,k⟩;exact h ⟨z,(j_ (fo.1 a)).1 k⟩
theorem jD:Ql55.stretches s U=(((rims s U).filter (pT s U)).map λx=>(x.1,farthest (rims s U) (rims s U).length x)).mergeSort gV:=rfl
theorem eo{t:At×At}:t∈Ql55.stretches s U↔bH s U true t:=by
 rw[jD,qQ,aw];have Oa:∀{x:At×At} {r:List (At×At)},lh s U true x r->(¬∃z,cZ s U true (aR x r) z)->farthest (rims s U) (rims s U).length x=(aR x r).2:=by
  intro x r h n;refine kO _ h n ?_;have:=fu h.nodup.1 λd b=>fo.2 (h.dir d b);grind
 constructor
 ·rintro⟨x,a,rfl⟩;obtain⟨a,f⟩:=bh.1 a;have D:=fo.1 a;refine ae (l6 (Y:=true) (λd b=>fo.2 b) D) λr e c=>?_;exact⟨x,r,e,(pS D).1 f,c,by rw[Oa e c]⟩
 ·rintro⟨x,r,h⟩;refine(ab x (bh.2 ⟨fo.2 h.mf.head,(pS h.mf.head).2 h.start⟩) ?_);rw[Oa h.mf h.stop,h.eq]
variable{D:List aJ}{s:Both}{U:Nat}
def Ro(d:P3×P3):At×At:=(pt d.1,pt d.2)
theorem tN(t:At×At):Ro (cU t)=t:=a9 (gp _) (gp _)
def wL(s:Both)(U:Nat)(d:P3×P3):P3:=tl (farthest (rims s U) (rims s U).length (Ro d))
def pM(s:Both)(U:Nat)(B:List (P3×P3)):List (P3×P3):=(B.filter λd=>!jq B d.1).map λd=>(d.1,wL s U d)
theorem Cn.perm(H:Cn B s U true):B.Perm ((rims s U).map cU):=by
 refine(uP H.nodup (g_ pF λa _ b _ e=>iY e)).2 λd=>?_;rw[H.mem,aw];constructor
 ·rintro⟨e,E',rfl⟩;exact(ab e (fo.2 E') rfl)
 ·rintro⟨e,c,rfl⟩;exact(ab e (fo.1 c) rfl)
theorem BL(h:Draws D s)(H:Cn B s U true){x:At×At}(d:bK s U true x):(!jq B (tl x.1))=pT s U x:=by
 have a:=BK h H (z:=x.1) (.inl ⟨x.2,d⟩);have b:=pS d;have c:(∃y w,cZ s U true y w/\y.2=x.1)↔∃z,cZ s U true z x:=by
  constructor
  ·rintro⟨y,w,g,e⟩;have:=g.2.2.2.1 x d e.symm;exact⟨y,by rw[this];exact g⟩
  ·rintro⟨z,g⟩;exact(br z x g g.2.2.1.symm)
 rw[c]at a;cases i:jq B (tl x.1) <;> cases f:pT s U x
 ·grind
 ·rfl
 ·rfl
 ·rw[i]at a;rw[f]at b;simp only[true_iff]at a b;exact absurd a b
theorem Di(h:Draws D s)(H:Cn B s U true):(pM s U B).Perm ((Ql55.stretches s U).map cU):=by
 have e:(pM s U B).Perm ((((rims s U).map cU).filter λd=>!jq B d.1).map λd=>(d.1,wL s U d)):=(H.perm.filter _).map _;have c:((Ql55.stretches s U).map cU).Perm ((((rims s U).filter (pT s U)).map λx=>(x.1,farthest (rims s U) (rims s U).length x)).map cU):=by
  rw[jD];exact(zO _ _).map _
 refine e.trans (List.Perm.trans (List.Perm.of_eq ?_) c.symm);rw[ue,h7,h7];have b:(rims s U).filter ((λd=>!jq B d.1)∘cU)=(rims s U).filter (pT s U):=by
  refine qL λx a=>?_;exact BL h H (fo.1 a)
 rw[b];refine qV λx a=>?_;show((cU x).1,wL s U (cU x))=cU (x.1,farthest _ _ x);unfold wL;rw[tN];rfl
def C9(t u:P3×P3):Prop:=lexLt (place t.1) (place u.1)\/(place t.1=place u.1/\lexLt (place t.2) (place u.2))
theorem xQ(h:Draws D s)(i:bK s U Y d):jn (tl d.1)/\jn (tl d.2):=by
 refine aH i λt a _ k=>?_;have b:=eS h.alike.symm (aM.1 a).1;have KX:∀{z:At},(∃e,e∈D.map aL/\Cut (D.map aL) e z)->jn (tl z):=by
  rintro z ⟨e,g,hc⟩;obtain⟨f,c,rfl⟩:=aw.1 g;exact oP h c hc
 have:=gq b;rcases k with⟨_,rfl⟩ | ⟨_,rfl⟩
 ·exact⟨KX this.1,KX this.2⟩
 ·exact⟨KX this.2,KX this.1⟩
theorem vF(h:Draws D s){t:At×At}(a:bH s U Y t):jn (tl t.1)/\jn (tl t.2):=by
 refine aN a λx r a=>?_;rw[a.eq];exact⟨(xQ h a.mf.head).1,(xQ h (a.mf.dir _ (gh r x))).2⟩
theorem C8(h:Draws D s){t u:At×At}(d:bH s U Y t)(c:bH s U Y u):C9 (cU t) (cU u)↔ik t u:=by
 have a:=vF h d;have b:=vF h c;unfold C9 ik cU;dsimp only;rw[place_lt a.1 b.1,place_lt a.2 b.2,A5 a.1 b.1,gp,gp,gp,gp]
theorem yc(h:Draws D s){l:List (P3×P3)}(H:Cn B s U true)(q:l.Perm (pM s U B))(p:l.Pairwise λa b=>¬C9 b a):l=(Ql55.stretches s U).map cU:=by
 have c:=q.trans (Di h H);have g:(Ql55.stretches s U).Pairwise λa b=>gV a b=true:=by
  rw[jD];exact nq o7 o8 _
 have e:∀d,d∈l->∃t,bH s U true t/\d=cU t:=by
  intro d r;obtain⟨t,f,rfl⟩:=aw.1 (c.mem_iff.1 r);exact(ab t (eo.1 f) rfl)
 refine Ag (le:=λa b=>¬C9 b a) ?_ p ?_ c
 ·intro a b j i o n;obtain⟨t,f,rfl⟩:=e a j;obtain⟨u,m,rfl⟩:=e b (c.mem_iff.2 i);rw[C8 h m f]at o;rw[C8 h f m]at n;grind[tw]
 ·rw[lM];refine kE ?_ g;intro a b j i k;rw[C8 h (eo.1 i) (eo.1 j)];grind[jb,tD,kU]
theorem wF:(Ql55.stretches s U).length<=(rims s U).length:=by
 rw[jD,zU,aZ];exact jB _ _
structure wN(S:List (P3×P3))(s:Both)(U:Nat)(Y:Bool):Prop where
 mem:∀d,d∈S↔∃t,bH s U Y t/\d=cU t
theorem Kz:wN ((Ql55.stretches s U).map cU) s U true:=⟨λd=>by
 rw[aw];constructor
 ·rintro⟨t,a,rfl⟩;exact(ab t (eo.1 a) rfl)
 ·rintro⟨t,a,rfl⟩;exact(ab t (eo.2 a) rfl)⟩
theorem Ir:wN (((Ql55.stretches s U).map cU).map λd=>(d.2,d.1)) s U false:=⟨λd=>by
 rw[aw];constructor
 ·rintro⟨e,b,rfl⟩;obtain⟨t,a,rfl⟩:=aw.1 b;exact(ab (rev t) (vJ (Y:=true).2 (eo.1 a)) rfl)
 ·rintro⟨t,a,rfl⟩;have:bH s U true (rev t):=by
   have:=vJ (Y:=false) (t:=t) (s:=s) (U:=U);exact this.2 a
  exact(ab (cU (rev t)) (aw.2 (aa (eo.2 this) rfl)) rfl)⟩
theorem wN.eD(H:wN S s U Y){p:P3}:p∈dt S (tl z)↔∃a,bH s U Y (z,a)/\p=tl a:=by
 unfold dt;rw[aw];constructor
 ·rintro⟨d,b,rfl⟩;obtain⟨b,e⟩:=bh.1 b;obtain⟨f,F,rfl⟩:=(H.mem d).1 b;have:f.1=z:=mi (b_ e);exact(ab f.2 (by rw[<-this];exact F) rfl)
 ·rintro⟨a,F,rfl⟩;exact(ab (cU (z,a)) (bh.2 ⟨(H.mem _).2 (aa F rfl),bE rfl⟩) rfl)
def gN(p q:Int×Int):Bool:=decide (p.1<q.1) || (p.1==q.1&&decide (p.2<q.2))
theorem iy{p q:Int×Int}:gN p q=true↔lexLt p q:=by unfold gN lexLt;simp
def l8(S:List (P3×P3))(d:P3×P3):List P3:=
 let right:=(dt S d.2).filter λp=>gN (bQ d.2 p) (bQ d.2 d.1)
 if right.isEmpty=true then dt S d.2 else right
theorem K1(H:wN S s U Y){t:At×At}(a:bH s U Y t):l8 S (cU t)≠[]:=by
 obtain⟨u,N⟩:=vv a;have m:=H.eD.2 (ab u.2 (by rw[<-N.2.2.1];exact N.2.1:bH s U Y (t.2,u.2)) rfl);unfold l8;dsimp only;split
 ·intro z;have m:tl u.2∈dt S (cU t).2:=m
  simp_all
 ·rename_i k;intro z;rw[z]at k;simp at k
theorem Kf(h:Draws D s)(H:wN S s U Y){t:At×At}(i:bH s U Y t){m:P3}(d:m∈l8 S (cU t))(b:∀p,p∈l8 S (cU t)->¬lexLt (bQ (tl t.2) m) (bQ (tl t.2) p)):
  ∃u,hU s U Y t u/\cU u=(tl t.2,m):=by
 have f:∀{a:At},bH s U Y (t.2,a)->jv D (aP t.2 a):=λv=>(bH.along h v).1;have j:=(bH.along h i).2;unfold l8 at d b;dsimp only at d b;have w:(cU t).2=tl t.2:=rfl;have x:(cU t).1=tl t.1:=rfl;rw[w,x]at d b
 by_cases c:((dt S (tl t.2)).filter λp=>gN (bQ (tl t.2) p) (bQ (tl t.2) (tl t.1))).isEmpty=true
 ·rw[ak c]at d b;obtain⟨a,A,rfl⟩:=H.eD.1 d;have n:∀e,bH s U Y e->e.1=t.2->¬d5 (aP t.2 e.2) (aP t.2 t.1):=by
   intro e E' g k;have E':bH s U Y (t.2,e.2):=by rw[<-g];exact E'
   have:=((oh h (f E') j).1.2 k)
   have l:tl e.2∈(dt S (tl t.2)).filter λp=>gN (bQ (tl t.2) p) (bQ (tl t.2) (tl t.1)):=bh.2 ⟨H.eD.2 (ab e.2 E' rfl),iy.2 this⟩;rw[List.isEmpty_iff.1 c]at l;simp at l
  refine(ab (t.2,a) (oX i A rfl <| .inr ⟨n,?_⟩) rfl);intro e E' g k;have E':bH s U Y (t.2,e.2):=by rw[<-g];exact E'
  exact b _ (H.eD.2 (ab e.2 E' rfl)) ((oh h (f A) (f E')).1.2 k)
 ·rw[ai c]at d b;obtain⟨d,r⟩:=bh.1 d;obtain⟨a,A,rfl⟩:=H.eD.1 d;refine(ab (t.2,a) (oX i A rfl <| .inl ⟨(oh h (f A) j).1.mp (iy.1 r),?_⟩) rfl);intro e E' g q o;have E':bH s U Y (t.2,e.2):=by rw[<-g];exact E'
  exact b _ (bh.2 ⟨H.eD.2 (ab e.2 E' rfl),iy.2 ((oh h (f E') j).1.2 q)⟩) ((oh h (f A) (f E')).1.2 o)
theorem NN{S:List (At×At)}(I:∀t,bH s U Y t->t∈S){t:At×At}(y:bH s U Y t):∃l,Jj s U Y t l:=by
 refine d8 λC=>?_;have j:∀n:Nat,∃l,zH s U Y t l/\(t::l).Nodup/\l.length=n:=by
  intro n
  induction n with
  | zero=>exact(a8 [] trivial (by simp) rfl)
  | succ n d=>
   refine aH d λl g m B=>?_;have G:=g.lines y _ (gh l t);obtain⟨u,N⟩:=vv G;have h:∀{l:List (At×At)} {t:At×At},zH s U Y t l->hU s U Y (aR t l) u->zH s U Y t (l++[u]):=by
    intro l
    induction l with
    | nil=>intro t _ k;exact⟨k,trivial⟩
    | cons v l d=>intro t p k;exact⟨p.1,d p.2 k⟩
   have D:u∉t::l:=by
    intro f;rcases aY.1 f with e | e
    ·subst e;exact C ⟨l,y,g,N,m⟩
    ·
     have pre:∀{l:List (At×At)} {t:At×At},zH s U Y t l->u∈l->∃v,v∈t::l/\hU s U Y v u/\(t::l).Nodup->True:=by
      intro l t _ _;exact⟨t,λ_=>trivial⟩
     have i:∀{l:List (At×At)} {t:At×At},zH s U Y t l->u∈l->∃a b,t::l=a++b/\b.head?=some u/\a≠[]/\∃v,v∈a/\hU s U Y v u:=by
      intro l
      induction l with
      | nil=>intro t _ f;simp at f
      | cons w l d=>
       intro t p f;rcases aY.1 f with e | e
       ·subst e;exact(eK [t] (u::l) rfl rfl (by simp) <| ab t (by simp) p.1)
       ·refine e_ (d p.2 e) λa b x A E o=>ae o λv k4 r=>?_;exact(eK (t::a) b (by rw[x];rfl) A (by simp) <| ab v (by simp[k4]) r)
     refine e_ (i g e) λa b x A E o=>ae o λv k4 r=>?_;have K:=Fl N r;have q:aR t l∈b:=by
      have F:b≠[]:=λz=>by simp_all
      have J:∀{l:List (At×At)} {t:At×At},(t::l).getLast?=some (aR t l):=by
       intro l
       induction l with
       | nil=>intro t;rfl
       | cons w l d=>intro t;rw[List.getLast?_cons_cons];exact d
      have:=J (l:=l) (t:=t);rw[x,List.getLast?_append]at this;cases H:b.getLast? with
      | none=>simp_all
      | some c=>
       grind[List.mem_of_getLast?]
     grind
   refine(a8 (l++[u]) (h g N) ?_ <| by simp[B]);rw[<-iT];refine jY.2 (cO m (by simp) ?_);intro a L b H e
   simp_all
 refine aH (j S.length) λl g m B=>?_;have:=fu m λu f=>I u (g.lines y u f);grind
noncomputable def cA(z:Int×Int)(d:P3×P3):Int×Int:=(z.1*d.1.2.2*d.2.2.2+(d.1.1*d.2.2.1-d.2.1*d.1.2.1)*z.2,z.2*d.1.2.2*d.2.2.2)
def DM(l:List (P3×P3)):Int×Int:=l.foldl cA (0,1)
theorem wW:∀l z,0<z.2->0<((l.map cU).foldl cA z).2/\(((l.map cU).foldl cA z).1:Rat)/(((l.map cU).foldl cA z).2:Rat)=(z.1:Rat)/(z.2:Rat)+f6 l
 | [],z,h=>⟨h,by show _=_+(0:Rat);grind⟩
 | t::l,z,h=>by
  have w1:=dQ t.1;have a:=dQ t.2;have k:0<(cA z (cU t)).2:=mO (mO h w1) a;obtain⟨f,e⟩:=wW l (cA z (cU t)) k;refine⟨f,?_⟩;show(((l.map cU).foldl cA (cA z (cU t))).1:Rat)/_=_;rw[bw,List.foldl_cons,e];have m:f6 (t::l)=(t.1.1*t.2.2-t.2.1*t.1.2)+f6 l:=rfl;rw[m];have d:=AY w1;have c:=AY a;rw[gp]at d c;have j:=eh w1;have i:=eh a;have g:=eh h;have b:((cA z (cU t)).1:Rat)/((cA z (cU t)).2:Rat)=(z.1:Rat)/(z.2:Rat)+(t.1.1*t.2.2-t.2.1*t.1.2):=by
   unfold cA cU;dsimp only;rw[jT,bO,bO,bO,dn,bO,bO,bO,bO,d.1,d.2,c.1,c.2];generalize t.1.1=w;generalize t.1.2=s;generalize t.2.1=r;generalize t.2.2=o;generalize ((tl t.1).2.2:Rat)=u at *;generalize ((tl t.2).2.2:Rat)=v at *;generalize (z.1:Rat)=p;generalize (z.2:Rat)=q at *;have n:=ff (ff g j) i;grind
  rw[b];grind
theorem Gj(l:List (At×At)):(0<(DM (l.map cU)).1)↔0<f6 l:=by
 obtain⟨d,c⟩:=wW l (0,1) (by decide);unfold DM;generalize (l.map cU).foldl cA (0,1)=z at *;have e:(((0,1):Int×Int).1:Rat)/(((0,1):Int×Int).2:Rat)=0:=by
  grind
 rw[e]at c;have a:=eh d;have b:(z.1:Rat)=(z.2:Rat)*f6 l:=by
  grind
 exact(jI a b).2.1
instance (d e:At):Decidable (d5 d e):=by unfold d5;infer_instance
def Nf(u:At):At:=(-u.2,u.1)
def lY(v u:At):Bool:=decide (¬d5 u v)
theorem rR{c:Nat}{a:Rat}(d:cls v=c)(b:v.2/v.1=a):lY v u=decide (¬(cls u<c\/(cls u=c/\u.2/u.1 < a))):=by
 have:d5 u v↔(cls u<c\/(cls u=c/\u.2/u.1 < a)):=by unfold d5;rw[d,b]
 unfold lY;simp only[this]
def AS(z u:At)(e:Seg):Bool:=decide (On e z)&&((decide (e.1≠z)&&lY (aP z e.1) u)^^(decide (e.2≠z)&&lY (aP z e.2) u))
def lf(u:At):Prop:=u.1<0\/(u.1=0/\0<u.2)
instance (u:At):Decidable (lf u):=by unfold lf;infer_instance
noncomputable def ft(z u:At)(c:At):Bool:=if lf u then decide (c.1=z.1/\z.2<c.2) else decide (c=z)
noncomputable def zJ(z u:At)(t x:Rat):At:=(z.1+t*u.1+x*(-u.2),z.2+t*u.2+x*u.1)
theorem vV(a b c:Rat):Ev λt=>Ev λx=>(0<a+t*b+x*c↔(0<a\/(a=0/\(0<b\/(b=0/\0<c)))))/\(a+t*b+x*c<0↔(a<0\/(a=0/\(b<0\/(b=0/\c<0))))):=by
 refine(kP a b).mono λt j d=>cE d λh g=>?_;refine(kP (a+t*b) c).mono λx i d=>cE d λf e=>?_;grind
theorem NP(b:u≠(0,0)):lf u↔cls u<=1:=by
 unfold lf cls
 by_cases a:u.1=0
 ·have d:u.2≠0:=λz=>b (a9 a z);rw[ak a]
  by_cases c:0<u.2
  ·simp_all
  simp_all
 ·rw[ai a]
  by_cases c:u.1<0
  ·simp_all
  simp_all
theorem Gy{p q r t:Rat}(f:q≠0)(e:t≠0):(0<q*t->(p/q<r/t↔p*t<r*q))/\(q*t<0->(p/q<r/t↔r*q<p*t)):=by
 have d:p/q*q=p:=by grind
 have c:r/t*t=r:=by grind
 generalize p/q=u at *;generalize r/t=v at *;have b:p*t=u*(q*t):=by rw[<-d];grind
 have a:r*q=v*(q*t):=by rw[<-c];grind
 rw[b,a];generalize q*t=w;constructor
 ·intro hw;constructor
  ·intro k;have:=ff (show 0<v-u by grind) hw;grind
  ·intro k;refine c4.1 λz=>?_;have:=dA (show 0<=u-v by grind) (b0 hw);grind
 ·intro hw;constructor
  ·intro k;have:=Em (show 0<v-u by grind) hw;grind
  ·intro k;refine c4.1 λz=>?_;have:=sF (show 0<=u-v by grind) (b0 hw);grind
theorem AU(R:u≠(0,0))(hs:sooner e.1 e.2=true):Ev λt=>Ev λx=>(c_ (zJ z u t x) e^^c_ z e)=((ft z u e.1^^ft z u e.2)^^AS z u e):=by
 obtain⟨a,b⟩:=e;have hs:=cn.1 hs;dsimp only at hs;have ea:=vV (a.1-z.1) (-u.1) u.2;have eb:=vV (b.1-z.1) (-u.1) u.2;have ec:=vV (cross a b z) ((b.1-a.1)*u.2-(b.2-a.2)*u.1) ((b.1-a.1)*u.1+(b.2-a.2)*u.2);refine(ea.and (eb.and ec)).mono λt ht S=>fb S λg h kc=>?_;refine(g.and (h.and kc)).mono λx hx S=>fb S λla lb E=>?_;have cB:cross a b (zJ z u t x)=cross a b z+t*((b.1-a.1)*u.2-(b.2-a.2)*u.1)+x*((b.1-a.1)*u.1+(b.2-a.2)*u.2):=by unfold cross zJ;dsimp only;grind
 have xa:a.1<=(zJ z u t x).1↔(a.1<z.1\/(a.1=z.1/\¬lf u)):=by
  have:a.1<=(zJ z u t x).1↔¬0<a.1-z.1+t*-u.1+x*u.2:=by unfold zJ;dsimp only;constructor <;> intro k <;> grind
  rw[this,la.1];unfold lf;have G:u.1=0->u.2≠0:=λP O=>R (a9 P O);constructor
  ·intro k;grind
  ·intro k;grind
 have xb:(zJ z u t x).1<b.1↔¬(b.1<z.1\/(b.1=z.1/\¬lf u)):=by
  have:(zJ z u t x).1<b.1↔0<b.1-z.1+t*-u.1+x*u.2:=by unfold zJ;dsimp only;constructor <;> intro k <;> grind
  rw[this,lb.1];unfold lf;have G:u.1=0->u.2≠0:=λP O=>R (a9 P O);constructor
  ·intro k;grind
  ·intro k;grind
 have uB:c_ (zJ z u t x) (a,b)=(decide (a.1<z.1\/(a.1=z.1/\¬lf u))&&(decide (¬(b.1<z.1\/(b.1=z.1/\¬lf u)))&&decide (cross a b z<0\/(cross a b z=0/\((b.1-a.1)*u.2-(b.2-a.2)*u.1<0\/((b.1-a.1)*u.2-(b.2-a.2)*u.1=0/\(b.1-a.1)*u.1+(b.2-a.2)*u.2<0)))))):=by
  unfold c_;dsimp only;have X:(decide (b.1<=(zJ z u t x).1)&&(decide ((zJ z u t x).1<a.1)&&decide (0<cross a b (zJ z u t x))))=false:=by
   grind
  rw[X,mY,cB];simp only[xa,xb,E.2]
 have uz:c_ z (a,b)=(decide (a.1<=z.1)&&(decide (z.1<b.1)&&decide (cross a b z<0))):=by
  unfold c_;dsimp only;have X:(decide (b.1<=z.1)&&(decide (z.1<a.1)&&decide (0<cross a b z)))=false:=by
   grind
  rw[X,mY]
 rw[uB,uz];clear ea eb ec g h kc la lb E xa xb uB uz cB hx ht;have dz:cross a b z=(b.1-a.1)*(z.2-a.2)-(b.2-a.2)*(z.1-a.1):=rfl
 by_cases w:On (a,b) z
 ·
  have s:cross a b z=0:=w.1;have o1:=w.2.1;have o2:=w.2.2;dsimp only at o1 o2;have hr:AS z u (a,b)=((decide (a≠z)&&lY (aP z a) u)^^(decide (b≠z)&&lY (aP z b) u)):=by
   unfold AS;rw[bE w,gR]
  rw[hr,s];have f0:decide ((0:Rat)<0)=false:=by decide
  simp only[ig,false_or,jM,mW,i4,jx]
  by_cases sl:a.1<b.1
  ·
   have az:a.1=z.1↔a=z:=by
    constructor
    ·grind[Prod.ext,cg]
    ·intro k;rw[k]
   have N:b.1=z.1↔b=z:=by
    constructor
    ·grind[Prod.ext,cg]
    ·intro k;rw[k]
   have V:a.1<=z.1/\z.1<=b.1:=by
    constructor
    ·refine bM.1 λk=>?_;have:=wK (show z.1-a.1<0 by grind) (show z.1-b.1<0 by grind);grind
    ·refine bM.1 λk=>?_;have:=ff (show 0<z.1-a.1 by grind) (show 0<z.1-b.1 by grind);grind
   have v:a.1<z.1↔a≠z:=by
    grind
   have blt:¬b.1<z.1:=by grind
   have sa:a≠z->(aP z a).2/(aP z a).1=(b.2-a.2)/(b.1-a.1):=by
    intro k;have m:(aP z a).1≠0:=λy=>k (az.1 (by unfold aP at y;grind));have G:b.1-a.1≠0:=by grind
    unfold aP at m ⊢;grind
   have sb:b≠z->(aP z b).2/(aP z b).1=(b.2-a.2)/(b.1-a.1):=by
    intro k;have m:(aP z b).1≠0:=λy=>k (N.mp (by unfold aP at y;grind));have G:b.1-a.1≠0:=by grind
    unfold aP at m ⊢;grind
   have ca:a≠z->cls (aP z a)=1:=λk=>v_ (by have:=v.2 k;unfold aP;dsimp only;grind);have cb:b≠z->cls (aP z b)=3:=λk=>sT (by
    have:b.1≠z.1:=λy=>k (N.mp y);unfold aP;dsimp only;grind)
   have j:0<b.1-a.1:=by grind
   generalize Ya:b.1-a.1=f at *;generalize X_:b.2-a.2=d at *;have D:a≠z->lY (aP z a) u=decide (¬(cls u<1\/(cls u=1/\u.2/u.1<d/f))):=by
    intro k;exact rR (ca k) (sa k)
   have C:b≠z->lY (aP z b) u=decide (¬(cls u<3\/(cls u=3/\u.2/u.1<d/f))):=by
    intro k;exact rR (cb k) (sb k)
   unfold ft
   by_cases i:u.1=0
   ·have u2:u.2≠0:=λy=>R (a9 i y)
    by_cases up:0<u.2
    ·
     have I:=Dt i up;have l:lf u:=.inr ⟨i,up⟩;have Z:¬(f*u.2-d*u.1<0):=by rw[i];have:=ff j up;grind
     have Y:¬(f*u.2-d*u.1=0):=by rw[i];have:=ff j up;grind
     simp only[Z,Y,jN,p6,mW,i4,l,dh];have o:¬(a.1=z.1/\z.2<a.2):=by simp_all
     have n:¬(b.1=z.1/\z.2<b.2):=by simp_all
     by_cases g:a=z <;> by_cases h:b=z <;> simp[o,n,g,h,D,C,I]
    ·
     have U:u.2<0:=by grind
     have I:=wc i up;have l:¬lf u:=by rintro(y | ⟨_,y⟩) <;> grind
     have Z:f*u.2-d*u.1<0:=by rw[i];have:=Em j U;grind
     simp only[Z,true_or,decide_true,mX,l,cx,qO,and_true]
     by_cases g:a=z <;> by_cases h:b=z
     ·simp_all
     ·simp_all
     ·have J:b.1=z.1:=N.2 h;have B:=v.2 g;simp[g,h,D g,I,B,J]
     simp_all
   ·have s1:=Gy (p:=u.2) (r:=d) i (show f≠0 by grind)
    by_cases left:u.1<0
    ·have I:=v_ left;have l:lf u:=.inl left;have F:(f*u.2-d*u.1<0\/(f*u.2-d*u.1=0/\f*u.1+d*u.2<0))↔¬(u.2/u.1<d/f):=by
      rw[s1.2 (F_ left j)];constructor
      ·rintro(y | ⟨y,_⟩) <;> grind
      ·intro y
       by_cases T:f*u.2-d*u.1<0
       ·exact .inl T
       ·right;have y3:f*u.2-d*u.1=0:=by grind
        refine⟨y3,?_⟩;have e:(f*u.1+d*u.2)*f=(f*f+d*d)*u.1:=by
         grind
        have p:0<f*f+d*d:=by have:=ff j j;have:=Gv d;grind
        exact vx (by rw[e];exact Em p left) j
     simp only[F,l,um,and_false,p6,dh];have o:¬(a.1=z.1/\z.2<a.2):=by simp_all
     have n:¬(b.1=z.1/\z.2<b.2):=by simp_all
     by_cases g:a=z
     ·have B:¬a.1<z.1:=λy=>v.mp y g
      by_cases h:b=z <;> simp[o,n,g,h,C,I,B]
     ·have B:=v.2 g
      by_cases h:b=z <;> simp[o,n,g,h,D g,C,I,B,blt]
    ·have right:0<u.1:=by grind
     have I:=sT right;have l:¬lf u:=by rintro(y | ⟨y,_⟩) <;> grind
     have F:(f*u.2-d*u.1<0\/(f*u.2-d*u.1=0/\f*u.1+d*u.2<0))↔(u.2/u.1<d/f):=by
      rw[s1.1 (ff right j)];constructor
      ·rintro(y | ⟨y,T⟩)
       ·grind
       ·exfalso;have e:(f*u.1+d*u.2)*f=(f*f+d*d)*u.1:=by
         grind
        have p:0<f*f+d*d:=by have:=ff j j;have:=Gv d;grind
        have:=F_ T j;rw[e]at this;have:=ff p right;grind
      grind
     simp only[F,l,qO,and_true,cx]
     by_cases g:a=z <;> by_cases h:b=z
     ·simp_all
     ·simp_all
     ·simp_all
     simp_all
  ·
   have ex:a.1=b.1:=by grind
   have up:a.2<b.2:=by grind
   have zx:z.1=a.1:=by
    grind
   have V:a.2<=z.2/\z.2<=b.2:=by
    constructor
    ·refine bM.1 λk=>?_;have:=wK (show z.2-a.2<0 by grind) (show z.2-b.2<0 by grind);grind
    ·refine bM.1 λk=>?_;have:=ff (show 0<z.2-a.2 by grind) (show 0<z.2-b.2 by grind);grind
   have az:a=z↔a.2=z.2:=⟨λk=>by rw[k],λk=>a9 zx.symm k⟩
   have N:b=z↔b.2=z.2:=⟨λk=>by rw[k],λk=>a9 (by grind) k⟩
   have P:a.1=z.1:=zx.symm;have O:b.1=z.1:=by grind
   have lo:∀p q r:Bool,((decide (a.1<z.1\/(a.1=z.1/\¬lf u)))&&(decide (¬(b.1<z.1\/(b.1=z.1/\¬lf u)))&&r))=false:=by
    grind
   rw[lo true true];have D:a≠z->lY (aP z a) u=decide (¬(cls u<2)):=by
    intro k;have m:(aP z a).1=0:=by unfold aP;dsimp only;grind
    have G:¬0<(aP z a).2:=by unfold aP;dsimp only;grind
    rw[rR (wc m G) (by rw[m,F7])]
    by_cases c2:cls u=2
    ·have i:u.1=0:=by
      unfold cls at c2;split at c2
      ·assumption
      ·split at c2 <;> omega
     rw[i,F7,c2];simp[ig]
    ·simp[c2]
   have C:b≠z->lY (aP z b) u=true:=by
    intro k;have m:(aP z b).1=0:=by unfold aP;dsimp only;grind
    have G:0<(aP z b).2:=by
     have:b.2≠z.2:=λy=>k (N.2 y);unfold aP;dsimp only;grind
    rw[rR (Dt m G) (by rw[m,F7])]
    by_cases s:cls u=0
    ·have i:u.1=0:=by
      unfold cls at s;split at s
      ·assumption
      ·split at s <;> omega
     rw[i,F7,s];simp[ig]
    ·simp[s]
   unfold ft;have E:=NP R
   by_cases l:lf u
   ·have c1:=E.mp l;simp only[l,dh];have o:¬(a.1=z.1/\z.2<a.2):=by grind
    have n:(b.1=z.1/\z.2<b.2)↔b≠z:=by
     constructor
     ·grind
     grind
    have c2:cls u<2:=by omega
    by_cases g:a=z <;> by_cases h:b=z
    ·simp[o,n,g,h]
    ·simp[o,n,g,h,C h]
    ·simp[o,n,g,h,D g,c2]
    ·simp[o,n,g,h,D g,C h,c2]
   ·have c1:¬cls u<2:=λy=>l (E.2 (by omega));simp only[l,cx]
    by_cases g:a=z <;> by_cases h:b=z
    ·simp_all
    ·simp[g,h,C h]
    ·simp[g,h,D g,c1]
    ·simp[g,h,D g,C h,c1]
 ·
  have hr:AS z u (a,b)=false:=by unfold AS;simp_all
  rw[hr,jx];have A:a≠z/\b≠z:=⟨λk=>w (by rw[<-k];exact rH _ _),λk=>w (by rw[<-k];exact nQ _ _)⟩
  have W:a.1<b.1->a.1<=z.1->z.1<=b.1->cross a b z≠0:=by
   intro sl r1 r2 s;refine w ?_;obtain⟨τ,L⟩:=eT (show a≠b from λk=>by simp_all) s;rw[L];have H:z.1=a.1+τ*(b.1-a.1):=cq Prod.fst L;refine gW a b ?_ ?_
   ·refine bM.1 λk=>?_;have:=F_ k (show 0<b.1-a.1 by grind);grind
   ·refine bM.1 λk=>?_;have:=ff (show 0 < τ - 1 by grind) (show 0<b.1-a.1 by grind);grind
  unfold ft;have fz:∀c,c≠z->¬lf u->(if lf u then decide (c.1=z.1/\z.2<c.2) else decide (c=z))=false:=λc k l=>by simp_all
  by_cases sl:a.1<b.1
  ·by_cases ra:a.1<=z.1/\z.1<=b.1
   ·have nz:=W sl ra.1 ra.2;have E:(cross a b z<0\/(cross a b z=0/\((b.1-a.1)*u.2-(b.2-a.2)*u.1<0\/((b.1-a.1)*u.2-(b.2-a.2)*u.1=0/\(b.1-a.1)*u.1+(b.2-a.2)*u.2<0))))↔cross a b z<0:=by grind
    simp only[E]
    by_cases H:a.1=z.1
    ·have J:¬b.1=z.1:=by grind
     have Q:¬b.1<z.1:=by grind
     have K:z.1<b.1:=by grind
     have cs:cross a b z<0↔z.2<a.2:=by
      have e:cross a b z=(b.1-a.1)*(z.2-a.2):=by rw[dz,H];grind
      rw[e];constructor
      ·intro k;refine c4.1 λy=>?_;have:=dA (show 0<=b.1-a.1 by grind) (show 0<=z.2-a.2 by grind);grind
      grind[Em]
     by_cases l:lf u
     ·simp[H,J,Q,K,l,cs,ig,ib]
     ·simp[H,J,Q,K,l,cs,A,ig,ib]
    ·have B:a.1<z.1:=by grind
     by_cases M:b.1=z.1
     ·have cs:cross a b z<0↔z.2<b.2:=by
       have e:cross a b z=(b.1-a.1)*(z.2-b.2):=by rw[dz,<-M];grind
       rw[e];constructor
       ·intro k;refine c4.1 λy=>?_;have:=dA (show 0<=b.1-a.1 by grind) (show 0<=z.2-b.2 by grind);grind
       grind[Em]
      simp_all
     ·have Q:¬b.1<z.1:=by grind
      have K:z.1<b.1:=by grind
      simp_all
   ·by_cases r1:z.1<a.1
    ·have B:¬a.1<z.1:=by grind
     have J:¬a.1=z.1:=by grind
     have Q:¬a.1<=z.1:=by grind
     have K:¬b.1=z.1:=by grind
     simp_all
    ·have r2:b.1<z.1:=by grind
     have B:¬z.1<b.1:=by grind
     have J:¬a.1=z.1:=by grind
     have K:¬b.1=z.1:=by grind
     simp_all
  ·have ex:a.1=b.1:=by grind
   have up:a.2<b.2:=by grind
   have lo:∀r:Bool,((decide (a.1<z.1\/(a.1=z.1/\¬lf u)))&&(decide (¬(b.1<z.1\/(b.1=z.1/\¬lf u)))&&r))=false:=by
    intro r;rw[ex];grind
   rw[lo];have lz:(decide (a.1<=z.1)&&(decide (z.1<b.1)&&decide (cross a b z<0)))=false:=by
    grind
   rw[lz]
   by_cases l:lf u
   ·simp only[l,dh]
    by_cases H:a.1=z.1
    ·have M:b.1=z.1:=by grind
     have same:(z.2<a.2)↔(z.2<b.2):=by
      constructor
      ·intro k;grind
      ·intro k;refine d8 λy=>w ?_;refine(cO (by show cross a b z=0;rw[dz,ex,<-M];grind) ?_ ?_)
       ·dsimp only;rw[H,M];grind
       grind[sF]
     simp[H,M,same]
    simp_all
   ·simp[l,A]
theorem E7(b:u≠(0,0))(a:e.1≠e.2):Ev λt=>Ev λx=>(c_ (zJ z u t x) e^^c_ z e)=((ft z u e.1^^ft z u e.2)^^AS z u e):=by
 rcases eY e.1 e.2 with h | h | h
 ·exact AU b h
 ·exact absurd h a
 ·have:=AU (z:=z) b (e:=sf e) h;refine this.mono λt _ k=>k.mono λx _ l=>?_;rw[ot,ot]at l;rw[l];unfold AS;simp only[pG];unfold sf;dsimp only;rw[mZ (ft z u e.2),mZ (decide (e.2≠z)&&lY (aP z e.2) u)]
theorem MJ(C:iO L)(N:∀e,e∈L->e.1≠e.2)(b:u≠(0,0)):Ev λt=>Ev λx=>(l5 L (zJ z u t x)^^l5 L z)=px (AS z u) L:=by
 refine(Ev.all λe a=>E7 (z:=z) b (N e a)).mono λt _ k=>?_;refine(Ev.all (l:=L) (P:=λe x=>(c_ (zJ z u t x) e^^c_ z e)=((ft z u e.1^^ft z u e.2)^^AS z u e)) λe a=>k e a).mono λx _ l=>?_;unfold l5;rw[<-nN,cP l,nN,C (ft z u),iQ]
theorem Jv(j:e.1≠e.2)(h:¬On e q):(eM q e^^c_ q e)=(AW q e.1^^AW q e.2):=by
 by_cases c:cross e.1 e.2 q=0
 ·obtain⟨a,b⟩:=e;dsimp only at c j;refine aA (eT j c) λt i=>?_;have r:eM q (a,b)=false:=by unfold eM;simp_all
  have u:c_ q (a,b)=false:=by unfold c_;simp_all
  rw[r,u];have f:t<0\/1<t:=by
   refine d8 λk=>h ?_;grind[gW]
  have d:∀p q:Rat,(p+t*(q-p)<p↔p+t*(q-p)<q):=by
   intro p q;rcases f with o | o
   ·rcases Cj (q-p) with k | k | k
    ·have:=wK o k;grind
    ·grind
    ·have:=F_ o k;grind
   ·have g:0<t-1:=by grind
    rcases Cj (q-p) with k | k | k
    ·have:=Em g k;grind
    ·grind
    ·have:=ff g k;grind
  have m:=d a.1 b.1;have l:=d a.2 b.2;have s:q.1=a.1+t*(b.1-a.1):=cq Prod.fst i;have n:q.2=a.2+t*(b.2-a.2):=cq Prod.snd i;unfold AW
  simp_all
 ·exact Aw (.inl c)
theorem EL(C:iO L)(N:∀e,e∈L->e.1≠e.2)(h:∀e,e∈L->¬On e q):iM L q=l5 L q:=by
 have:px (λe=>eM q e^^c_ q e) L=false:=by
  rw[cP λe a=>Jv (N e a) (h e a)];exact C (AW q)
 rw[nN]at this;unfold iM l5
 simp_all
theorem CQ(K:Clear e p q)(a:p≠q){t:Rat}(i:0<t)(h:t<1)(r:c9 (aP p q) n≠0):Ev λx=>¬On e (bp (aI p q t) n x):=by
 rcases K with⟨g,f⟩ | k
 ·refine aH (along g f a) λc u c1 c2=>?_;have j:cross e.1 e.2 (aI p q t)=0:=by rw[g9,g.1,f.1];grind
  refine .of λx o l=>?_;have:=l.1;rw[dg,j,c1,c2]at this;have s:c*(q.1-p.1)*n.2-c*(q.2-p.2)*n.1=c*c9 (aP p q) n:=by unfold c9 aP;dsimp only;grind
  grind
 ·refine ae (away (k t i h)) λd m away=>?_;exact(DC (aI p q t) n m).mono λx _ b=>away _ b
theorem GY(C:iO L)(N:∀e,e∈L->e.1≠e.2)(g:z≠q)(f:p≠r)(K:∀e,e∈L->Clear e p r){c:Bool}(S:l_ L p r c){k:Rat}(j:0<=τ)(i:τ < 1)(l:0<k)(F:z=aI p r τ)(m:aP z q=(k*(aP p r).1,k*(aP p r).2)):c=(l5 L z^^px (AS z (aP z q)) L):=by
 have w:aP z q≠(0,0):=λy=>g (by have:=cy y;grind);have E:=MJ C N (z:=z) w;have D:Ev λt=>τ+t*k<1:=(vU (d:=1 - τ) (K:=k) (by grind)).mono λt _ y=>by grind
 refine aH ((E.and D).get) λt A v h=>?_;have H:=ff A l;have u:0<c9 (aP p r) (Nf (aP z q)):=by
  have:c9 (aP p r) (Nf (aP z q))=k*dot (aP p r) (aP p r):=by rw[m];unfold c9 Nf dot;dsimp only;grind
  rw[this];exact ff l (rY f)
 have G:∀x,zJ z (aP z q) t x=bp (aI p r (τ+t*k)) (Nf (aP z q)) x:=by
  intro x;rw[m,F];unfold zJ bp Nf aI aP;dsimp only;exact a9 (by dsimp only;grind) (by dsimp only;grind)
 have s:=S (τ+t*k) (Nf (aP z q)) (by grind) h u;have o:Ev λx=>∀e,e∈L->¬On e (bp (aI p r (τ+t*k)) (Nf (aP z q)) x):=Ev.all λe B=>CQ (K e B) f (by grind) h (by grind);refine((v.and (s.and o)).mono λx _ n=>fb n λa b d=>?_:Ev λ_=>c=(l5 L z^^px (AS z (aP z q)) L)).const;rw[G,<-EL C N d,b]at a;rw[<-a];cases c <;> cases l5 L z <;> rfl
variable{D:List aJ}{s:Both}{U:Nat}
theorem El{α:Type}{S:α->α->Prop}(f:∀a,¬S a a)(d:∀a b,S a b->¬S b a){z c:α}:∀{l:List α},l.Pairwise S->z∈l->c∈l->S z c->∃n,(z,n)∈l.zip (l.drop 1)
 | [],_,h,_,_=>by simp at h
 | [a],_,h,k,i=>by
  simp_all
 | a::b::l,m,h,k,i=>by
  have e:(a::b::l).zip ((a::b::l).drop 1)=(a,b)::(b::l).zip ((b::l).drop 1):=by simp
  rw[e];have g:=dD.1 m;rcases aY.1 h with q | h
  ·simp_all
  ·have j:c∈b::l:=by
    rcases aY.1 k with p | k
    ·simp_all
    ·exact k
   obtain⟨n,o⟩:=El f d g.2 h j i;exact⟨n,cN _ o⟩
theorem Ea{α:Type}{S:α->α->Prop}(f:∀a,¬S a a)(d:∀a b,S a b->¬S b a){z c:α}:∀{l:List α},l.Pairwise S->z∈l->c∈l->S c z->∃n,(n,z)∈l.zip (l.drop 1)
 | [],_,h,_,_=>by simp at h
 | [a],_,h,k,p=>by
  simp_all
 | a::b::l,q,h,k,p=>by
  have e:(a::b::l).zip ((a::b::l).drop 1)=(a,b)::(b::l).zip ((b::l).drop 1):=by simp
  rw[e];have i:=dD.1 q;rcases aY.1 h with o | h
  ·exfalso;rcases aY.1 k with t | k
   ·simp_all
   simp_all
  ·by_cases s:∃m,m∈b::l/\S m z
   ·refine ae s λm j g=>?_;obtain⟨n,r⟩:=Ea f d i.2 h j g;exact⟨n,cN _ r⟩
   ·have:z=b:=by
     rcases aY.1 h with o | h'
     ·exact o
     simp_all
    simp_all
structure zG(s:Both)(z c p r:At)(τ k:Rat):Prop where
 xf:bC (E s) p r\/bC (E s) r p
 ez:z=aI p r τ
 t0:0<=τ
 t1:τ < 1
 k0:0<k
 ek:aP z c=(k*(aP p r).1,k*(aP p r).2)
theorem gK(p q:At)(s t:Rat):aP (aI p q s) (aI p q t)=((t-s)*(aP p q).1,(t-s)*(aP p q).2):=by
 unfold aP aI;grind
theorem w8(B:e∈E s)(A:On e z)(hc:c=e.1\/c=e.2)(G:c≠z):∃p r τ k,zG s z c p r τ k/\On e p/\On e r:=by
 have D:=mI _ B;have d:On e c:=by
  rcases hc with rfl | rfl
  ·exact rH _ _
  ·exact nQ _ _
 rcases cover B A with C | ⟨p,q,t,j,i,g,W,O,F⟩
 ·obtain⟨f,U,rfl⟩:=aw.1 B;have aR:=λz=>eW (s:=s) U (z:=z);have V:Cut (E s) (seg f) c:=by
   have:=Dq B D;rcases hc with rfl | rfl
   ·exact this.1
   ·exact this.2
  have H:=(aR z).2 C;have K:=(aR c).2 V;have J:∀{p q:At},(p,q)∈(inOrder (at_ f.1::at_ f.2::(allEdges s).flatMap (meets f))).zip ((inOrder (at_ f.1::at_ f.2::(allEdges s).flatMap (meets f))).drop 1)->bC (E s) p q/\On (seg f) p/\On (seg f) q/\sooner p q=true/\∀w,Cut (E s) (seg f) w->sooner p w=true->sooner w q=true->False:=by
   intro p q h;obtain⟨R,Q,L,k4⟩:=(c8 cj (λa b h=>bA h) (dJ _)).1 h;have N:=(aR p).1 R;have M:=(aR q).1 Q;exact⟨⟨seg f,B,N,M,L,λw hw=>k4 w ((aR w).2 hw)⟩,N.on,M.on,L,λw hw=>k4 w ((aR w).2 hw)⟩
  rcases eY z c with o | o | o
  ·obtain⟨n,l⟩:=El cj (λa b h=>bA h) (dJ _) H K o;obtain⟨j,i,g,v,P⟩:=J l;obtain⟨m,u⟩:=eT (bR v) (iK A.1 g.1 D d.1);have x:0<m:=(fQ v).1 (by rw[hJ,<-u];exact o);refine⟨z,n,0,m,⟨.inl j,(hJ _ _).symm,by grind,by grind,x,?_⟩,A,g⟩;have:=gK z n 0 m;grind[hJ,Prod.ext]
  ·simp_all
  ·obtain⟨n,l⟩:=Ea cj (λa b h=>bA h) (dJ _) H K o;obtain⟨j,i,g,v,P⟩:=J l;obtain⟨m,u⟩:=eT (bR v) (iK i.1 A.1 D d.1);have I:m<1:=(fQ v).1 (by rw[hI,<-u];exact o);refine⟨z,n,0,1-m,⟨.inr j,(hJ _ _).symm,by grind,by grind,by grind,?_⟩,A,i⟩;rw[u];unfold aP aI;grind[Prod.ext]
 ·have S:=bq j;obtain⟨m,u⟩:=eT (bR S) (iK i.1 g.1 D d.1);have T:m≠t:=λy=>G (by rw[u,F,y]);have w:=gK p q t m;rw[<-F,<-u]at w
  by_cases o:t<m
  ·exact⟨p,q,t,m-t,⟨.inl j,F,by grind,O,by grind,w⟩,i,g⟩
  ·refine⟨q,p,1-t,t-m,⟨.inr j,?_,by grind,by grind,by grind,?_⟩,g,i⟩
   ·rw[F,kh]
   ·rw[w];unfold aP;grind
def sL(d:Drawing)(p r:At):Bool:=if sooner p r=true then oL d (p,r) else oR d (r,p)
theorem yk{d:Drawing}(b:∀e,e∈dX d->e∈E s)(h:bC (E s) p r\/bC (E s) r p):l_ (dX d) p r (sL d p r)/\p≠r/\(∀e,e∈dX d->Clear e p r):=by
 rcases h with h | h
 ·have a:=bq h;refine(cO ?_ (bR a) <| λe c=>en mI h e (b e c));unfold sL;rw[ak a];exact lT d b (p:=(p,r)) h
 ·have a:=bq h;refine(cO ?_ (λe=>bR a e.symm) <| λe c=>(en mI h e (b e c)).rev);unfold sL;rw[ai (bA a)];exact j6 d b (p:=(r,p)) h
theorem zG.left{k:Rat}(R:zG s z c p r τ k)(b:z≠c){d:Drawing}(f:∀e,e∈dX d->e∈E s):sL d p r=(l5 (dX d) z^^px (AS z (aP z c)) (dX d)):=by
 refine fb (yk f R.xf) λS a K=>?_;exact GY (de d) yi b a K S R.t0 R.t1 R.k0 R.ez R.ek
theorem zG.Fz{z c p r:At}{τ k:Rat}(R:zG s z c p r τ k){d:Drawing}(b:∀e,e∈dX d->e∈E s):(sL d p r^^sL d r p)=px (holds p r) (dX d):=by
 refine fb (yk b R.xf) λS a K=>?_;refine fb (yk b (p:=r) (r:=p) (R.xf.symm)) λf _ _=>?_;exact M.Fz (de d) a K S f
def gL(p:P3)(e:aJ):List ((Int×Int)×Int):=
 if fE e p=true then (if 0<gj e p then [(direction (-e.dx) (-e.dy),e.mark)] else [])++(if 0<iN e p then [(direction e.dx e.dy,e.mark)] else []) else []
def cX(D:List aJ)(p:P3):List ((Int×Int)×Int):=D.flatMap (gL p)
theorem pP{e:aJ}(h:lg e):mG e.dx e.dy/\mG (-e.dx) (-e.dy):=by
 have m:-32768<=e.dx/\e.dx<=32768:=by have:=h.dx;have:=h.ax;have:=h.bx;omega
 have c:∀x y:Int,-32768<=x/\x<=32768->(x=0->y≠0)->mG x y:=by
  intro x y j d
  by_cases a:x=0
  ·exact .inl ⟨a,d a⟩
  ·refine .inr ⟨a,?_⟩;rcases lJ x 0 with o | o | o
   ·refine(aO (-y) (-x) (by omega) (by omega) ?_);refine(gA a (by omega)).2 ?_;grind
   ·exact absurd o a
   ·exact(aO y x o (by omega) rfl)
 have b:=h.ne;have i:e.dx=0->e.dy≠0:=by
  intro l k;refine b ?_;unfold aL;dsimp only;have g:e.bx=e.ax:=by have:=h.dx;omega
  have f:e.bz=e.ay:=by have:=h.dy;omega
  rw[g,f]
 grind
theorem yp{e:aJ}(h:lg e){p:P3}(hw:0<p.2.2)(o:On (aL e) (pt p)):
  (0<gj e p↔(aL e).1≠pt p)/\(0<iN e p↔(aL e).2≠pt p)/\
  (∃t,0<=t/\t<=1/\pt p=aI (aL e).1 (aL e).2 t)/\
  ((aL e).1≠pt p->∃c:Rat,0<c/\iv (-e.dx) (-e.dy)=(c*(aP (pt p) (aL e).1).1,c*(aP (pt p) (aL e).1).2))/\
  ((aL e).2≠pt p->∃c:Rat,0<c/\iv e.dx e.dy=(c*(aP (pt p) (aL e).2).1,c*(aP (pt p) (aL e).2).2)):=by
 have i:=eh hw;have d:=h.ne;refine aH (fq.1 (show On ((aL e).1,(aL e).2) (pt p) from o)) λt n m f=>?_;have b:=(jI i (wj h hw)).2.1;have a:=(jI i (xZ h hw)).2.1;have dl:=v3 d t;rw[f]at b a;have l:(aL e).1≠pt p↔0<t:=by
  constructor
  ·grind[hJ]
  ·intro k y;rw[f]at y;have:=jd d (show aI (aL e).1 (aL e).2 0=aI (aL e).1 (aL e).2 t by rw[hJ];exact y);grind
 have j:(aL e).2≠pt p↔t<1:=by
  constructor
  ·grind[hI]
  ·intro k y;rw[f]at y;have:=jd d (show aI (aL e).1 (aL e).2 1=aI (aL e).1 (aL e).2 t by rw[hI];exact y);grind
 have r:((e.dx:Int):Rat)=(aL e).2.1-(aL e).1.1:=by rw[h.dx,dn];rfl
 have q:((e.dy:Int):Rat)=(aL e).2.2-(aL e).1.2:=by rw[h.dy,dn];rfl
 refine⟨?_,?_,(a8 t n m f),λk=>?_,λk=>?_⟩
 ·rw[b,dl.2.1,l]
 ·rw[a,dl.2.2.2,j]
 ·have g:=l.mp k;refine(ab (1/t) (gM (by grind) g) ?_);rw[f];unfold iv aP aI;grind
 ·have g:=j.mp k;refine(ab (1/(1-t)) (gM (by grind) (by grind)) ?_);rw[f];unfold iv aP aI;grind
def wy(κ:Int×Int)(v:At):Prop:=∃X Y:Int,∃c:Rat,mG X Y/\κ=direction X Y/\0<c/\iv X Y=(c*v.1,c*v.2)
theorem Er{b:Int×Int}{f:At}(h:wy κ v)(m:wy b f):(lexLt κ b↔d5 v f)/\(κ=b↔(cls v=cls f/\v.2/v.1=f.2/f.1)):=by
 obtain⟨X,Y,c,l,rfl,j,e⟩:=h;obtain⟨p,o,n,i,rfl,g,e'⟩:=m;have d:=zm l i;have a:=et j g e e';have k:=et g j e' e;rw[d.1,d.2,a.1,a.2.1,a.2.2,k.2.1,k.2.2]
 simp_all
theorem ID{e:aJ}(h:lg e){p:P3}(hw:0<p.2.2)(Q:Int×Int->Bool)(m:Int)(P:At->Bool)(l:∀κ v,wy κ v->Q κ=P v):
  px (λd:(Int×Int)×Int=>Q d.1&&d.2==m) (gL p e)=(e.mark==m&&(decide (On (aL e) (pt p))&&((decide ((aL e).1≠pt p)&&P (aP (pt p) (aL e).1))^^(decide ((aL e).2≠pt p)&&P (aP (pt p) (aL e).2))))):=by
 unfold gL
 by_cases f:On (aL e) (pt p)
 ·rw[ak ((kf h hw).2 f),bE f,gR];obtain⟨b,a,_,o,n⟩:=yp h hw f;have j:=pP h;rw[jJ];have r:px (λd:(Int×Int)×Int=>Q d.1&&d.2==m) (if 0<gj e p then [(direction (-e.dx) (-e.dy),e.mark)] else [])=(e.mark==m&&(decide ((aL e).1≠pt p)&&P (aP (pt p) (aL e).1))):=by
   by_cases k:(aL e).1≠pt p
   ·refine ae (o k) λc i g=>?_;rw[ak (b.2 k),bE k,gR];show((Q (direction (-e.dx) (-e.dy))&&e.mark==m)^^false)=_;rw[l _ _ (eQ _ _ c j.2 rfl i g),jx,qk]
   ·rw[ai (λy=>k (b.mp y)),di k];simp[px]
  have q:px (λd:(Int×Int)×Int=>Q d.1&&d.2==m) (if 0<iN e p then [(direction e.dx e.dy,e.mark)] else [])=(e.mark==m&&(decide ((aL e).2≠pt p)&&P (aP (pt p) (aL e).2))):=by
   by_cases k:(aL e).2≠pt p
   ·refine ae (n k) λc i g=>?_;rw[ak (a.2 k),bE k,gR];show((Q (direction e.dx e.dy)&&e.mark==m)^^false)=_;rw[l _ _ (eQ _ _ c j.1 rfl i g),jx,qk]
   ·rw[ai (λy=>k (a.mp y)),di k];simp[px]
  rw[r,q];cases e.mark==m <;> simp
 ·rw[ai (λy=>f ((kf h hw).1 y)),di f];simp[px]
def jF(u v:At):Bool:=decide (cls v=cls u/\v.2/v.1=u.2/u.1)
theorem ts(j:u≠(0,0))(i:v≠(0,0))(h:jF u v=true):∃m:Rat,0<m/\v=(m*u.1,m*u.2):=by
 obtain⟨hc,l⟩:=b_ h;unfold cls at hc
 by_cases c:v.1=0
 ·rw[ak c]at hc
  by_cases a:u.1=0
  ·rw[ak a]at hc;have k:v.2≠0:=λy=>i (a9 c y);have g:u.2≠0:=λy=>j (a9 a y);have:0<v.2*u.2:=by
    by_cases f:0<v.2 <;> by_cases d:0<u.2
    ·exact ff f d
    ·simp_all
    ·simp_all
    ·exact wK (by grind) (by grind)
   refine(ab (v.2/u.2) ?_ <| a9 (by simp_all) (by dsimp only;grind));refine fK (b:=u.2*u.2) ?_ (sq_pos g);have e:v.2/u.2*(u.2*u.2)=v.2*u.2:=by grind
   rw[e];exact this
  grind
 ·rw[ai c]at hc
  by_cases a:u.1=0
  ·grind
  ·rw[ai a]at hc;have:0<v.1*u.1:=by
    by_cases f:v.1<0 <;> by_cases d:u.1<0
    ·exact wK f d
    ·simp_all
    ·simp_all
    ·exact ff (by grind) (by grind)
   refine(ab (v.1/u.1) ?_ <| a9 (by dsimp only;grind) ?_)
   ·refine fK (b:=u.1*u.1) ?_ (sq_pos a);have e:v.1/u.1*(u.1*u.1)=v.1*u.1:=by grind
    rw[e];exact this
   grind
theorem AQ(a:0<m)(h:v=(m*u.1,m*u.2)):jF u v=true:=by
 have:=(et (d:=u) (d':=v) (e:=u) (e':=v) a a h h).2;exact bE this
theorem Dd{k:Rat}(R:zG s z c p r τ k)(w:z≠c)(A:e.1≠e.2)(K:Clear e p r):
  holds p r e=(decide (On e z)&&((decide (e.1≠z)&&jF (aP z c) (aP z e.1))^^(decide (e.2≠z)&&jF (aP z c) (aP z e.2)))):=by
 have j:∀{x y:At},x≠y->aP x y≠(0,0):=λh y=>h (by have:=cy y;grind);have TF:p≠r:=by
  rcases R.xf with h | h
  ·exact bR (bq h)
  ·exact λy=>bR (bq h) y.symm
 by_cases u:On e z
 ·rw[bE u,gR];obtain⟨a,b⟩:=e;dsimp only at A ⊢;obtain⟨f,S,Q,i⟩:=fq.1 u;have P:∀{y:At},(y=a\/y=b)->y≠z->jF (aP z c) (aP z y)=true->On (a,b) p/\On (a,b) r:=by
   intro y hy L N;refine ae (ts (j w) (j (λq=>L q.symm)) N) λm H n=>?_;rcases K with K | K
   ·exact K
   ·exfalso;have M:On (a,b) y:=by rcases hy with rfl | rfl;exact rH _ _;exact nQ _ _
    have kk:=ff H R.k0;have G:0<1 - τ:=by have:=R.t1;grind
    refine aH (((vU (d:=1 - τ) (K:=m*k) G).and (xJ (d:=1) (by grind))).get) λC e0 h1 h2=>?_;have hp:=ff e0 kk;refine K (τ+C*(m*k)) (by have:=R.t0;grind) (by grind) ?_;have:aI p r (τ+C*(m*k))=aI z y C:=by
     have w1:(aP z y).1=m*(k*(aP p r).1):=by rw[n];dsimp only;rw[R.ek]
     have F:(aP z y).2=m*(k*(aP p r).2):=by rw[n];dsimp only;rw[R.ek]
     have X:z.1=p.1+τ*(r.1-p.1):=cq Prod.fst R.ez;have W:z.2=p.2+τ*(r.2-p.2):=cq Prod.snd R.ez;unfold aP at w1 F;dsimp only at w1 F;unfold aI;exact a9 (by dsimp only;rw[w1,X];grind) (by dsimp only;rw[F,W];grind)
    rw[this];exact g8 u M (by grind) (by grind)
  by_cases o:On (a,b) p/\On (a,b) r
  ·have lhs:holds p r (a,b)=true:=bE o;rw[lhs];obtain⟨l,U,T,hρ⟩:=fq.1 o.2;have zr:aP z r=((1 - τ)*(aP p r).1,(1 - τ)*(aP p r).2):=by
    rw[R.ez];have:=gK p r τ 1;rw[hI]at this;exact this
   have G:0<1 - τ:=by have:=R.t1;grind
   have D:aP z r=((l - f)*(aP a b).1,(l - f)*(aP a b).2):=by grind[gK]
   have I:l≠f:=by
    intro y;rw[y]at D;grind
   obtain⟨κ,J,v⟩:∃κ:Rat,aP z c=(κ*(aP a b).1,κ*(aP a b).2)/\0 < κ*(l - f):=by
    refine(ab (k/(1 - τ)*(l - f)) ?_ ?_)
    ·rw[R.ek];grind
    ·have:=ff (gM R.k0 G) (sq_pos (show l - f≠0 by grind));grind
   have wa:aP z a=((0 - f)*(aP a b).1,(0 - f)*(aP a b).2):=by rw[i];have:=gK a b f 0;rw[hJ]at this;exact this
   have Z:aP z b=((1 - f)*(aP a b).1,(1 - f)*(aP a b).2):=by rw[i];have:=gK a b f 1;rw[hI]at this;exact this
   have az:a≠z↔0 < f:=by
    constructor
    ·intro y;refine c4.1 λq=>y ?_;rw[i,show f=0 by grind,hJ]
    ·intro y q;have:=jd A (show aI a b 0=aI a b f by rw[hJ,<-i];exact q);grind
   have bz:b≠z↔f < 1:=by
    constructor
    ·intro y;refine c4.1 λq=>y ?_;rw[i,show f=1 by grind,hI]
    ·intro y q;have:=jd A (show aI a b 1=aI a b f by rw[hI,<-i];exact q);grind
   have Mw:∀{g:Rat},0<g*κ->jF (aP z c) (g*(aP a b).1,g*(aP a b).2)=true:=by
    intro g t;have B:κ≠0:=λy=>by rw[y]at t;grind
    refine AQ (m:=g / κ) ?_ ?_
    ·refine fK (b:=κ*κ) ?_ (sq_pos B);have:g / κ*(κ*κ)=g*κ:=by grind
     rw[this];exact t
    grind
   have X8:∀{g:Rat},g*κ < 0->jF (aP z c) (g*(aP a b).1,g*(aP a b).2)=false:=by
    intro g t;refine h_.2 λy=>?_;have g0:g≠0:=λq=>by rw[q]at t;grind
    have E:=j A;have hv:((g*(aP a b).1,g*(aP a b).2):At)≠(0,0):=λq=>E (by
     grind)
    refine ae (ts (j w) hv y) λm H n=>?_;rw[J]at n;have e1:=(cy n).1;have e2:=(cy n).2;have:g=m*κ:=by
     grind
    rw[this]at t;have:=ff H (sq_pos (show κ≠0 from λy=>by rw[y]at t;grind));grind
   rw[wa,Z]
   by_cases dir:f < l
   ·grind[fK,ff,F_]
   ·have V:κ < 0:=by
     rcases bL v with⟨O,Y⟩ | ⟨O,Y⟩
     ·grind
     ·exact O
    have ha:=az.2 (by grind);grind[wK,Em]
  ·have lhs:holds p r (a,b)=false:=di o;grind
 ·rw[di u,jw];refine di λo=>u ?_;rw[R.ez];exact g8 o.1 o.2 R.t0 (by have:=R.t1;grind)
variable{D:List aJ}{s:Both}{U:Nat}
def runM(a:Int×Int->Int):List (Int×Int)->Int->List Int
 | [],m=>[m]
 | k::ks,m=>m::runM a ks (xr m (a k))
theorem Lr{p q r:α->Bool}{l:List α}(h:∀x,x∈l->p x=(q x^^r x)):px p l=(px q l^^px r l):=by
 rw[cP h,nN]
theorem vd{a:Int×Int->Int}{L:List ((Int×Int)×Int)}:∀{ks:List (Int×Int)},ks.Nodup->(∀k,k∈ks->a k=enc (px (λe:(Int×Int)×Int=>decide (e.1=k)&&e.2==1) L) (px (λe:(Int×Int)×Int=>decide (e.1=k)&&e.2==2) L))->∀u v i,i<=ks.length->
  (runM a ks (enc u v))[i]?=some (enc (u^^px (λe:(Int×Int)×Int=>decide (e.1∈ks.take i)&&e.2==1) L) (v^^px (λe:(Int×Int)×Int=>decide (e.1∈ks.take i)&&e.2==2) L))
 | [],_,_,u,v,i,d=>by
  have:i=0:=by simpa using d
  subst this;show some (enc u v)=_;simp only[List.take_nil,uh,mW,jw,ja,jx]
 | k::ks,h,f,u,v,0,d=>by
  show some (enc u v)=_;simp only[gS,uh,mW,jw,ja,jx]
 | k::ks,h,f,u,v,i+1,d=>by
  have b:=cR.1 h;show(runM a ks (xr (enc u v) (a k)))[i]?=_;rw[f k (by simp),nB,vd b.2 (λj g=>f j (by simp[g])) _ _ i (by simpa using d)];have split:∀m:Int,px (λe:(Int×Int)×Int=>decide (e.1∈(k::ks).take (i+1))&&e.2==m) L=(px (λe:(Int×Int)×Int=>decide (e.1=k)&&e.2==m) L^^px (λe:(Int×Int)×Int=>decide (e.1∈ks.take i)&&e.2==m) L):=by
   intro m;refine Lr λe _=>?_;rw[qW]
   by_cases c:e.1=k
   ·have:¬k∈ks.take i:=λy=>b.1 (ng y);simp[c,this]
   ·simp[c]
  rw[split,split,jQ,jQ]
structure FZ(D:List aJ)(p:P3)(ks:List (Int×Int)):Prop where
 nodup:ks.Nodup
 mem:∀k,k∈ks↔k∈(cX D p).map (·.1)
 pw:ks.Pairwise lexLt
def eX(D:List aJ)(p:P3):List ((Int×Int)×Int):=lr (cX D p) []
theorem Ko{p:P3}(e:ks.Perm ((eX D p).map (·.1)))(f:ks.Pairwise λa b=>¬lexLt b a):FZ D p ks:=by
 have d:=l4 (cX D p) [] (by simp);have c:ks.Nodup:=(ux e).2 d.1;refine⟨c,λk=>?_,?_⟩
 ·rw[e.mem_iff];unfold eX;rw[d.2 k];simp
 ·refine kE ?_ (List.Pairwise.and f c);grind[xC]
theorem HP(h:Draws D s){p:P3}{k:Int×Int}:(cw (eX D p) k).getD 0=enc (px (λe:(Int×Int)×Int=>decide (e.1=k)&&e.2==1) (cX D p)) (px (λe:(Int×Int)×Int=>decide (e.1=k)&&e.2==2) (cX D p)):=by
 have:=rW k (cX D p) [] false false ?_ rfl
 ·rw[iQ,iQ]at this;exact this
 ·intro e he;refine ae (bV.1 he) λf a he=>?_;have b:=(h.ok f a).mark;unfold gL at he;split at he
  ·rcases cJ.1 he with he | he
   ·simp_all
   simp_all
  ·simp at he
def fY(D:List aJ)(p:P3)(ks:List (Int×Int)):List Int:=runM (λk=>(cw (eX D p) k).getD 0) ks (cp D p)
theorem Gm(d:ks.Pairwise lexLt)(f:ks[i]?=some κ){b:Int×Int}(g:b∈ks):b∈ks.take (i+1)↔¬lexLt κ b:=by
 obtain⟨j,e⟩:=eJ g;have k:=(bF.1 e).1;constructor
 ·intro h;obtain⟨m,a⟩:=eJ h;rw[List.getElem?_take]at a;split at a
  ·rename_i c;rcases lP (uj c) with o | o
   ·exact tE (gn d a f o)
   grind[Fu]
  ·cases a
 ·intro h;have l:j<=i:=by
   refine qH λy=>h (gn d f e y)
  refine nh.2 ⟨j,?_⟩;grind
theorem JV(z u:At)(e:Seg):AS z u (sf e)=AS z u e:=by
 unfold AS;simp only[pG];unfold sf;dsimp only;rw[mZ]
theorem IC(h:Draws D s){p:P3}(hw:0<p.2.2)(Q:Int×Int->Bool)(m:Int)(P:At->Bool)(c:∀κ v,wy κ v->Q κ=P v):
  px (λa:(Int×Int)×Int=>Q a.1&&a.2==m) (cX D p)=px (λe:aJ=>e.mark==m&&(decide (On (aL e) (pt p))&&((decide ((aL e).1≠pt p)&&P (aP (pt p) (aL e).1))^^(decide ((aL e).2≠pt p)&&P (aP (pt p) (aL e).2))))) D:=by
 unfold cX;rw[yt];exact cP λe b=>ID (h.ok e b) hw Q m P c
theorem w9(h:Draws D s){p:P3}(hw:0<p.2.2)(K:FZ D p ks){k:Rat}(R:zG s (pt p) c a r τ k)(A:pt p≠c)(E:ks[i]?=some κ)(B:wy κ (aP (pt p) c)):
  (fY D p ks)[i+1]?=some (enc (sL s.a a r) (sL s.b a r))/\(fY D p ks)[i]?=some (enc (sL s.a r a) (sL s.b r a)):=by
 have W:=(bF.1 E).1;have w:∀k,k∈ks->(λk=>(cw (eX D p) k).getD 0) k=enc (px (λe:(Int×Int)×Int=>decide (e.1=k)&&e.2==1) (cX D p)) (px (λe:(Int×Int)×Int=>decide (e.1=k)&&e.2==2) (cX D p)):=λk _=>HP h;have I:∀u,u∈cX D p->u.1∈ks:=λu z=>(K.mem _).2 (aw.2 (ab u z rfl));have up:=h.above hw;have H:=vd K.nodup w (l5 (dX s.a) (pt p)) (l5 (dX s.b) (pt p)) (i+1) (by omega);have Q:=vd K.nodup w (l5 (dX s.a) (pt p)) (l5 (dX s.b) (pt p)) i (by omega);rw[<-up]at H Q;have o:∀m:Int,px (λe:(Int×Int)×Int=>decide (e.1∈ks.take (i+1))&&e.2==m) (cX D p)=px (λe:aJ=>e.mark==m&&AS (pt p) (aP (pt p) c) (aL e)) D:=by
  intro m;rw[cP (q:=λu:(Int×Int)×Int=>(!gN κ u.1)&&u.2==m) λu z=>?_]
  ·rw[IC h hw (λn=>!gN κ n) m (λv=>lY v (aP (pt p) c)) λn v G=>?_]
   ·rfl
   ·have:=(Er B G).1;unfold lY
    by_cases q:lexLt κ n
    ·have l:gN κ n=true:=iy.2 q
     simp_all
    ·have l:gN κ n=false:=h_.2 λy=>q (iy.1 y)
     simp_all
  ·have:=Gm K.pw E (I u z)
   by_cases q:lexLt κ u.1
   ·have l:gN κ u.1=true:=iy.2 q
    simp_all
   ·have l:gN κ u.1=false:=h_.2 λy=>q (iy.1 y)
    simp_all
 have J:∀e,e∈D->Clear (aL e) a r:=by
  intro e t;have me:aL e∈D.map aL:=aw.2 (ab e t rfl);have P:∀f,f∈D.map aL->f.1≠f.2:=by
   intro f Y;obtain⟨g,X,rfl⟩:=aw.1 Y;exact(h.ok g X).ne
  rcases R.xf with q | q
  ·exact en P (eS h.alike.symm q) _ me
  ·exact(en P (eS h.alike.symm q) _ me).rev
 have x:∀m:Int,px (λe:(Int×Int)×Int=>decide (e.1=κ)&&e.2==m) (cX D p)=px (λe:aJ=>e.mark==m&&holds a r (aL e)) D:=by
  intro m;rw[IC h hw (λn=>decide (n=κ)) m (λv=>jF (aP (pt p) c) v) λn v G=>?_]
  ·refine cP λe t=>?_;rw[Dd R A (h.ok e t).ne (J e t)]
  ·have:=(Er G B).2;unfold jF
   simp_all
 have split:∀m:Int,px (λe:(Int×Int)×Int=>decide (e.1∈ks.take (i+1))&&e.2==m) (cX D p)=(px (λe:(Int×Int)×Int=>decide (e.1∈ks.take i)&&e.2==m) (cX D p)^^px (λe:(Int×Int)×Int=>decide (e.1=κ)&&e.2==m) (cX D p)):=by
  intro m;refine Lr λe _=>?_;rw[pD E];have T:κ∉ks.take i:=by
   intro y;obtain⟨j,C⟩:=eJ y;rw[List.getElem?_take]at C;split at C
   ·have:=ze K.nodup C E;omega
   ·cases C
  by_cases q:e.1=κ
  ·simp[q,T]
  ·simp[q]
 have F:=h.px (AS (pt p) (aP (pt p) c)) (JV _ _);have S:=h.px (holds a r) (sP _ _);have O:=R.left A (d:=s.a) λe t=>ir t;have N:=R.left A (d:=s.b) λe t=>iq t;have V:=R.Fz (d:=s.a) λe t=>ir t;have U:=R.Fz (d:=s.b) λe t=>iq t;have M:=split 1;have L:=split 2;rw[o,F.1,x,S.1,<-V]at M;rw[o,F.2,x,S.2,<-U]at L;rw[o,o,F.1,F.2,<-O,<-N]at H;refine⟨H,?_⟩;unfold fY;rw[Q]
 congr 1
 have f:∀{a b c d e:Bool},b=(c^^(d^^e))->d=(a^^b)->(a^^c)=e:=by
  intro a b c d e;cases a <;> cases b <;> cases c <;> cases d <;> cases e <;> simp
 rw[f M O,f L N]
theorem xc(h:Draws D s){p:P3}(hw:0<p.2.2)(U:bC (E s) q r)(on:On (q,r) (pt p))(K:FZ D p ks):∃(a b c:At) (τ k:Rat) (i:Nat) (κ:Int×Int),zG s (pt p) c a b τ k/\pt p≠c/\ks[i]?=some κ/\wy κ (aP (pt p) c)/\((a=q/\b=r)\/(a=r/\b=q)):=by
 have hs:=bq U;have QN:=bR hs;refine aH (fq.1 on) λt t0 t1 T=>?_;have G:∃a b τ,((a=q/\b=r)\/(a=r/\b=q))/\0<=τ/\τ < 1/\pt p=aI a b τ:=by
  by_cases k:t<1
  ·exact(eQ q r t (.inl ⟨rfl,rfl⟩) t0 k T)
  ·exact(eQ r q 0 (.inr ⟨rfl,rfl⟩) (by grind) (by grind) <| by rw[T,show t=1 by grind,hJ,hI])
 obtain⟨a,b,τ,z,u,A,n⟩:=G;have l:bC (E s) a b\/bC (E s) b a:=by
  grind
 have H:a≠b:=by
  grind
 refine dG (eS h.alike.symm U) λf hf W V _ _=>?_;obtain⟨e,P,rfl⟩:=aw.1 hf;have w:On (aL e) a/\On (aL e) b:=by
  rcases z with⟨rfl,rfl⟩ | ⟨rfl,rfl⟩
  ·exact⟨W.on,V.on⟩
  ·exact⟨V.on,W.on⟩
 have v:On (aL e) (pt p):=by rw[n];exact g8 w.1 w.2 u (by grind)
 have C:=h.ok e P;obtain⟨d,Y,X,o⟩:=fq.1 (show On ((aL e).1,(aL e).2) (pt p) from v);obtain⟨j,ρ0,Z,hρ⟩:=fq.1 (show On ((aL e).1,(aL e).2) b from w.2);have R:aP (pt p) b=((1 - τ)*(aP a b).1,(1 - τ)*(aP a b).2):=by
  rw[n];have:=gK a b τ 1;rw[hI]at this;exact this
 have B:aP (pt p) b=((j - d)*(aP (aL e).1 (aL e).2).1,(j - d)*(aP (aL e).1 (aL e).2).2):=by grind[gK]
 have XZ:aP a b≠(0,0):=λy=>H (by have:=cy y;grind);have tt:0<1 - τ:=by grind
 have e1:(1 - τ)*(aP a b).1=(j - d)*(aP (aL e).1 (aL e).2).1:=(cy (R.symm.trans B)).1;have e2:(1 - τ)*(aP a b).2=(j - d)*(aP (aL e).1 (aL e).2).2:=(cy (R.symm.trans B)).2;have x:j - d≠0:=by
  grind
 obtain⟨rb,ra,_,ka,kb⟩:=yp C hw v;have S:=pP C;have lies:=(kf C hw).2 v;have F:∀(y:At) (g:Rat),aP (pt p) y=(g*(aP (aL e).1 (aL e).2).1,g*(aP (aL e).1 (aL e).2).2)->0<g*(j - d)->∃k:Rat,0<k/\aP (pt p) y=(k*(aP a b).1,k*(aP a b).2):=by
  intro y g hy hg;refine(ab (g*(1 - τ)/(j - d)) ?_ ?_)
  ·refine fK (b:=(j - d)*(j - d)) ?_ (sq_pos x);have:g*(1 - τ)/(j - d)*((j - d)*(j - d))=(g*(j - d))*(1 - τ):=by grind
   rw[this];exact ff hg tt
  grind
 by_cases dir:d < j
 ·have I:(aL e).2≠pt p:=by
   intro y;have:=jd C.ne (show aI (aL e).1 (aL e).2 1=aI (aL e).1 (aL e).2 d by rw[hI,<-o];exact y);grind
  have L:aP (pt p) (aL e).2=((1 - d)*(aP (aL e).1 (aL e).2).1,(1 - d)*(aP (aL e).1 (aL e).2).2):=by
   rw[o];have:=gK (aL e).1 (aL e).2 d 1;rw[hI]at this;exact this
  refine ae (F _ _ L (ff (by grind) (by grind))) λk M N=>?_;refine ae (kb I) λc Q hc=>?_;have m:direction e.dx e.dy∈ks:=by
   refine(K.mem _).2 (aw.2 (ab (direction e.dx e.dy,e.mark) (bV.2 (ab e P ?_)) rfl));unfold gL;rw[ak lies,ak (ra.2 I)];simp
  obtain⟨i,O⟩:=eJ m;exact⟨a,b,_,τ,k,i,_,⟨l,n,u,A,M,N⟩,λy=>I y.symm,O,(eQ _ _ c S.1 rfl Q hc),z⟩
 ·have J:(aL e).1≠pt p:=by
   intro y;have:=jd C.ne (show aI (aL e).1 (aL e).2 0=aI (aL e).1 (aL e).2 d by rw[hJ,<-o];exact y);grind
  have L:aP (pt p) (aL e).1=((0 - d)*(aP (aL e).1 (aL e).2).1,(0 - d)*(aP (aL e).1 (aL e).2).2):=by
   rw[o];have:=gK (aL e).1 (aL e).2 d 0;rw[hJ]at this;exact this
  refine ae (F _ _ L (wK (by grind) (by grind))) λk M N=>?_;refine ae (ka J) λc Q hc=>?_;have m:direction (-e.dx) (-e.dy)∈ks:=by
   refine(K.mem _).2 (aw.2 (ab (direction (-e.dx) (-e.dy),e.mark) (bV.2 (ab e P ?_)) rfl));unfold gL;rw[ak lies,ak (rb.2 J)];simp
  obtain⟨i,O⟩:=eJ m;exact⟨a,b,_,τ,k,i,_,⟨l,n,u,A,M,N⟩,λy=>J y.symm,O,(eQ _ _ c S.2 rfl Q hc),z⟩
theorem Kq(h:Draws D s){p:P3}(hw:0<p.2.2)(t:κ∈(cX D p).map (·.1)):∃c a b τ k,zG s (pt p) c a b τ k/\pt p≠c/\wy κ (aP (pt p) c):=by
 obtain⟨C,d,rfl⟩:=aw.1 t;refine ae (bV.1 d) λe w d=>?_;have o:=h.ok e w;unfold gL at d;split at d
 ·rename_i lies;have n:=(kf o hw).1 lies;obtain⟨x,z,_,B,A⟩:=yp o hw n;have v:=pP o;obtain⟨e',j,i⟩:∃e',e'∈E s/\(e'=aL e\/e'=sf (aL e)):=by
   rcases h.alike.1 (aL e) (aw.2 (ab e w rfl)) with y | y
   ·exact(aa y <| .inl rfl)
   ·exact(aa y <| .inr rfl)
  have g:On e' (pt p):=by
   rcases i with rfl | rfl
   ·exact n
   ·exact(pG _ _).2 n
  have f:∀c,(c=(aL e).1\/c=(aL e).2)->(c=e'.1\/c=e'.2):=by
   intro c hc;rcases i with rfl | rfl
   ·exact hc
   ·exact hc.symm
  rcases cJ.1 d with d | d
  ·split at d
   ·rename_i b;have m:=x.mp b;have:=eP.1 d;obtain⟨q,r,τ,k,R,_,_⟩:=w8 j g (f (aL e).1 (.inl rfl)) m;refine ae (B m) λc u hc=>?_;exact⟨_,q,r,τ,k,R,λy=>m y.symm,by rw[this];exact(eQ _ _ c v.2 rfl u hc)⟩
   ·simp at d
  ·split at d
   ·rename_i b;have l:=z.mp b;have:=eP.1 d;obtain⟨q,r,τ,k,R,_,_⟩:=w8 j g (f (aL e).2 (.inr rfl)) l;refine ae (A l) λc u hc=>?_;exact⟨_,q,r,τ,k,R,λy=>l y.symm,by rw[this];exact(eQ _ _ c v.1 rfl u hc)⟩
   ·simp at d
 ·simp at d
def uX(U:Nat)(a:List Int):Int:=if ((a.map (fS U)).all λb=>b)=true then 1 else if ((a.map (fS U)).any λb=>b)=true then 2 else 0
theorem Bz(p:Piece)(a:At):lies p a=true↔On (p.1,p.2) a:=by
 unfold lies On;simp
theorem vc{d:Drawing}(h:bC (E s) p r):sL d p r=oL d (p,r)/\sL d r p=oR d (p,r):=by
 have a:=bq h;unfold sL;rw[ak a,ai (bA a)];exact⟨rfl,rfl⟩
theorem Ge(h:Draws D s){p:P3}(hw:0<p.2.2)(K:FZ D p ks):uX U (fY D p ks)=whereOf s U (pt p):=by
 have B:(fY D p ks).length=ks.length+1:=by
  unfold fY;generalize cp D p=m
  induction ks generalizing m with
  | nil=>rfl
  | cons k ks ih=>
   show(runM _ ks _).length+1=_;have:∀(ks:List (Int×Int)) (m:Int),(runM (λk=>(cw (eX D p) k).getD 0) ks m).length=ks.length+1:=by
    intro ks
    induction ks with
    | nil=>intro m;rfl
    | cons k ks ih=>intro m;show(runM _ ks _).length+1=_;rw[ih];rfl
   rw[this];rfl
 have g:∀t,t∈(sided s U).filter (λx=>lies x.p (pt p))↔t∈sided s U/\On (t.p.1,t.p.2) (pt p):=by
  intro t;rw[bh,Bz]
 have F:∀t,t∈sided s U->On (t.p.1,t.p.2) (pt p)->enc (oL s.a t.p) (oL s.b t.p)∈fY D p ks/\enc (oR s.a t.p) (oR s.b t.p)∈fY D p ks:=by
  intro t l v;have n:=(aM.1 l).1;obtain⟨a,b,c,τ,k,i,κ,R,y,O,w,Wc⟩:=xc h hw n v K;obtain⟨m1,m0⟩:=w9 h hw K R y O w;grind[vc,List.mem_of_getElem?]
 have f:ks≠[]->∀m,m∈fY D p ks->∃t,t∈sided s U/\On (t.p.1,t.p.2) (pt p)/\(m=enc (oL s.a t.p) (oL s.b t.p)\/m=enc (oR s.a t.p) (oR s.b t.p)):=by
  intro T m I;obtain⟨j,X⟩:=eJ I;have V:=(bF.1 X).1;rw[B]at V;have use:∀i,i<ks.length->(j=i\/j=i+1)->∃t,t∈sided s U/\On (t.p.1,t.p.2) (pt p)/\(m=enc (oL s.a t.p) (oL s.b t.p)\/m=enc (oR s.a t.p) (oR s.b t.p)):=by
   intro i O W;have Y:=cQ O;generalize ks[i]=κ at Y;obtain⟨c,a,b,τ,k,R,y,w⟩:=Kq h hw ((K.mem κ).1 (bP Y));obtain⟨m1,m0⟩:=w9 h hw K R y Y w;have u:m=enc (sL s.a a b) (sL s.b a b)\/m=enc (sL s.a b a) (sL s.b b a):=by
    rcases W with e | e
    ·simp_all
    ·rw[e,m1]at X;exact .inl (bN X).symm
   have z:On (a,b) (pt p):=by rw[R.ez];exact gW a b R.t0 (by have:=R.t1;grind)
   rcases R.xf with n | n
   ·have M:=vc (d:=s.a) n;have L:=vc (d:=s.b) n;rw[M.1,M.2,L.1,L.2]at u;exact(a8 (Jm s U (a,b)) (aM.2 ⟨n,rfl⟩) z u)
   ·have M:=vc (d:=s.a) n;have L:=vc (d:=s.b) n;rw[M.1,M.2,L.1,L.2]at u;exact(a8 (Jm s U (b,a)) (aM.2 ⟨n,rfl⟩) ((pG (a,b) _).2 z) u.symm)
  have J:0<ks.length:=uA.2 T;rcases qS j with o | o
  ·exact use 0 J (.inl o)
  ·exact use (j-1) (by omega) (.inr (by omega))
 have WA:∀t,t∈sided s U->t.left=fS U (enc (oL s.a t.p) (oL s.b t.p))/\t.right=fS U (enc (oR s.a t.p) (oR s.b t.p)):=by
  intro t l;have e:=(aM.1 l).2;rw[mE,mE,e];exact⟨rfl,rfl⟩
 unfold whereOf;dsimp only
 by_cases N:ks=[]
 ·
  have G:(sided s U).filter (λx=>lies x.p (pt p))=[]:=by
   refine List.eq_nil_iff_forall_not_mem.2 λt l=>?_;obtain⟨l,v⟩:=(g t).1 l;obtain⟨a,b,c,τ,k,i,κ,R,y,O,w,Wc⟩:=xc h hw (aM.1 l).1 v K
   simp_all
  rw[G];have Q:∀e,e∈E s->¬On e (pt p):=by
   intro e C v;obtain⟨q,r,t,n,_,_,t0,t1,l⟩:=Ds C v;have:Jm s U (q,r)∈(sided s U).filter (λx=>lies x.p (pt p)):=(g _).2 ⟨aM.2 ⟨n,rfl⟩,by rw[l];exact gW q r t0 t1⟩;rw[G]at this;simp at this
  have A:∀d:Drawing,(∀e,e∈dX d->e∈E s)->odd d (pt p) (0,0)=l5 (dX d) (pt p):=by
   intro d hd;have:=((CS d (pt p) (0,0)).mono λx _ k=>(by
    rw[k];have:bp (pt p) (0,0) x=pt p:=by unfold bp;grind
    rw[this]:odd d (pt p) (0,0)=iM (dX d) (pt p))).const
   rw[this];exact EL (de d) yi λe C=>Q e (hd e C)
  have Xr:beside s U (pt p) (0,0)=fS U (cp D p):=by
   rw[h.above hw,mE];unfold beside;rw[A s.a λe C=>ir C,A s.b λe C=>iq C]
  have ms:fY D p ks=[cp D p]:=by rw[N];rfl
  rw[ms,Xr];unfold uX
  simp_all
 ·have J:0<ks.length:=uA.2 N;have P:∃m,m∈fY D p ks:=by
   have:0<(fY D p ks).length:=by rw[B];omega
   exact⟨_,List.getElem_mem this⟩
  have S:((sided s U).filter (λx=>lies x.p (pt p))).isEmpty=false:=by
   grind
  rw[S,ai b'];have all1:((fY D p ks).map (fS U)).all (λb=>b)=((sided s U).filter (λx=>lies x.p (pt p))).all λx=>x.left&&x.right:=by
   rw[i6,m3,m3];constructor
   ·simp_all
   ·intro H b Z;obtain⟨m,I,rfl⟩:=aw.1 Z;refine aH (f N m I) λt l v hv=>?_;have q:=H t ((g t).2 ⟨l,v⟩);grind
  have Xu:((fY D p ks).map (fS U)).any (λb=>b)=!(((sided s U).filter (λx=>lies x.p (pt p))).all λx=>!x.left&&!x.right):=by
   have key:((fY D p ks).map (fS U)).any (λb=>b)=false↔(((sided s U).filter (λx=>lies x.p (pt p))).all λx=>!x.left&&!x.right)=true:=by
    rw[List.any_eq_false,m3];constructor
    ·simp_all
    ·intro H b Z;obtain⟨m,I,rfl⟩:=aw.1 Z;refine aH (f N m I) λt l v hv=>?_;have q:=H t ((g t).2 ⟨l,v⟩);grind
   grind
  unfold uX;grind
end M
namespace Wk
open PySem PySem.Spec PyProof.Rows L2
section
variable{X:Cx}
theorem bB:pX X (binaryOp .Mult) (rI IntMulOk λi j=>.int (i*j)):=OS λ_ _ _ _ _ _ _ hc q=>mul_int q hc
def Qz(i j:Int):Prop:=j≠0/\j.natAbs<2^4000
theorem HQ{n k:Nat}(h:n<2^k)(b:0<k):n.log2<k:=by
 rcases qS n with h0 | a
 ·simp_all
 ·exact(Nat.log2_lt (mV a)).2 h
theorem lV:pX X (binaryOp .FloorDiv) (rI Qz λi j=>.int (i.fdiv j)):=OS λ_ _ _ _ _ _ _ hc q=>
 floordiv_int hc.1 q (.inl (PyProof.noPylong_of_log2 (mT (HQ hc.2 (by decide)) (by decide))))
def S_(i j:Int):Prop:=0<=j/\j<=1000000/\i.natAbs<2^4000
theorem bits_le{i:Int}{k:Nat}(h:i.natAbs<2^k)(a:0<k):Builtin.Int.intBits i<=k:=by
 unfold Builtin.Int.intBits;split
 ·exact bZ _
 ·have:=HQ h a;omega
theorem yJ:pX X (binaryOp .LShift) (rI S_ λi j=>.int (i*2^j.toNat)):=OS λi j _ _ _ _ _ hc q=>by
 have a:0<=j:=hc.1;have c:j<=1000000:=hc.2.1;have b:=bits_le hc.2.2 (by decide);exact lshift_int a (by omega) q
theorem yQ{i j:Int}{k:Nat}(e:i.natAbs<2^k)(d:j.natAbs<2^k)(b:0<k)(c:k<=60000000):IntMulOk i j:=by
 have g:=bits_le e b;have f:=bits_le d b;unfold IntMulOk;intro h;rw[c5]at h;have a:=h.2;unfold Builtin.Int.intTooBig at a;have a:=b_ a;have:(bitsLine:Int)=134217728:=by decide
 omega
end
structure Fn(P:Program)(w:World)(K:PySem.W.Frag)(mg:Str->Option Value)(base:Heap)(x:Str)(k:Nat)(ps:List Str)(sp:Sp):Prop where
 ex:∃f fd,dw P w K mg base iG k f fd ps sp/\mg x=some (.ref f)/\PySem.W.keepIn K (.ref f)=true/\Binds K fd ps []
section
variable{X:Cx}{x:Str}{k:Nat}{ps:List Str}{sp:Sp}{e:Expr}{es:List Expr}{t:TA}{p pos:Pos}
theorem bX(F:Fn X.prog X.w X.K X.mg X.base x k ps sp)(c:fB k X.A)(h:Gl X x)(l:PA X (e::es) t)(b:(x==("__debug__":Str))=false:=by decide)(i:starEach (e::es) X.env=(false,eval e X.env)::starEach es X.env:=by rfl)(a:(backTo pos (starEach es X.env)).any (·.1)=false:=by rfl):
  PE X (.Call (.Name x p) (e::es) [] pos) (uU sp [] E0 t):=by
 refine e_ F.ex λf fd F d g j=>?_;exact J6 F c h d g j .nil xh l b i a
end
variable{n k i j l ep:Nat}{a b f p C d g q it c c1 P1 c2 P2 CD dx za da:Addr}{fd:FuncData}{H H' lp:Hp}{o od:Obj}{x qual:Str}{w:World}{e:M.aJ}{X:Cx}{α β:Type}{st:Stmt}{t:Ql55.At×Ql55.At}{r:Ql55.Ring}{v:V}{D:List M.aJ}{es:Array DictEntry}{Q E:Value->Shared->Prop}{xs:List V}{u pm ct:Value}{T S fs:List Addr}{sp:Sp}{pos iF:Pos}{te ta:TE}{ps:List Str}{K:PySem.W.Frag}{h h':Heap}{P:Program}{A:Around}{O:List (Addr×Obj)}{σ:L2.St}{s:Shared}{params:Arguments}{body:Expr}{scope:Scope}{cl:List (Str×Addr)}{mg:Str->Option Value}{ns:List Int}
noncomputable def top(i:Nat):Stmt:=PySem.Challenge.pw_ringfiguresdesk_s01_answers.main.body.getD i (.Pass ⟨0,0,0,0⟩)
def Gx:Sp:=λvs H Q _=>∃a b:Int,vs=[.int a,.int b]/\Q (.int (Int.gcd a b)) H
theorem D5:bc ["a","b","rest"] ["a","b"] (aK (top 1)):=by constructor<;>decide
theorem Iw{a b:Int}(c:b≠0):Int.gcd b (a.fmod b)=Int.gcd a b:=by
 have e:=zT a b;have h:a=a.fmod b+b*a.fdiv b:=by omega
 conv=>rhs;rw[h]
 rw[Int.mul_comm b,Int.gcd_add_mul_right_left,Int.gcd_comm]
theorem KG{a b:Int}(e:b≠0):(a.fmod b).natAbs<b.natAbs:=by
 rcases lJ b 0 with h | h | h
 ·have d:=uH (-a) (show 0 < -b by omega);have c:=uq (-a) (show 0 < -b by omega);rw[Int.neg_fmod_neg]at d c;omega
 ·exact absurd h e
 ·have d:=uH a h;have c:=uq a h;omega
variable{P:Program}{w:World}{K:PySem.W.Frag}{mg:Str->Option Value}{base:Heap}
theorem M_(F:ju K "common_divisor" "common_divisor" (top 1) f fd)(d:mg "abs"=none):dw P w K mg base iG 1 f fd ["a","b"] Gx:=by
 refine F.ok D5 (λvs H Q E h=>?_) (λu A l s H vs Q E y h=>?_)
 ·obtain⟨a,b,rfl,_⟩:=h;rfl
 ·obtain⟨a,b,rfl,k⟩:=h;refine(aa (aj (rD dW (dE OR (pv 1) aq (du _))
   (aj (a_ (i:=2) D5.nd rfl (Or.inl rfl) (a7 J7 (pv 0) (pv 1)))
   (aj (a_ (i:=0) D5.nd rfl (Or.inl rfl) (pv 1))
   (aB (a_ (i:=1) D5.nd rfl (Or.inl rfl) (pv 2))))))
   (aB (bg (df r8 (by rfl) d boot_abs (af (pv 0) ar))))) ?_)
  refine Gd (fun σ H'=>H'=H/\∃g c r,σ=[some (.int g),some (.int c),r]/\Int.gcd g c=Int.gcd a b) (fun σ _=>match σ with
   | [_,some (.int c),_]=>c.natAbs
   | _=>0) ⟨rfl,a,b,none,rfl,rfl⟩ ?_ ?_
  ·rintro σ H' ⟨rfl,g,c,r,rfl,p⟩;refine(cz rfl rfl <| aa rfl ?_)
   by_cases j:c=0
   ·subst j;refine Ig ?_;refine(aa rfl <| ab g rfl ?_);grind[Int.gcd_zero_right]
   ·have e:(!decide (V.int c=V.int 0))=true:=by
     simp_all
    rw[e];refine PK ?_;refine(aa rfl <| aa rfl <| bW rfl rfl j <| aa rfl <| cz rfl ⟨rfl,c,g.fmod c,_,rfl,?_⟩ ?_)
    ·rw[Iw j];exact p
    ·exact KG j
  ·rintro σ H' z x o ⟨v,e,n,m,t,q⟩;exact(a8 v e n <| ab m t <| o _ _ q)
abbrev P3:=M.P3
noncomputable def QG(p:P3):List V:=[.int p.1,.int p.2.1,.int p.2.2]
def d6(H:Hp)(a:Addr)(p:P3):Prop:=H a=some (.bG (QG p))
noncomputable def R1(p:Int×Int):List V:=[.int p.1,.int p.2]
def dv(H:Hp)(a:Addr)(p:Int×Int):Prop:=H a=some (.bG (R1 p))
theorem aE{o:HO}(h:H p=none):aW H (aX H p o):=λb u e=>by rw[ao (aQ e h)];exact e
def Small(n:Int):Prop:=n.natAbs<2^1000
theorem Small.yQ{i j:Int}(b:Small i)(a:Small j):IntMulOk i j:=Wk.yQ b a (by decide) (by decide)
def uZ:Sp:=λvs H Q _=>∃x y w:Int,vs=[.int x,.int y,.int w]/\w≠0/\Small w/\∀H' p,aW H H'->d6 H' p (M.iu x y w)->Q (.ref p) H'
theorem GL:bc ["x","y","w","divisor"] ["x","y","w"] (aK (top 2)):=by constructor<;>decide
theorem FL{x w:Int}(hw:w≠0)(h:Small w):((Int.gcd x w:Nat):Int)≠0/\(Int.gcd x w)<2^4000:=by
 have b:0<Int.gcd x w:=Ar _ hw;have a:Int.gcd x w<=w.natAbs:=Nat.le_of_dvd (by omega) (Int.gcd_dvd_natAbs_right x w);refine⟨by omega,fe a (cK h ?_)⟩;exact uF (by decide) (by decide)
theorem M0(F:ju K "lowest" "lowest" (top 2) f fd)(G:Fn P w K mg base "common_divisor" 1 ["a","b"] Gx):dw P w K mg base iG 2 f fd ["x","y","w"] uZ:=by
 refine F.ok GL (λvs H Q E h=>?_) (λp A j s H vs Q E m h=>?_)
 ·refine aN h λx y d=>ae d λw a _=>?_;subst a;rfl
 ·refine aA h λx d=>e_ d λy e a hw o k=>?_;subst a;refine(aa (aj (a_ (i:=3) GL.nd rfl (Or.inl rfl) (bX G m rfl (af (bX G m rfl (af (pv 0) (af (pv 1) ar))) (af (pv 2) ar))))
   (aj (eR (dE xm (pv 2) aq (du _)) (aB (a_ (i:=3) GL.nd rfl (Or.inl rfl) (Hm Cp (pv 3)))) cv)
   (aB (bg (fX (af (a7 lV (pv 0) (pv 3)) (af (a7 lV (pv 1) (pv 3)) (af (a7 lV (pv 2) (pv 3)) ar)))))))) ?_)
  refine cE (FL (x:=Int.gcd x y) hw o) λr q=>?_;refine(aa rfl <| aa rfl <| br x y rfl <| aa rfl <| br _ _ rfl <| aa rfl <| bD rfl rfl <| aa rfl ?_);generalize n:Int.gcd (Int.gcd x y) e=g at *;refine eL (λb=>?_) (λc=>?_)
  ·have b:e<0:=b_ b;refine(aa rfl <| aa rfl <| aa rfl <| aa rfl <| bW rfl rfl ⟨by omega,by omega⟩ <| aa rfl <| aa rfl <| bW rfl rfl ⟨by omega,by omega⟩ <| aa rfl <| aa rfl <| e8 _ _ rfl rfl ⟨by omega,by omega⟩ (by show 3<=sizeLine;decide) <| λt l=>?_);refine k _ t (aE l) ?_;unfold d6;rw[ah];unfold M.iu;dsimp only;rw[n,ak b];rfl
  ·have c:¬e<0:=λz=>c (bE z);refine(aa rfl <| aa rfl <| bW rfl rfl ⟨by omega,by omega⟩ <| aa rfl <| aa rfl <| bW rfl rfl ⟨by omega,by omega⟩ <| aa rfl <| aa rfl <| e8 _ _ rfl rfl ⟨by omega,by omega⟩ (by show 3<=sizeLine;decide) <| λt l=>?_);refine k _ t (aE l) ?_;unfold d6;rw[ah];unfold M.iu;dsimp only;rw[n,ai c];rfl
def oB:Sp:=λvs H Q _=>∃a p,vs=[.ref a]/\d6 H a p/\p.2.2≠0/\Small p.1/\Small p.2.1/\Small p.2.2/\∀H' b,aW H H'->dv H' b (M.place p)->Q (.ref b) H'
theorem JR:bc ["point"] ["point"] (aK (top 3)):=by constructor<;>decide
theorem lS{n:Int}(h:Small n):n.natAbs<2^4000:=cK h (uF (by decide) (by decide))
theorem HB(F:ju K "place" "place" (top 3) f fd):dw P w K mg base iG 1 f fd ["point"] oB:=by
 refine F.ok JR (λvs H Q E h=>?_) (λn A d s H vs Q E o h=>?_)
 ·refine bI h λa p b _=>?_;subst b;rfl
 ·refine bI h λa p b g=>sj g λc hw l i e k=>?_;subst b;refine(aa (aB (bg (fX (af (a7 lV (a7 yJ (aT aS (pv 0) aq (λ_ _=>rfl)) aq) (aT aS (pv 0) aq (λ_ _=>rfl)))
   (af (a7 lV (a7 yJ (aT aS (pv 0) aq (λ_ _=>rfl)) aq) (aT aS (pv 0) aq (λ_ _=>rfl))) ar))))) ?_)
  refine(aa rfl <| aU a _ _ _ rfl rfl (dU.of c) (aG (j:=0) rfl) <| bW rfl rfl (cO (by decide) (by decide) <| lS l) <| aa rfl <| aU a _ _ _ rfl rfl (dU.of c) (aG (j:=2) rfl) <| bW rfl rfl ⟨hw,lS e⟩ <| aa rfl <| aU a _ _ _ rfl rfl (dU.of c) (aG (j:=1) rfl) <| bW rfl rfl (cO (by decide) (by decide) <| lS i) <| aa rfl <| aU a _ _ _ rfl rfl (dU.of c) (aG (j:=2) rfl) <| e8 _ _ rfl rfl ⟨hw,lS e⟩ (by show 2<=sizeLine;decide) <| λt m=>?_);refine k _ t (aE m) ?_;unfold dv;rw[ah];rfl
def Bd(k:Nat)(n:Int):Prop:=n.natAbs<2^k
theorem Bd.mul{a b:Int}(h:Bd k a)(g:Bd l b):Bd (k+l) (a*b):=by
 unfold Bd at *;rw[f_,Nat.pow_add];exact Nat.mul_lt_mul'' h g
theorem Bd.mono{a:Int}(h:Bd k a)(g:k<=l):Bd l a:=cK h (uF (by decide) g)
theorem Bd.add{a b:Int}(h:Bd k a)(g:Bd k b):Bd (k+1) (a+b):=by
 unfold Bd at *;omega
theorem Bd.sub{a b:Int}(h:Bd k a)(g:Bd k b):Bd (k+1) (a-b):=by
 unfold Bd at *;omega
theorem Bd.neg{a:Int}(h:Bd k a):Bd k (-a):=by
 unfold Bd at *
 simp_all
theorem Bd.small{a:Int}(h:Bd k a)(g:k<=1000):Small a:=h.mono g
theorem Bd.ok{a b:Int}(h:Bd k a)(g:Bd l b)(d:k<=1000)(c:l<=1000):IntMulOk a b:=(h.small d).yQ (g.small c)
def DY:Sp:=λvs H Q _=>∃dx a:Int,vs=[.int dx,.int a]/\Small dx/\Small a/\∀H' b,aW H H'->dv H' b (M.direction dx a)->Q (.ref b) H'
theorem Lm:bc ["dx","dy","slope"] ["dx","dy"] (aK (top 4)):=by constructor<;>decide
theorem Na(F:ju K "direction" "direction" (top 4) f fd):dw P w K mg base iG 1 f fd ["dx","dy"] DY:=by
 refine F.ok Lm (λvs H Q E h=>?_) (λm A e s H vs Q E n h=>?_)
 ·refine bI h λa p c _=>?_;subst c;rfl
 ·refine e_ h λdx g c l j k=>?_;subst c;refine(aa (aj (eR (dE rG (pv 0) aq (du _)) (aB (bg (Ba (dE xn (pv 1) aq (du _)) (fX (af aq (af aq ar))) (fX (af aq (af aq ar)))))) cv)
   (aj (a_ (i:=2) Lm.nd rfl (Or.inl rfl) (a7 lV (a7 yJ (pv 1) aq) (pv 0)))
   (aB (bg (Ba (dE xm (pv 0) aq (du _)) (fX (af aq (af (pv 2) ar))) (fX (af aq (af (pv 2) ar)))))))) ?_)
  refine(cz rfl rfl <| aa rfl ?_);rw[mF];refine eL (λh0=>?_) (λh0=>?_)
  ·have h0:dx=0:=by simpa using h0
   refine(aa rfl <| bD rfl rfl <| aa rfl ?_);refine eL (λb=>?_) (λb=>?_)
   ·have b:0<g:=b_ b;refine⟨(by show 2<=sizeLine;decide),λt d=>k _ t (aE d) ?_⟩;unfold dv M.direction;rw[ah,ak h0,ak b];rfl
   ·have b:¬0<g:=λz=>b (bE z);refine⟨(by show 2<=sizeLine;decide),λt d=>k _ t (aE d) ?_⟩;unfold dv M.direction;rw[ah,ak h0,ai b];rfl
  ·have h0:dx≠0:=by simpa using h0
   refine(aa rfl <| bW rfl rfl (cO (by decide) (by decide) <| lS j) <| aa rfl <| bW rfl rfl ⟨h0,lS l⟩ <| aa rfl <| bD rfl rfl <| aa rfl ?_);refine eL (λb=>?_) (λb=>?_)
   ·have b:dx<0:=b_ b;refine(cz rfl (by show 2<=sizeLine;decide) <| λt d=>k _ t (aE d) ?_);unfold dv M.direction;rw[ah,ai h0,ak b];rfl
   ·have b:¬dx<0:=λz=>b (bE z);refine(cz rfl (by show 2<=sizeLine;decide) <| λt d=>k _ t (aE d) ?_);unfold dv M.direction;rw[ah,ai h0,ai b];rfl
def Js(p:P3):Prop:=Bd 200 p.1/\Bd 200 p.2.1/\Bd 200 p.2.2
def u0:Sp:=λvs H Q _=>∃a b p q,vs=[.ref a,.ref b]/\d6 H a p/\d6 H b q/\Js p/\Js q/\∀H' c,aW H H'->dv H' c (M.bQ p q)->Q (.ref c) H'
theorem CB:bc ["begin","end","dx","dy"] ["begin","end"] (aK (top 5)):=by constructor<;>decide
theorem Ka(F:ju K "heading" "heading" (top 5) f fd)(G:Fn P w K mg base "direction" 1 ["dx","dy"] DY):dw P w K mg base iG 2 f fd ["begin","end"] u0:=by
 refine F.ok CB (λvs H Q E h=>?_) (λu A o s H vs Q E t h=>?_)
 ·refine aN h λa b n=>bI n λp q g _=>?_;subst g;rfl
 ·refine hO h λa b p q g m l e n=>cE n λd k=>?_;subst g;refine(aa (aj (a_ (i:=2) CB.nd rfl (Or.inl rfl) (a7 fM (a7 bB (aT aS (pv 1) aq (λ_ _=>rfl)) (aT aS (pv 0) aq (λ_ _=>rfl))) (a7 bB (aT aS (pv 0) aq (λ_ _=>rfl)) (aT aS (pv 1) aq (λ_ _=>rfl)))))
   (aj (a_ (i:=3) CB.nd rfl (Or.inl rfl) (a7 fM (a7 bB (aT aS (pv 1) aq (λ_ _=>rfl)) (aT aS (pv 0) aq (λ_ _=>rfl))) (a7 bB (aT aS (pv 0) aq (λ_ _=>rfl)) (aT aS (pv 1) aq (λ_ _=>rfl)))))
   (aB (bg (bX G t rfl (af (pv 2) (af (pv 3) ar))))))) ?_)
  refine(aa rfl <| aU b _ _ _ rfl rfl (dU.of l) (aG (j:=0) rfl) <| aa rfl <| aU a _ _ _ rfl rfl (dU.of m) (aG (j:=2) rfl) <| bW rfl rfl (d.1.ok e.2.2 (by decide) (by decide)) <| aa rfl <| aU a _ _ _ rfl rfl (dU.of m) (aG (j:=0) rfl) <| aa rfl <| aU b _ _ _ rfl rfl (dU.of l) (aG (j:=2) rfl) <| bW rfl rfl (e.1.ok d.2.2 (by decide) (by decide)) <| bD rfl rfl <| aa rfl <| aU b _ _ _ rfl rfl (dU.of l) (aG (j:=1) rfl) <| aa rfl <| aU a _ _ _ rfl rfl (dU.of m) (aG (j:=2) rfl) <| bW rfl rfl (d.2.1.ok e.2.2 (by decide) (by decide)) <| aa rfl <| aU a _ _ _ rfl rfl (dU.of m) (aG (j:=1) rfl) <| aa rfl <| aU b _ _ _ rfl rfl (dU.of l) (aG (j:=2) rfl) <| bW rfl rfl (e.2.1.ok d.2.2 (by decide) (by decide)) <| bD rfl rfl <| aa rfl <| aa rfl <| bW rfl ?_ ?_ <| λH' c r hc=>k H' c r hc)
  ·exact((d.1.mul e.2.2).sub (e.1.mul d.2.2)).small (by decide)
  ·exact((d.2.1.mul e.2.2).sub (e.2.1.mul d.2.2)).small (by decide)
noncomputable def jr(e:M.aJ):List (Str×V):=dZ "mark" (.int e.mark) (dZ "dy" (.int e.dy) (dZ "dx" (.int e.dx) (dZ "by" (.int e.bz) (dZ "bx" (.int e.bx) (dZ "ay" (.int e.ay) (dZ "ax" (.int e.ax) []))))))
theorem vE(e:M.aJ):(jr e).lookup ("ax":Str)=some (.int e.ax):=by
 unfold jr;rw[aV,ai (by decide),aV,ai (by decide),aV,ai (by decide),aV,ai (by decide),aV,ai (by decide),aV,ai (by decide),aV,ak rfl]
theorem xA(e:M.aJ):(jr e).lookup ("ay":Str)=some (.int e.ay):=by
 unfold jr;rw[aV,ai (by decide),aV,ai (by decide),aV,ai (by decide),aV,ai (by decide),aV,ai (by decide),aV,ak rfl]
theorem HV(e:M.aJ):(jr e).lookup ("bx":Str)=some (.int e.bx):=by
 unfold jr;rw[aV,ai (by decide),aV,ai (by decide),aV,ai (by decide),aV,ai (by decide),aV,ak rfl]
theorem LA(e:M.aJ):(jr e).lookup ("by":Str)=some (.int e.bz):=by
 unfold jr;rw[aV,ai (by decide),aV,ai (by decide),aV,ai (by decide),aV,ak rfl]
theorem rN(e:M.aJ):(jr e).lookup ("dx":Str)=some (.int e.dx):=by
 unfold jr;rw[aV,ai (by decide),aV,ai (by decide),aV,ak rfl]
theorem rM(e:M.aJ):(jr e).lookup ("dy":Str)=some (.int e.dy):=by
 unfold jr;rw[aV,ai (by decide),aV,ak rfl]
theorem yZ(e:M.aJ):(jr e).lookup ("mark":Str)=some (.int e.mark):=by
 unfold jr;rw[aV,ak rfl]
def kv(C:Addr)(H:Hp)(a:Addr)(e:M.aJ):Prop:=∃dx,H a=some (.ins C dx (jr e))
structure ET(K:PySem.W.Frag)(C:Addr):Prop where
 cl:F6 K C
 ax:gG K C "ax"
 ay:gG K C "ay"
 bx:gG K C "bx"
 bz:gG K C "by"
 dx:gG K C "dx"
 dy:gG K C "dy"
 mark:gG K C "mark"
def Ui(e:M.aJ):Prop:=Bd 20 e.ax/\Bd 20 e.ay/\Bd 20 e.bx/\Bd 20 e.bz/\Bd 20 e.dx/\Bd 20 e.dy
def oT(g:M.aJ->P3->V)(C:Addr):Sp:=λvs H Q _=>∃a b e p,vs=[.ref a,.ref b]/\kv C H a e/\d6 H b p/\Ui e/\Js p/\Q (g e p) H
theorem My:bc ["edge","point"] ["edge","point"] (aK (top 9)):=by constructor<;>decide
theorem OF:bc ["edge","point"] ["edge","point"] (aK (top 10)):=by constructor<;>decide
theorem OG:bc ["edge","point"] ["edge","point"] (aK (top 11)):=by constructor<;>decide
theorem OC:bc ["edge","point"] ["edge","point"] (aK (top 12)):=by constructor<;>decide
theorem J_(F:ju K "side" "side" (top 9) f fd)(T:ET K C):dw P w K mg base iG 1 f fd ["edge","point"] (oT (λe p=>.int (M.o5 e p)) C):=by
 refine F.ok My (λvs H Q E h=>?_) (λu A n s H vs Q E z h=>?_)
 ·refine aN h λa b m=>bI m λe p c _=>?_;subst c;rfl
 ·refine hO h λa b e p c g i v m=>cE m λd k=>?_;subst c;refine(aa (aB (bg (a7 fM (a7 bB (bJ (pv 0) rfl) (a7 fM (aT aS (pv 1) aq (λ_ _=>rfl)) (a7 bB (bJ (pv 0) rfl) (aT aS (pv 1) aq (λ_ _=>rfl)))))
   (a7 bB (bJ (pv 0) rfl) (a7 fM (aT aS (pv 1) aq (λ_ _=>rfl)) (a7 bB (bJ (pv 0) rfl) (aT aS (pv 1) aq (λ_ _=>rfl)))))))) ?_)
  refine sj v λq o D B y x=>?_;have t:=(o.mul d.2.2)
  have r:=(q.mul d.2.2)
  refine aA g λl g=>?_;refine(aa rfl <| cI a C l _ _ rfl g T.cl T.dx (rN e) <| aa rfl <| aU b _ _ _ rfl rfl (dU.of i) (aG (j:=1) rfl) <| aa rfl <| cI a C l _ _ rfl g T.cl T.ay (xA e) <| aa rfl <| aU b _ _ _ rfl rfl (dU.of i) (aG (j:=2) rfl) <| bW rfl rfl (o.ok d.2.2 (by decide) (by decide)) <| bD rfl rfl <| bW rfl rfl (y.ok ((d.2.1.mono (by decide)).sub t) (by decide) (by decide)) <| aa rfl <| cI a C l _ _ rfl g T.cl T.dy (rM e) <| aa rfl <| aU b _ _ _ rfl rfl (dU.of i) (aG (j:=0) rfl) <| aa rfl <| cI a C l _ _ rfl g T.cl T.ax (vE e) <| aa rfl <| aU b _ _ _ rfl rfl (dU.of i) (aG (j:=2) rfl) <| bW rfl rfl (q.ok d.2.2 (by decide) (by decide)) <| bD rfl rfl <| bW rfl rfl (x.ok ((d.1.mono (by decide)).sub r) (by decide) (by decide)) <| bD rfl rfl ?_);exact k
theorem Nb(F:ju K "behind_a" "behind_a" (top 10) f fd)(T:ET K C):dw P w K mg base iG 1 f fd ["edge","point"] (oT (λe p=>.int (M.gj e p)) C):=by
 refine F.ok OF (λvs H Q E h=>?_) (λu A n s H vs Q E z h=>?_)
 ·refine aN h λa b m=>bI m λe p c _=>?_;subst c;rfl
 ·refine hO h λa b e p c g i v m=>cE m λd k=>?_;subst c;refine(aa (aB (bg (a7 iJ (a7 bB (bJ (pv 0) rfl) (a7 fM (aT aS (pv 1) aq (λ_ _=>rfl)) (a7 bB (bJ (pv 0) rfl) (aT aS (pv 1) aq (λ_ _=>rfl)))))
   (a7 bB (bJ (pv 0) rfl) (a7 fM (aT aS (pv 1) aq (λ_ _=>rfl)) (a7 bB (bJ (pv 0) rfl) (aT aS (pv 1) aq (λ_ _=>rfl)))))))) ?_)
  refine sj v λq o D B y x=>?_;have t:=(o.mul d.2.2)
  have r:=(q.mul d.2.2)
  refine aA g λl g=>?_;refine(aa rfl <| cI a C l _ _ rfl g T.cl T.dx (rN e) <| aa rfl <| aU b _ _ _ rfl rfl (dU.of i) (aG (j:=0) rfl) <| aa rfl <| cI a C l _ _ rfl g T.cl T.ax (vE e) <| aa rfl <| aU b _ _ _ rfl rfl (dU.of i) (aG (j:=2) rfl) <| bW rfl rfl (q.ok d.2.2 (by decide) (by decide)) <| bD rfl rfl <| bW rfl rfl (y.ok ((d.1.mono (by decide)).sub r) (by decide) (by decide)) <| aa rfl <| cI a C l _ _ rfl g T.cl T.dy (rM e) <| aa rfl <| aU b _ _ _ rfl rfl (dU.of i) (aG (j:=1) rfl) <| aa rfl <| cI a C l _ _ rfl g T.cl T.ay (xA e) <| aa rfl <| aU b _ _ _ rfl rfl (dU.of i) (aG (j:=2) rfl) <| bW rfl rfl (o.ok d.2.2 (by decide) (by decide)) <| bD rfl rfl <| bW rfl rfl (x.ok ((d.2.1.mono (by decide)).sub t) (by decide) (by decide)) <| bD rfl rfl ?_);exact k
theorem Nc(F:ju K "ahead_of_b" "ahead_of_b" (top 11) f fd)(T:ET K C):dw P w K mg base iG 1 f fd ["edge","point"] (oT (λe p=>.int (M.iN e p)) C):=by
 refine F.ok OG (λvs H Q E h=>?_) (λu A n s H vs Q E z h=>?_)
 ·refine aN h λa b m=>bI m λe p c _=>?_;subst c;rfl
 ·refine hO h λa b e p c g i v m=>cE m λd k=>?_;subst c;refine(aa (aB (bg (a7 iJ (a7 bB (bJ (pv 0) rfl) (a7 fM (a7 bB (bJ (pv 0) rfl) (aT aS (pv 1) aq (λ_ _=>rfl))) (aT aS (pv 1) aq (λ_ _=>rfl))))
   (a7 bB (bJ (pv 0) rfl) (a7 fM (a7 bB (bJ (pv 0) rfl) (aT aS (pv 1) aq (λ_ _=>rfl))) (aT aS (pv 1) aq (λ_ _=>rfl))))))) ?_)
  refine sj v λD B q o y x=>?_;have t:=(q.mul d.2.2)
  have r:=(o.mul d.2.2)
  refine aA g λl g=>?_;refine(aa rfl <| cI a C l _ _ rfl g T.cl T.dx (rN e) <| aa rfl <| cI a C l _ _ rfl g T.cl T.bx (HV e) <| aa rfl <| aU b _ _ _ rfl rfl (dU.of i) (aG (j:=2) rfl) <| bW rfl rfl (q.ok d.2.2 (by decide) (by decide)) <| aa rfl <| aU b _ _ _ rfl rfl (dU.of i) (aG (j:=0) rfl) <| bD rfl rfl <| bW rfl rfl (y.ok (t.sub (d.1.mono (by decide))) (by decide) (by decide)) <| aa rfl <| cI a C l _ _ rfl g T.cl T.dy (rM e) <| aa rfl <| cI a C l _ _ rfl g T.cl T.bz (LA e) <| aa rfl <| aU b _ _ _ rfl rfl (dU.of i) (aG (j:=2) rfl) <| bW rfl rfl (o.ok d.2.2 (by decide) (by decide)) <| aa rfl <| aU b _ _ _ rfl rfl (dU.of i) (aG (j:=1) rfl) <| bD rfl rfl <| bW rfl rfl (x.ok (r.sub (d.2.1.mono (by decide))) (by decide) (by decide)) <| bD rfl rfl ?_);exact k
theorem M'(F:ju K "lies_on" "lies_on" (top 12) f fd)(x:Fn P w K mg base "side" 1 ["edge","point"] (oT (λe p=>.int (M.o5 e p)) C))(v:Fn P w K mg base "behind_a" 1 ["edge","point"] (oT (λe p=>.int (M.gj e p)) C))(u:Fn P w K mg base "ahead_of_b" 1 ["edge","point"] (oT (λe p=>.int (M.iN e p)) C)):dw P w K mg base iG 2 f fd ["edge","point"] (oT (λe p=>.bl (M.fE e p)) C):=by
 refine F.ok OC (λvs H Q E h=>?_) (λt A g s H vs Q E j h=>?_)
 ·refine aN h λa b d=>bI d λe p c _=>?_;subst c;rfl
 ·refine hO h λa b e p c m l q d=>cE d λi k=>?_;subst c;refine(aa (aB (bg (yF (kJ rG (bX x j rfl (af (pv 0) (af (pv 1) ar))) aq (du _)) (yF (kJ Lw (bX v j rfl (af (pv 0) (af (pv 1) ar))) aq (du _)) (CK (kJ Lw (bX u j rfl (af (pv 0) (af (pv 1) ar))) aq (du _))))))) ?_);refine(aa rfl <| aa rfl ⟨a,b,e,p,rfl,m,l,q,i,rfl,aa rfl ?_⟩);rw[mF];have r:Q (.bl (M.fE e p)) H:=k;unfold M.fE at r;refine eL (λo=>?_) (λo=>?_)
  ·have o:M.o5 e p=0:=by simpa using o
   refine(aa rfl <| aa rfl <| bU a b e p rfl m l q i <| bD rfl rfl <| aa rfl ?_);refine eL (λn=>?_) (λn=>?_)
   ·have n:0<=M.gj e p:=b_ n;refine(aa rfl <| aa rfl <| bU a b e p rfl m l q i <| bD rfl rfl ?_)
    simp_all
   simp_all
  simp_all
def kx(i:Int):Prop:=∃u v:Bool,i=M.enc u v
theorem sO{i j:Int}(h:kx i)(g:kx j):kx (M.xr i j):=by
 obtain⟨a,b,rfl⟩:=h;obtain⟨c,d,rfl⟩:=g;exact⟨_,_,M.nB a b c d⟩
theorem pA{i j:Int}(h:kx i)(g:kx j):Builtin.bitXor i j=M.xr i j:=by
 obtain⟨a,b,rfl⟩:=h;obtain⟨c,d,rfl⟩:=g;cases a <;> cases b <;> cases c <;> cases d <;> decide
theorem xH:kx 0:=⟨false,false,rfl⟩
def wO(e:M.aJ):Prop:=Ui e/\(e.mark=1\/e.mark=2)
theorem wO.m(h:wO e):kx e.mark:=by
 rcases h.2 with k | k
 ·exact⟨true,false,k⟩
 ·exact⟨false,true,k⟩
theorem Ij:S6 X .BitXor (G6 λi j=>.int (Builtin.bitXor i j)):=λO s σ H x y u v Q I b a h=>Ks O s σ H x y u v Q I b a h
theorem bf{a:Hp}{o:HO}(s:aW a H)(n:a d=none):aW a (aX H d o):=λb u e=>by
 rw[ao (aQ e n)];exact s b u e
section
variable{α β:Type}{F:α->β->Prop}
theorem Pd.get:∀{l:List α} {m:List β} {i:Nat} {x:α},Paired F l m->l[i]?=some x->∃y,m[i]?=some y/\F x y
 | _,_,_,_,.nil,e=>by simp at e
 | _,_,0,_,.cons r _,e=>by simp_all
 | _,_,i+1,x,.cons _ t,e=>by
  refine ae (Pd.get (i:=i) (x:=x) t (by simpa using e)) λu b a=>?_
  simp_all
end
theorem d_{f:α->β}{l:List α}{y:β}(h:(l.map f)[i]?=some y):∃x,l[i]?=some x/\f x=y:=by
 simp_all
def oV(C:Addr)(H:Hp)(a:Addr)(D:List M.aJ):Prop:=∃b:List Addr,H a=some (.aR (b.map V.ref))/\Paired (kv C H) b D
theorem kv.keep(h:kv C H a e)(s:aW H H'):kv C H' a e:=by
 obtain⟨dx,h⟩:=h;exact⟨dx,s _ _ h⟩
theorem oV.keep{C:Addr}{H H':Hp}{a:Addr}{D:List M.aJ}(h:oV C H a D)(s:aW H H'):oV C H' a D:=by
 refine ae h λb h p=>?_;exact(ab b (s _ _ h) <| Paired.fx p λx e z=>z.keep s)
theorem b7{l:List α}{x:α}(h:l[i]?=some x):l.take (i+1)=l.take i++[x]:=by
 rw[List.take_add_one,h];rfl
theorem yU{c:M.aJ->Bool}{D:List M.aJ}{e:M.aJ}{m:Int}:M.fN c (D++[e]) m=if c e=true then M.xr (M.fN c D m) e.mark else M.fN c D m:=by
 unfold M.fN
 simp_all
theorem lW{c:M.aJ->Bool}:∀{D:List M.aJ} {m:Int},(∀e,e∈D->wO e)->kx m->kx (M.fN c D m)
 | [],_,_,h=>h
 | e::D,m,h,a=>by
  show kx (M.fN c D (if c e=true then M.xr m e.mark else m));refine lW (λf b=>h f (by simp[b])) ?_;split
  ·exact sO a (h e (by simp)).m
  ·exact a
def JF(C:Addr):Sp:=λvs H Q _=>∃a b D p,vs=[.ref a,.ref b]/\oV C H a D/\(∀e,e∈D->wO e)/\d6 H b p/\Js p/\Q (.int (M.cp D p)) H
theorem JS:bc ["edges","point","marks","edge"] ["edges","point"] (aK (top 13)):=by constructor<;>decide
theorem O0(F:ju K "marks_above" "marks_above" (top 13) f fd)(T:ET K C)(Z:Fn P w K mg base "side" 1 ["edge","point"] (oT (λe p=>.int (M.o5 e p)) C)):
  dw P w K mg base iG 2 f fd ["edges","point"] (JF C):=by
 refine F.ok JS (λvs H Q E h=>?_) (λW A q s H vs Q E S h=>?_)
 ·obtain⟨a,b,D,p,rfl,_⟩:=h;rfl
 ·obtain⟨a,b,D,p,rfl,m,J,g,t,k⟩:=h;refine ae m λL m I=>?_;refine(aa (aj (a_ (i:=2) JS.nd rfl (Or.inl rfl) aq) (aj (gE dW rfl (eI (pv 0)) (c6 (i:=3) JS.nd rfl (Or.inl rfl))
   (aB (eR (PW.pt (yu (A0 rF xm (a7 bB (bJ (pv 3) rfl) (aT aS (pv 1) aq (λ_ _=>rfl))) (aT aS (pv 1) aq (λ_ _=>rfl)) (a7 bB (bJ (pv 3) rfl) (aT aS (pv 1) aq (λ_ _=>rfl))))
    (tR (dE xm (bX Z S rfl (af (pv 3) (af (pv 1) ar))) aq (du _)))))
    (aB (yy (i:=2) JS.nd rfl (Or.inl rfl) (bJ (pv 3) rfl) Ij)) cv)))
   (aB (bg (pv 2))))) ?_)
  refine(aa rfl <| a8 a rfl ⟨_,dM.of m⟩ <| eV (xs:=L.map V.ref) (λi σ H'=>H'=H/\∃r,σ=[some (.ref a),some (.ref b),some (.int (M.fN (M.jm p) (D.take i) 0)),r]) ⟨rfl,none,rfl⟩ ?_ ?_ ?_)
  ·rintro i σ H' _ ⟨rfl,_⟩;exact dM.of m
  ·rintro i x0 σ H' u ⟨rfl,r,rfl⟩;obtain⟨x,R,rfl⟩:=d_ u;refine ae (Pd.get I R) λe l N=>aA N λo n=>?_;have v:=J e (bP l);have O:kx (M.fN (M.jm p) (D.take i) 0):=lW (λe l=>J e (ng l)) xH;refine sj v.1 λY b2 X b4 b5 b6=>?_;have d:∀z,z=M.fN (M.jm p) (D.take (i+1)) 0->H'=H'/\∃r,[some (V.ref a),some (V.ref b),some (V.int z),some (V.ref x)]=[some (.ref a),some (.ref b),some (.int (M.fN (M.jm p) (D.take (i+1)) 0)),r]:=by
    rintro z rfl;exact⟨rfl,_,rfl⟩
   have c:=@yU (M.jm p) (D.take i) e 0;rw[<-b7 l]at c;unfold M.jm at c;refine(aa rfl <| cI x C o _ _ rfl n T.cl T.ax (vE e) <| aa rfl <| aU b _ _ _ rfl rfl (dU.of g) (aG (j:=2) rfl) <| bW rfl rfl (Y.ok t.2.2 (by decide) (by decide)) <| aa rfl <| aU b _ _ _ rfl rfl (dU.of g) (aG (j:=0) rfl) <| bD rfl rfl <| aa rfl ?_);refine eL (λG=>?_) (λG=>?_)
   ·refine(aa rfl <| cI x C o _ _ rfl n T.cl T.bx (HV e) <| aa rfl <| aU b _ _ _ rfl rfl (dU.of g) (aG (j:=2) rfl) <| bW rfl rfl (X.ok t.2.2 (by decide) (by decide)) <| bD rfl rfl <| aa rfl ?_);refine eL (λB=>?_) (λB=>?_)
    ·refine(aa rfl <| aa rfl <| bU x b e p rfl ⟨o,n⟩ g v.1 t <| bD rfl rfl <| aa rfl ?_);rw[G,B,gR,gR]at c;refine eL (λy=>?_) (λy=>?_)
     ·rw[ak y]at c;refine(aa rfl <| aa rfl <| cI x C o _ _ rfl n T.cl T.mark (yZ e) <| bD rfl rfl ?_);refine d _ ?_;rw[pA O v.m];exact c.symm
     ·rw[ai y]at c;exact d _ c.symm
    ·rw[h_.2 B,jw,i4,ai b']at c;exact d _ c.symm
   ·rw[h_.2 G,jw,ai b']at c;exact(aa rfl <| Ig (d _ c.symm))
  ·rintro σ H' ⟨rfl,r,rfl⟩;refine(aa rfl ?_);have U:(L.map V.ref).length=D.length:=by rw[aZ];exact ba I
   rw[U,dN];exact k
theorem PS.wk{t t':TS}(h:PS X st t)(m:∀D σ H,t' D σ H->t D σ H):PS X st t':=λO s σ H D I q=>h O s σ H D I (m D σ H q)
section
variable{α β υ:Type}[DecidableEq α][DecidableEq β]{κ:α->β}{g:υ->V}
noncomputable def tab(κ:α->β)(g:υ->V)(d:List (α×υ)):List (β×V):=d.map λx=>(κ x.1,g x.2)
theorem oA(c:∀a b,κ a=κ b->a=b)(k:α):∀d:List (α×υ),gz (tab κ g d) (κ k)=(M.cw d k).map g
 | []=>rfl
 | (f,v)::d=>by
  have h:=oA c k d;show gz ((κ f,g v)::tab κ g d) (κ k)=_;unfold M.cw
  by_cases e:f=k
  ·rw[ak e,fi (p:=(κ f,g v)) (by rw[e])];rfl
  ·rw[ai e,fj (p:=(κ f,g v)) (λz=>e (c _ _ z)),h]
theorem Hc{p:β×V}{r:List (β×V)}{k:β}(e:p.1=k)(h:∀q,q∈r->q.1≠k):hW (p::r) k v=(k,v)::r:=by
 unfold hW;rw[ak (by simp_all)];rw[bw,ak e,e]
 congr 1
 have:∀q,q∈r->(if q.1=k then (q.1,v) else q)=q:=λq a=>ai (h q a);rw[qV this,List.map_id']
theorem Hd{p:β×V}{r:List (β×V)}{k:β}(e:¬p.1=k):hW (p::r) k v=p::hW r k v:=by
 unfold hW;grind
theorem rA(c:∀a b,κ a=κ b->a=b)(k:α)(v:υ):∀d:List (α×υ),(d.map (·.1)).Nodup->hW (tab κ g d) (κ k) (g v)=tab κ g (M.dput d k v)
 | [],_=>rfl
 | (f,h)::d,j=>by
  have i:=cR.1 j;have l:=rA c k v d i.2;show hW ((κ f,g h)::tab κ g d) (κ k) (g v)=_;unfold M.dput
  by_cases e:f=k
  ·rw[ak e,Hc (p:=(κ f,g h)) (by rw[e])]
   ·rw[e];rfl
   ·intro q m z;obtain⟨x,n,rfl⟩:=aw.1 m;grind
  ·rw[ai e,Hd (p:=(κ f,g h)) (λz=>e (c _ _ z)),l];rfl
end
noncomputable def C7(p:Int×Int):List Key:=[.inl p.1,.inl p.2]
theorem y5(a b:Int×Int)(h:C7 a=C7 b):a=b:=by
 unfold C7 at h;grind
noncomputable def y6(p:P3):List Key:=[.inl p.1,.inl p.2.1,.inl p.2.2]
theorem kM(a b:P3)(h:y6 a=y6 b):a=b:=by
 unfold y6 at h;grind
def Jk(H:Hp)(d:Addr)(l:List ((Int×Int)×Int)):Prop:=H d=some (.dT (tab C7 V.int l))
theorem dv.keep{p:Int×Int}(h:dv H a p)(s:aW H H'):dv H' a p:=s _ _ h
theorem d6.keep{p:P3}(h:d6 H a p)(s:aW H H'):d6 H' a p:=s _ _ h
theorem BR{κ:Type}[DecidableEq κ](l:List (κ×Int))(d:List (κ×Int))(e:κ×Int):M.lr (l++[e]) d=M.fZ (M.lr l d) e:=by
 unfold M.lr
 simp_all
theorem BS{κ:Type}[DecidableEq κ]:∀(l:List (κ×Int)) (d:List (κ×Int)),(∀e,e∈l->kx e.2)->(∀e,e∈d->kx e.2)->∀e,e∈M.lr l d->kx e.2
 | [],_,_,h=>h
 | a::l,d,g,i=>by
  refine BS l (M.fZ d a) (λe b=>g e (by simp[b])) ?_;have m:=g a (by simp);unfold M.fZ;have c:kx ((M.cw d a.1).getD 0):=by
   have:∀d:List (κ×Int),(∀e,e∈d->kx e.2)->kx ((M.cw d a.1).getD 0):=by
    intro d
    induction d with
    | nil=>intro _;exact xH
    | cons x d j=>
     intro h;obtain⟨f,v⟩:=x;unfold M.cw;split
     ·exact h (f,v) (by simp)
     simp_all
   exact this d i
  have k:=sO c m;have:∀(d:List (κ×Int)) (v:Int),kx v->(∀e,e∈d->kx e.2)->∀e,e∈M.dput d a.1 v->kx e.2:=by
   intro d v c
   induction d with
   | nil=>intro _ e b;have:e=(a.1,v):=(by simpa[M.dput] using b);rw[this];exact c
   | cons x d j=>
    intro h e b;obtain⟨f,n⟩:=x;unfold M.dput at b;grind
  exact this d _ k i
theorem yV{κ:Type}[DecidableEq κ]{k:κ}:∀{d:List (κ×Int)},(∀e,e∈d->kx e.2)->kx ((M.cw d k).getD 0)
 | [],_=>xH
 | (a,v)::d,h=>by
  unfold M.cw;split
  ·exact h (a,v) (by simp)
  ·exact yV λe b=>h e (by simp[b])
theorem rX{κ:Type}[DecidableEq κ]:∀(l:List (κ×Int)) (d:List (κ×Int)),(M.lr l d).length<=d.length+l.length
 | [],d=>by show d.length<=_;simp
 | a::l,d=>by
  have b:=rX l (M.fZ d a);have:∀(d:List (κ×Int)) k v,(M.dput d k v).length<=d.length+1:=by
   intro d k v
   induction d with
   | nil=>simp[M.dput]
   | cons x d b=>
    obtain⟨g,f⟩:=x;unfold M.dput;split <;> simp <;> omega
  have c:=this d a.1 (M.xr ((M.cw d a.1).getD 0) a.2);have e:(M.fZ d a).length<=d.length+1:=c;show(M.lr l (M.fZ d a)).length<=_;grind
def Mt(C:Addr):Sp:=λvs H Q _=>∃a b D p,vs=[.ref a,.ref b]/\oV C H a D/\(∀e,e∈D->wO e)/\D.length<=200/\d6 H b p/\Js p/\∀H' d,aW H H'->Jk H' d (M.eX D p)->Q (.ref d) H'
theorem GN:bc ["edges","point","changes","edge","ways","way"] ["edges","point"] (aK (top 14)):=by constructor<;>decide
def Gp(C:Addr)(g:M.aJ->P3->Int)(dir:M.aJ->Int×Int):TS:=λD σ H=>∃a b d x l e p xs r,
 σ=[some (.ref a),some (.ref b),some (.ref d),some (.ref x),some (.ref l),r]/\kv C H x e/\wO e/\d6 H b p/\Js p/\H l=some (.aR xs)/\xs.length<10/\
 (¬0<g e p->D.nx σ H)/\(0<g e p->∀H' q,aW H H'->dv H' q (dir e)->D.nx σ (aX H' l (.aR (xs++[.ref q]))))
def Lf(C:Addr):TS:=λD σ H=>∃a b d x l e c f ks r,
 σ=[some (.ref a),some (.ref b),some (.ref d),some (.ref x),some (.ref l),r]/\kv C H x e/\wO e/\H l=some (.aR (f.map V.ref))/\Paired (dv H) f ks/\Jk H d (M.lr c [])/\(∀x,x∈c->kx x.2)/\c.length+ks.length<10000/\
 ∀g,D.nx [some (.ref a),some (.ref b),some (.ref d),some (.ref x),some (.ref l),g] (aX H d (.dT (tab C7 V.int (M.lr (c++ks.map λk=>(k,e.mark)) []))))
theorem wU(p:P3)(e:M.aJ):(M.gL p e).length<=2:=by
 unfold M.gL;split
 ·rw[dC];split <;> split <;> simp
 ·simp
theorem uR(D:List M.aJ)(p:P3):(M.cX D p).length<=2*D.length:=by
 unfold M.cX
 induction D with
 | nil=>simp
 | cons e D a=>
  rw[gv,dC,dj];have:=wU p e;omega
theorem Ax(D:List M.aJ)(e:M.aJ)(p:P3):M.cX (D++[e]) p=M.cX D p++M.gL p e:=by
 unfold M.cX
 simp_all
theorem DK{p:P3}(h:wO e):∀x,x∈M.gL p e->x.2=e.mark:=by
 intro x a;unfold M.gL at a;split at a
 ·rcases cJ.1 a with z | z
  ·simp_all
  simp_all
 ·simp at a
theorem Ay{p:P3}(h:∀e,e∈D->wO e):∀x,x∈M.cX D p->kx x.2:=by
 intro x a;refine ae (bV.1 a) λe b a=>?_;rw[DK (h e b) x a];exact(h e b).m
theorem sz(h:n<10000000):n<sizeLine:=cK h (by rw[lB];decide)
theorem Oy(h:n<10000000):n<=sizeLine:=lC (sz h)
theorem Pg(F:ju K "changes_around" "changes_around" (top 14) f fd)(T:ET K C)(G1:Fn P w K mg base "behind_a" 1 ["edge","point"] (oT (λe p=>.int (M.gj e p)) C))(G2:Fn P w K mg base "ahead_of_b" 1 ["edge","point"] (oT (λe p=>.int (M.iN e p)) C))(G3:Fn P w K mg base "lies_on" 2 ["edge","point"] (oT (λe p=>.bl (M.fE e p)) C))(G4:Fn P w K mg base "direction" 1 ["dx","dy"] DY):
  dw P w K mg base iG 3 f fd ["edges","point"] (Mt C):=by
 refine F.ok GN (λvs H Q E h=>?_) (λwd A dF s H vs Q E hr h=>?_)
 ·refine aN h λa b zz=>bI zz λD p g _=>?_;subst g;rfl
 ·refine hO h λa b D p g hL hD mM zz=>fb zz λhp mp k=>?_;subst g;refine ae hL λas hL pd=>?_;have X:=hr.mono (j:=1) (by decide);have hu:=tG hr;refine(aa (aj (a_ (i:=2) GN.nd rfl (Or.inl rfl) vj) (aj (gE dW rfl (eI (pv 0)) (c6 (i:=3) GN.nd rfl (Or.inl rfl))
   (aB (eR (fW (bX G3 hr rfl (af (pv 3) (af (pv 1) ar))))
    (aj (a_ (i:=4) GN.nd rfl (Or.inl rfl) (eC ar))
    (aj (PS.wk (t':=Gp C M.gj λe=>M.direction (-e.dx) (-e.dy)) (eR (dE xn (bX G1 X rfl (af (pv 3) (af (pv 1) ar))) aq (du _))
     (aB (fJ (kK gf iW iX fV (pv 4) (af (bX G4 X rfl (af (Hm Cp (bJ (pv 3) rfl)) (af (Hm Cp (bJ (pv 3) rfl)) ar))) ar)))) cv) ?_)
    (aj (PS.wk (t':=Gp C M.iN λe=>M.direction e.dx e.dy) (eR (dE xn (bX G2 X rfl (af (pv 3) (af (pv 1) ar))) aq (du _))
     (aB (fJ (kK gf iW iX fV (pv 4) (af (bX G4 X rfl (af (bJ (pv 3) rfl) (af (bJ (pv 3) rfl) ar))) ar)))) cv) ?_)
    (aB (PS.wk (t':=Lf C) (gE dW rfl (eI (pv 4)) (c6 (i:=5) GN.nd rfl (Or.inl rfl))
     (aB (D_ hu (pv 2) (pv 5) (a7 yI (Hw hu (pv 2) (pv 5) aq ⟨rfl,rfl,rfl,rfl⟩) (bJ (pv 3) rfl)) rfl))) ?_))))) cv)))
   (aB (bg (pv 2))))) ?_)
  ·rintro D' σ H' ⟨a,b,d,x,l,e,p,xs,r,rfl,⟨ed,m⟩,G,hp,mp,B,hx,k1,k2⟩;refine sj G.1 λb1 b2 b3 b4 b5 b6=>?_;refine(aa rfl <| aa rfl <| bU x b e p rfl ⟨ed,m⟩ hp G.1 mp <| bD rfl rfl <| aa rfl ?_);refine eL (λv=>?_) (λv=>k1 (λz=>v (bE z)));have v:0<M.gj e p:=b_ v;refine(cz rfl (.inl ⟨rfl,_,dM.of B⟩) <| aa rfl <| cI x C ed _ _ rfl m T.cl T.dx (rN e) <| aa rfl <| aa rfl <| cI x C ed _ _ rfl m T.cl T.dy (rM e) <| aa rfl <| bW rfl ((b5.neg).small (by decide)) ((b6.neg).small (by decide)) <| λn q t Y=>?_);exact(fh l _ _ rfl rfl (t _ _ B) (sz (by omega)) <| k2 v n q t Y)
  ·rintro D' σ H' ⟨a,b,d,x,l,e,p,xs,r,rfl,⟨ed,m⟩,G,hp,mp,B,hx,k1,k2⟩;refine sj G.1 λb1 b2 b3 b4 b5 b6=>?_;refine(aa rfl <| aa rfl <| bU x b e p rfl ⟨ed,m⟩ hp G.1 mp <| bD rfl rfl <| aa rfl ?_);refine eL (λv=>?_) (λv=>k1 (λz=>v (bE z)));have v:0<M.iN e p:=b_ v;refine(cz rfl (.inl ⟨rfl,_,dM.of B⟩) <| aa rfl <| cI x C ed _ _ rfl m T.cl T.dx (rN e) <| aa rfl <| cI x C ed _ _ rfl m T.cl T.dy (rM e) <| bW rfl (b5.small (by decide)) (b6.small (by decide)) <| λn q t Y=>?_);exact(fh l _ _ rfl rfl (t _ _ B) (sz (by omega)) <| k2 v n q t Y)
  ·rintro D' σ H' ⟨a,b,d,x,l,e,l0,ds,ks,r,rfl,⟨ed,m⟩,G,B,pk,hd,m0,Ur,k'⟩;have Yn:=m;have dl:d≠l:=a3 hd B (by intro z;cases z);have Xk:d≠x:=a3 hd m (by intro z;cases z);have self:aX H' d (.dT (tab C7 V.int (M.lr (l0++(ks.take 0).map λk=>(k,e.mark)) [])))=H':=by
    rw[gS,i2,gT]
    funext c
    by_cases z:c=d
    ·subst z;rw[ah];exact hd.symm
    ·rw[ao z]
   refine(aa rfl <| a8 l rfl ⟨_,dM.of B⟩ <| eV (xs:=ds.map V.ref) (λi σ n=>n=aX H' d (.dT (tab C7 V.int (M.lr (l0++(ks.take i).map λk=>(k,e.mark)) [])))/\∃r',σ=[some (.ref a),some (.ref b),some (.ref d),some (.ref x),some (.ref l),r']) ⟨self.symm,r,rfl⟩ ?_ ?_ ?_)
   ·rintro i σ n _ ⟨rfl,_⟩;exact dM.of (by rw[ao (bu dl)];exact B)
   ·rintro i q0 σ n Ip ⟨rfl,r',rfl⟩;refine ae (d_ Ip) λq Y g=>?_;subst g;refine ae (Pd.get pk Y) λW hk hP=>?_;have dq:d≠q:=a3 hd hP (by intro z;cases z);generalize Jq:l0++(ks.take i).map (λk=>(k,e.mark))=U;have mL:∀x,x∈U->kx x.2:=by
     rw[<-Jq];intro x hx;rcases cJ.1 hx with z | z
     ·exact m0 x z
     ·refine ae (aw.1 z) λy _ g=>?_;subst g;exact G.m
    have nL:U.length<10000:=by
     grind
    have S:∀o,aX H' d o d=some o:=λo=>ah;have TC:∀o,aX H' d o q=some (.bG ((C7 W).map kV)):=λo=>by rw[ao (bu dq)];exact hP
    have ln:=rX U [];have nd:=(M.l4 U [] (by simp)).1;have vm:=yV (k:=W) (BS U [] mL (by simp));refine(aa rfl <| a8 d rfl (.inr ⟨_,Rd.of (S _)⟩) <| aa rfl <| aa (sX.t (S _) (TC _)) ?_);rw[oA y5 W];have gd:((M.cw (M.lr U []) W).map V.int).getD (.int 0)=V.int ((M.cw (M.lr U []) W).getD 0):=by
     simp_all
    rw[gd];refine(aa rfl <| cI x C ed _ _ rfl (by rw[ao (bu Xk)];exact m) T.cl T.mark (yZ e) <| bD rfl rfl <| aa rfl <| aa rfl <| eK d _ rfl (F0.t (S _) (TC _) ?_) ?_ ⟨_,rfl⟩)
    ·unfold tab;rw[aZ];exact sz (by simp at ln;omega)
    ·rw[x9];show aX H' d (HO.dT (hW (tab C7 V.int (M.lr U [])) (C7 W) (V.int (Builtin.bitXor ((M.cw (M.lr U []) W).getD 0) e.mark))))=_;rw[pA vm G.m,rA y5 W _ _ nd,b7 hk,b9,<-ia,Jq];show _=aX H' d (.dT (tab C7 V.int (M.lr (U++[(W,e.mark)]) [])));rw[BR];rfl
   grind[List.length_map,Paired.length,List.take_length]
  ·intro d hd;have e0:aX H d (.dT []) d=some (.dT (tab C7 V.int (M.lr (M.cX (D.take 0) p) []))):=ah;refine(aa rfl <| a8 a rfl ⟨_,dM.of (aE hd _ _ hL)⟩ <| eV (xs:=as.map V.ref) (λi σ H'=>aW H H'/\Jk H' d (M.lr (M.cX (D.take i) p) [])/\∃r1 r2 J,σ=[some (.ref a),some (.ref b),some (.ref d),r1,r2,J]) (cO (aE hd) e0 ⟨none,none,none,rfl⟩) ?_ ?_ ?_)
   ·rintro i σ H' _ ⟨t,_⟩;exact dM.of (t _ _ hL)
   ·rintro i x0 σ H' Im ⟨t,I,r1,r2,J,rfl⟩;refine ae (d_ Im) λx hx g=>?_;subst g;refine ae (Pd.get pd hx) λe G m=>?_;have hm:=hD e (bP G);have QO:i<D.length:=(bF.1 G).1;have ev:M.cX (D.take (i+1)) p=M.cX (D.take i) p++M.gL p e:=by rw[b7 G,Ax]
    have Ws:=m.keep t;refine(aa rfl <| aa rfl <| bU x b e p rfl Ws (t _ _ hp) hm.1 mp <| aa rfl ?_);refine eL (λv=>?_) (λv=>?_)
    ·refine⟨(by simp_all),λl B=>?_⟩;have Ga:H l=none:=t.free B;have N:=bf (o:=.aR []) t Ga;have dl:d≠l:=aQ I B;have P_:=uR (D.take i) p;rw[fH]at P_;have m0:∀x,x∈M.cX (D.take i) p->kx x.2:=Ay λe G=>hD e (ng G);have Z:∀n ds r,(∀c o,c≠l->H' c=some o->n c=some o)->n l=some (.aR (ds.map V.ref))->Paired (dv n) ds ((M.gL p e).map (·.1))->
       ∀D':Ends,D'.nx=(fun σ H'=>aW H H'/\Jk H' d (M.lr (M.cX (D.take (i+1)) p) [])/\∃r1 r2 J,σ=[some (.ref a),some (.ref b),some (.ref d),r1,r2,J])->
       Lf C D' [some (.ref a),some (.ref b),some (.ref d),some (.ref x),some (.ref l),r] n:=by
      intro n ds r keep Sk UZ D' Sv;have u:aW H n:=λc o hc=>keep c o (aQ hc Ga) (t c o hc);have S:Jk n d (M.lr (M.cX (D.take i) p) []):=keep d _ dl I;refine⟨a,b,d,x,l,e,M.cX (D.take i) p,ds,_,r,rfl,m.keep u,hm,Sk,UZ,S,m0,?_,λr'=>?_⟩
      ·grind[wU,List.length_map]
      ·rw[Sv];refine(cO (bf u hd) ?_ ⟨_,_,_,rfl⟩);have ee:((M.gL p e).map (·.1)).map (λk=>(k,e.mark))=M.gL p e:=by
        rw[h7];have:∀y,y∈M.gL p e->((λk=>(k,e.mark))∘λx=>x.1) y=y:=λy hy=>by
         grind[DK]
        rw[qV this,List.map_id']
       rw[ee,<-ev];exact ah
     have QR:M.gL p e=(if 0<M.gj e p then [(M.direction (-e.dx) (-e.dy),e.mark)] else [])++(if 0<M.iN e p then [(M.direction e.dx e.dy,e.mark)] else []):=by
      unfold M.gL;rw[ak v]
     refine⟨a,b,d,x,l,e,p,[],J,rfl,m.keep N,hm,N _ _ hp,mp,ah,by decide,λn1=>?_,λn1 n q u Y=>?_⟩
     ·refine⟨a,b,d,x,l,e,p,[],J,rfl,m.keep N,hm,N _ _ hp,mp,ah,by decide,λn2=>?_,λn2 H3 q' L R=>?_⟩
      ·refine Z _ [] J (λc o O hc=>by rw[ao O];exact hc) ah ?_ _ rfl;rw[QR,ai n1,ai n2];exact .nil
      ·have ql:q'≠l:=a3 R (L _ _ ah) (by intro z;cases z);refine Z _ [q'] J (λc o O hc=>by rw[ao O];exact L _ _ (by rw[ao O];exact hc)) ah ?_ _ rfl;rw[QR,ai n1,ak n2];exact .cons (by unfold dv;rw[ao ql];exact R) .nil
     ·have ql:q≠l:=a3 Y (u _ _ ah) (by intro z;cases z);have L:aW H (aX n l (.aR [V.ref q])):=bf (N.trans u) Ga;refine⟨a,b,d,x,l,e,p,[V.ref q],J,rfl,m.keep L,hm,L _ _ hp,mp,ah,by show 1<10;decide,λn2=>?_,λn2 H3 q' OA R=>?_⟩
      ·refine Z _ [q] J (λc o O hc=>by rw[ao O];exact u _ _ (by rw[ao O];exact hc)) ah ?_ _ rfl;rw[QR,ak n1,ai n2];exact .cons (by unfold dv;rw[ao ql];exact Y) .nil
      ·have UL:q'≠l:=a3 R (OA _ _ ah) (by intro z;cases z);refine Z _ [q,q'] J (λc o O hc=>by rw[ao O];exact OA _ _ (by rw[ao O];exact u _ _ (by rw[ao O];exact hc))) ah ?_ _ rfl;rw[QR,ak n1,ak n2];refine .cons (by unfold dv;rw[ao ql];exact OA _ _ (by rw[ao ql];exact Y)) (.cons (by unfold dv;rw[ao UL];exact R) .nil)
    ·have:M.gL p e=[]:=by unfold M.gL;rw[ai v]
     rw[this,gT]at ev;exact(cO t (by rw[ev];exact I) ⟨_,_,_,rfl⟩)
   ·rintro σ H' ⟨t,I,r1,r2,J,rfl⟩;refine(aa rfl ?_);have B:(as.map V.ref).length=D.length:=by rw[aZ];exact ba pd
    rw[B,dN]at I;exact k _ _ t I
def wx(H:Hp)(l:Addr)(ps:List P3):Prop:=∃a:List Addr,H l=some (.aR (a.map V.ref))/\Paired (d6 H) a ps
theorem wx.keep{H H':Hp}{l:Addr}{ps:List P3}(h:wx H l ps)(s:aW H H'):wx H' l ps:=by
 refine ae h λa h p=>?_;exact(ab a (s _ _ h) <| Paired.fx p λx e z=>z.keep s)
theorem oK{x d:Int}(h:Bd k x)(a:d∣x)(h0:d≠0):Bd k (x.fdiv d):=by
 obtain⟨c,rfl⟩:=a;rw[Af _ h0];unfold Bd at *;rw[f_]at h;have:1<=d.natAbs:=by omega
 have:=Nat.mul_le_mul_right c.natAbs this;omega
theorem xw{x y w:Int}(hw:w≠0)(d:Bd k x)(c:Bd k y)(b:Bd k w):Bd k (M.iu x y w).1/\Bd k (M.iu x y w).2.1/\Bd k (M.iu x y w).2.2:=by
 have h:Int.gcd (Int.gcd x y) w≠0:=by
  simp_all
 have e:((Int.gcd (Int.gcd x y) w:Nat):Int)∣w:=qK _ _;have a:((Int.gcd (Int.gcd x y) w:Nat):Int)∣(Int.gcd x y:Nat):=qF _ _;have g:=qo a (qF x y);have f:=qo a (qK x y);unfold M.iu;dsimp only;split
 ·refine(cO (oK d (tZ.2 g) (by omega)) (oK c (tZ.2 f) (by omega)) <| oK b (tZ.2 e) (by omega))
 ·exact(cO (oK d g (by omega)) (oK c f (by omega)) <| oK b e (by omega))
def Mh(C:Addr):Sp:=λvs H Q _=>∃a b e f,vs=[.ref a,.ref b]/\kv C H a e/\kv C H b f/\wO e/\wO f/\∀H' l,aW H H'->wx H' l (M.cV e f)->Q (.ref l) H'
theorem CA:bc ["edge","other","turn","ends","share","point"] ["edge","other"] (aK (top 15)):=by constructor<;>decide
theorem T7:Bd 200 1:=by unfold Bd;decide
theorem OZ(F:ju K "meetings" "meetings" (top 15) f fd)(T:ET K C)(G3:Fn P w K mg base "lies_on" 2 ["edge","point"] (oT (λe p=>.bl (M.fE e p)) C))(G4:Fn P w K mg base "lowest" 2 ["x","y","w"] uZ):
  dw P w K mg base iG 3 f fd ["edge","other"] (Mh C):=by
 refine F.ok CA (λvs H Q E h=>?_) (λwd A dF s H vs Q E R h=>?_)
 ·obtain⟨a,b,D,p,rfl,_⟩:=h;rfl
 ·obtain⟨a,b,e,g,rfl,⟨u,r⟩,⟨n,m⟩,oe,og,k⟩:=h;refine(aa (aj (a_ (i:=2) CA.nd rfl (Or.inl rfl) (a7 fM (a7 bB (bJ (pv 0) rfl) (bJ (pv 1) rfl)) (a7 bB (bJ (pv 0) rfl) (bJ (pv 1) rfl))))
   (aj (eR (dE rG (pv 2) aq (du _))
    (aj (a_ (i:=3) CA.nd rfl (Or.inl rfl) (eC (af (fX (af (bJ (pv 1) rfl) (af (bJ (pv 1) rfl) (af aq ar)))) (af (fX (af (bJ (pv 1) rfl) (af (bJ (pv 1) rfl) (af aq ar)))) ar))))
    (aB (bg (A_ rfl CA.nd (eI (pv 3)) (l' (own:=[("point",5)]) rfl) (λs H C cl fp=>c6 (i:=5) CA.nd rfl (Or.inl rfl))
     (λs H C cl fp=>yw (fW (bX G3 R rfl (af (pv 0) (af (pv 5) ar))))) (λs H C cl fp=>pv 5))))) cv)
   (aj (a_ (i:=4) CA.nd rfl (Or.inl rfl) (a7 fM (a7 bB (a7 fM (bJ (pv 1) rfl) (bJ (pv 0) rfl)) (bJ (pv 1) rfl)) (a7 bB (a7 fM (bJ (pv 1) rfl) (bJ (pv 0) rfl)) (bJ (pv 1) rfl))))
   (aj (a_ (i:=5) CA.nd rfl (Or.inl rfl) (bX G4 R rfl (af (a7 iJ (a7 bB (bJ (pv 0) rfl) (pv 2)) (a7 bB (bJ (pv 0) rfl) (pv 4)))
    (af (a7 iJ (a7 bB (bJ (pv 0) rfl) (pv 2)) (a7 bB (bJ (pv 0) rfl) (pv 4))) (af (pv 2) ar)))))
   (aj (eR (PW.pt (yu (fW (bX G3 R rfl (af (pv 0) (af (pv 5) ar)))) (tR (fW (bX G3 R rfl (af (pv 1) (af (pv 5) ar)))))))
    (aB (bg (eC (af (pv 5) ar)))) cv)
   (aB (bg (eC ar)))))))) ?_)
  refine sj oe.1 λe1 I e3 e4 Z Y=>?_;refine sj og.1 λg1 g2 g3 g4 X W=>?_;refine(aa rfl <| cI a C u _ _ rfl r T.cl T.dx (rN e) <| aa rfl <| cI b C n _ _ rfl m T.cl T.dy (rM g) <| bW rfl rfl (Z.ok W (by decide) (by decide)) <| aa rfl <| cI a C u _ _ rfl r T.cl T.dy (rM e) <| aa rfl <| cI b C n _ _ rfl m T.cl T.dx (rN g) <| bW rfl rfl (Y.ok X (by decide) (by decide)) <| bD rfl rfl <| cz rfl rfl <| aa rfl ?_);rw[mF];have bt:Bd 41 (e.dx*g.dy-e.dy*g.dx):=(Z.mul W).sub (Y.mul X);have mt:M.cV e g=if e.dx*g.dy-e.dy*g.dx=0 then [(g.ax,g.ay,1),(g.bx,g.bz,1)].filter (M.fE e) else
   if (M.fE e (M.iu (e.ax*(e.dx*g.dy-e.dy*g.dx)+e.dx*((g.ax-e.ax)*g.dy-(g.ay-e.ay)*g.dx)) (e.ay*(e.dx*g.dy-e.dy*g.dx)+e.dy*((g.ax-e.ax)*g.dy-(g.ay-e.ay)*g.dx)) (e.dx*g.dy-e.dy*g.dx))&&
    M.fE g (M.iu (e.ax*(e.dx*g.dy-e.dy*g.dx)+e.dx*((g.ax-e.ax)*g.dy-(g.ay-e.ay)*g.dx)) (e.ay*(e.dx*g.dy-e.dy*g.dx)+e.dy*((g.ax-e.ax)*g.dy-(g.ay-e.ay)*g.dx)) (e.dx*g.dy-e.dy*g.dx)))=true
   then [M.iu (e.ax*(e.dx*g.dy-e.dy*g.dx)+e.dx*((g.ax-e.ax)*g.dy-(g.ay-e.ay)*g.dx)) (e.ay*(e.dx*g.dy-e.dy*g.dx)+e.dy*((g.ax-e.ax)*g.dy-(g.ay-e.ay)*g.dx)) (e.dx*g.dy-e.dy*g.dx)] else []:=rfl
  generalize ht:e.dx*g.dy-e.dy*g.dx=t at *;refine eL (λh0=>?_) (λh0=>?_)
  ·have h0:t=0:=by simpa using h0
   rw[ak h0]at mt;refine(aa rfl <| cI b C n _ _ rfl m T.cl T.ax (vE g) <| aa rfl <| sZ b C n _ _ rfl m T.cl T.ay (xA g) (by show 3<=sizeLine;decide) <| λc Vu=>?_);have s1:=aE (o:=.bG [.int g.ax,.int g.ay,.int 1]) Vu;refine(aa rfl <| cI b C n _ _ rfl (s1 _ _ m) T.cl T.bx (HV g) <| aa rfl <| sZ b C n _ _ rfl (s1 _ _ m) T.cl T.bz (LA g) (by show 3<=sizeLine;decide) <| λd Vt=>?_);have s2:=aE (o:=.bG [.int g.bx,.int g.bz,.int 1]) Vt;refine⟨(by show 2<=sizeLine;decide),λl G=>?_⟩;have s3:=aE (o:=.aR [.ref c,.ref d]) G;have p1:d6 (aX H c (.bG [.int g.ax,.int g.ay,.int 1])) c (g.ax,g.ay,1):=ah;have p2:d6 (aX (aX H c (.bG [.int g.ax,.int g.ay,.int 1])) d (.bG [.int g.bx,.int g.bz,.int 1])) d (g.bx,g.bz,1):=ah;have ll:aX (aX (aX H c (.bG [.int g.ax,.int g.ay,.int 1])) d (.bG [.int g.bx,.int g.bz,.int 1])) l (.aR [.ref c,.ref d]) l=some (.aR ([c,d].map V.ref)):=ah;have pp:Paired (d6 (aX (aX (aX H c (.bG [.int g.ax,.int g.ay,.int 1])) d (.bG [.int g.bx,.int g.bz,.int 1])) l (.aR [.ref c,.ref d]))) [c,d] [(g.ax,g.ay,1),(g.bx,g.bz,1)]:=
    .cons (s3 _ _ (s2 _ _ p1)) (.cons (s3 _ _ p2) .nil)
   have B:=(s1.trans s2).trans s3;have O:∀p,p∈[((g.ax,g.ay,1):P3),(g.bx,g.bz,1)]->Js p:=by
    intro p S;rcases aY.1 S with z | z
    ·rw[z];exact(cO (g1.mono (by decide)) (g2.mono (by decide)) T7)
    ·rw[eP.1 z];exact(cO (g3.mono (by decide)) (g4.mono (by decide)) T7)
   generalize Wr:aX (aX (aX H c (.bG [.int g.ax,.int g.ay,.int 1])) d (.bG [.int g.bx,.int g.bz,.int 1])) l (.aR [.ref c,.ref d])=J at *;generalize VB:[((g.ax,g.ay,1):P3),(g.bx,g.bz,1)]=ps at *;have U8:ps.length=2:=by rw[<-VB];rfl
   refine(aa rfl <| a8 l rfl ⟨_,dM.of ll⟩ <| λL hL=>tX (xs:=[c,d].map V.ref) (λi H'=>∃v:List Addr,H'=aX J L (.aR (v.map V.ref))/\Paired (d6 J) v ((ps.take i).filter (M.fE e))) (ab [] rfl <| .nil) ?_ ?_ ?_)
   ·rintro i H' _ ⟨v,rfl,_⟩;exact dM.of (aE hL _ _ ll)
   ·rintro i x0 H' Im ⟨v,rfl,N⟩;obtain⟨x,hx,rfl⟩:=d_ Im;refine ae (Pd.get pp hx) λp S hP=>?_;have tk:(ps.take (i+1)).filter (M.fE e)=(ps.take i).filter (M.fE e)++[p].filter (M.fE e):=by rw[b7 S,lN]
    have sL:∀o,aW J (aX J L o):=λo=>aE hL;refine(⟨rfl,aa rfl <| aa rfl <| bU a x e p rfl ⟨u,sL _ _ _ (B _ _ r)⟩ (sL _ _ _ hP) oe.1 (O p (bP S)) <| aa rfl ?_⟩);refine eL (λU=>?_) (λU=>?_)
    ·have l1:([p].filter (M.fE e))=[p]:=by simp_all
     refine(aa rfl <| cz ah ?_ <| ab (v++[x]) ?_ ?_)
     ·rw[aZ,ba N];refine sz (fe (jB _ _) ?_);grind
     ·rw[x9,b9];rfl
     ·rw[tk,l1];exact fF N hP
    ·have l1:([p].filter (M.fE e))=[]:=by simp_all
     exact(ab v rfl <| by simp_all)
   ·rintro H' ⟨v,rfl,N⟩;have sL:∀o,aW J (aX J L o):=λo=>aE hL;refine k _ _ (B.trans (sL _)) (ab v ah ?_);rw[mt];have I:ps.take (([c,d].map V.ref).length)=ps:=by
     rw[show([c,d].map V.ref).length=ps.length from U8.symm,dN]
    rw[I]at N;exact Paired.fx N λx y z=>z.keep (sL _)
  ·have h0:t≠0:=by simpa using h0
   rw[ai h0]at mt;refine(aa rfl <| cI b C n _ _ rfl m T.cl T.ax (vE g) <| aa rfl <| cI a C u _ _ rfl r T.cl T.ax (vE e) <| bD rfl rfl <| aa rfl <| cI b C n _ _ rfl m T.cl T.dy (rM g) <| bW rfl rfl ((g1.sub e1).ok W (by decide) (by decide)) <| aa rfl <| cI b C n _ _ rfl m T.cl T.ay (xA g) <| aa rfl <| cI a C u _ _ rfl r T.cl T.ay (xA e) <| bD rfl rfl <| aa rfl <| cI b C n _ _ rfl m T.cl T.dx (rN g) <| bW rfl rfl ((g2.sub I).ok X (by decide) (by decide)) <| bD rfl rfl ?_);have bs:Bd 42 ((g.ax-e.ax)*g.dy-(g.ay-e.ay)*g.dx):=((g1.sub e1).mul W).sub ((g2.sub I).mul X);generalize Vy:(g.ax-e.ax)*g.dy-(g.ay-e.ay)*g.dx=sh at *;have bx:Bd 200 (e.ax*t+e.dx*sh):=(((e1.mul bt).mono (l:=62) (by decide)).add (Z.mul bs)).mono (by decide);have bz:Bd 200 (e.ay*t+e.dy*sh):=(((I.mul bt).mono (l:=62) (by decide)).add (Y.mul bs)).mono (by decide);have lb:=xw h0 bx bz (bt.mono (by decide));subst Vy;subst ht;refine(aa rfl <| cI a C u _ _ rfl r T.cl T.ax (vE e) <| aa rfl <| bW rfl rfl (e1.ok bt (by decide) (by decide)) <| aa rfl <| cI a C u _ _ rfl r T.cl T.dx (rN e) <| aa rfl <| bW rfl rfl (Z.ok bs (by decide) (by decide)) <| bD rfl rfl <| aa rfl <| cI a C u _ _ rfl r T.cl T.ay (xA e) <| aa rfl <| bW rfl rfl (I.ok bt (by decide) (by decide)) <| aa rfl <| cI a C u _ _ rfl r T.cl T.dy (rM e) <| aa rfl <| bW rfl rfl (Y.ok bs (by decide) (by decide)) <| bD rfl rfl <| aa rfl <| eQ _ _ _ rfl h0 (bt.small (by decide)) <| λH' q B hq=>?_);refine(aa rfl <| aa rfl <| bU a q e _ rfl ⟨u,B _ _ r⟩ hq oe.1 lb <| aa rfl ?_);generalize Yd:M.iu (e.ax*(e.dx*g.dy-e.dy*g.dx)+e.dx*((g.ax-e.ax)*g.dy-(g.ay-e.ay)*g.dx)) (e.ay*(e.dx*g.dy-e.dy*g.dx)+e.dy*((g.ax-e.ax)*g.dy-(g.ay-e.ay)*g.dx)) (e.dx*g.dy-e.dy*g.dx)=p at *;have j:Oj (Oq mK) { nx:=λ_ H'=>Q .gH H',rt:=Q } [some (.ref a),some (.ref b),some (.int (e.dx*g.dy-e.dy*g.dx)),none,some (.int ((g.ax-e.ax)*g.dy-(g.ay-e.ay)*g.dx)),some (.ref q)] H'\/(M.fE e p&&M.fE g p)=true:=by
    by_cases z:(M.fE e p&&M.fE g p)=true
    ·exact .inr z
    ·refine .inl ⟨(by simp_all),λl G=>k _ _ (B.trans (aE G)) (ab [] ah ?_)⟩;rw[mt,ai z];exact .nil
   refine eL (λU=>?_) (λU=>?_)
   ·refine(aa rfl <| aa rfl <| bU b q g p rfl ⟨n,B _ _ m⟩ hq og.1 lb <| aa rfl ?_);refine eL (λh2=>?_) (λh2=>?_)
    ·refine(cz rfl (by show 1<=sizeLine;decide) <| λl G=>k _ _ (B.trans (aE G)) (ab [q] ah ?_));rw[mt,U,h2];exact .cons (aE G _ _ hq) .nil
    ·rcases j with z | z
     ·exact z
     simp_all
   ·rcases j with z | z
    ·exact z
    simp_all
theorem Gs:isSubtype (.type "dict") (.type "dict")=pure true:=by rw[isSubtype_type];kernel_rfl
section
variable{prog:Program}{w:World}{A:Around}{E:Value->Shared->Prop}{s:Shared}
theorem ES(r:A.handled=none)(J d:Addr)(k:d≠J)(od:Obj)(es:Array DictEntry)(ep:Nat)(j:od.data=.dict es ep):
  Walks prog w A J [J,d] [J] es.size (λi v=>∃a,es[i]?=some a/\v=a.key) (λi h=>h.IsKeyIter J d i es.size ep/\h.get? d=some od) where
 sub:=λb c=>by simp at c;simp[c]
 frame:=λ_ _ _ st p=>⟨st.1.at λo e=>p J (by simp) o e,p d (by simp) od st.2⟩
 item:=λi s Q E q st m=>by
  obtain⟨a,n⟩:∃a,es[i]?=some a:=⟨es[i],by simp[q]⟩
  refine wJ st.1 st.2 j rfl n λh' g f=>?_;exact m a.key h' s.toks (ab a n rfl) ⟨g,(f.2 d k).trans st.2⟩ λb o c e=>(f.2 b (λh=>c (by simp[h]))).trans e
 done:=λs Q E st m=>yO r st.1 st.2 j rfl (a0 _) λh' l=>m h' s.toks λb o c e=>l b o (λh=>c (by simp[h])) e
 self:=λi s Q E st h=>by
  refine ud st.1.typeIs z3 (iS z3 st.1.typeIs F.entry_dict_keyiterator_iter ?_ (F.args_dict_keyiterator_iter_1 _));show wpAny _ _ (ret (.ref J)) _ _ s;exact au (aa rfl <| aO ("dict_keyiterator") _ st.1.typeIs oy.lookup h)
theorem C_{a:Array Value}(h:ItemsOf (λi v=>∃b,es[i]?=some b/\v=b.key) a es.size):a.toList=es.toList.map (·.key):=by
 refine List.ext_getElem? λi=>?_;rw[gw,q7,q7];cases e:a[i]? with
 | none=>
  have:es[i]?=none:=by
   rw[Array.getElem?_eq_none_iff]at e ⊢;rw[h.1]at e;exact e
  rw[this];rfl
 | some v=>
  obtain⟨b,c,rfl⟩:=h.2 i v e;rw[c];rfl
theorem zu{Q:List Value->Shared->Prop}(U:A.handled=none)(R:(d==sysModules)=false)(K:s.heap.get? d=some od)(J:od.ExactDict)(u:od.data=.dict es ep)(S:es.size<=sizeLine)(V:∀h' O,(∀b o,s.heap.get? b=some o->h'.get? b=some o)->Q (es.toList.map (·.key)) { s with heap:=h',toks:=O }):wpAny (model prog w) A (collect (.ref d)) Q E s:=by
 have m:=bo K;unfold collect;refine ag (wpAny_runValue (i5 F.entry_proto_collect ?_));rw[kC F.plain_proto_collect _];show wpAny _ A.in1 (newList [] >>= λl=>again (.builtin "list.__iadd__" ⟨[l,.ref d],[]⟩)) _ _ s;refine ag (jz ?_);refine au ⟨gJ F.plain_list_iadd _,i5 F.entry_list_iadd ?_⟩;rw[kC F.plain_list_iadd _];have n:(s.heap.push { cls:=.type "list",data:=.seq ([]:List Value).toArray }).get? d=some od:=bT _ K;show wpAny _ A.in1 (Builtin.List.listExtendWith (.ref s.heap.objs.size) (.ref d) (.ref s.heap.objs.size)) _ _ _;unfold Builtin.List.listExtendWith;have x:∀i:Shared,i.heap.get? d=some od->i.TypeIs (.ref d) "dict":=λi e=>(ab od e J.1)
 refine ag (wpAny_typeOf (x _ n) ?_);have h1:Builtin.List.listSameRef (.ref s.heap.objs.size) (.ref d)=false:=by simp[Builtin.List.listSameRef,mV m]
 have Z:(Value.type "dict"==Value.type "list")=false:=by decide
 have Y:(Value.type "dict"==Value.type "tuple")=false:=by decide
 simp only[h1,Z,Y,mY,fc,cx];refine ag (FA R n J u ?_);refine ag (eO ?_);have j:((s.heap.push { cls:=.type "list",data:=.seq ([]:List Value).toArray }).push { cls:=.type "dict_keyiterator",data:=.fields #[.ref d,.int 0 0,.int es.size 0,.int ep 0] }).get? d=some od:=bT _ n;unfold Builtin.List.listLengthHint;refine ag (lF (x _ j) F.slot_dict_len.lookup ?_);generalize t:("dict.__len__":String)=y
 wp_delta
 rw[show splitId y=some ("dict","__len__") from by subst t;decide];subst t;refine ag (lG (b:=true) (x _ j) Gs ?_);refine(show ∀{a b:Sem Bool} {M:Bool->Shared->Prop} {N:Value->Shared->Prop} {i:Shared},wpAny (model prog w) A.in1 b M N i->wpAny (model prog w) A.in1 (if (!true)=true then a else b) M N i from λh=>h) ?_;dsimp only;rw[ak (by decide)];refine ag (wpAny_typeOf (x _ j) ?_);refine au ?_;rw[ak (by decide)];refine ag (lA ?_);refine ag ?_;show wpAny _ A.in1 (updateSeq s.heap.objs.size (·.push .none) >>= λ_=>updateSeq s.heap.objs.size (·.pop)) _ _ _;have f:((s.heap.push { cls:=.type "list",data:=.seq ([]:List Value).toArray }).push { cls:=.type "dict_keyiterator",data:=.fields #[.ref d,.int 0 0,.int es.size 0,.int ep 0] }).get? s.heap.objs.size=some { cls:=.type "list",data:=.seq ([]:List Value).toArray }:=bT _ (cu _ rfl);have X:(s.heap.push { cls:=.type "list",data:=.seq ([]:List Value).toArray }).objs.size=s.heap.objs.size+1:=f7 ..;have q:((s.heap.push { cls:=.type "list",data:=.seq ([]:List Value).toArray }).push { cls:=.type "dict_keyiterator",data:=.fields #[.ref d,.int 0 0,.int es.size 0,.int ep 0] }).IsKeyIter (s.heap.push { cls:=.type "list",data:=.seq ([]:List Value).toArray }).objs.size d 0 es.size ep:=(cz (cu _ rfl) rfl rfl)
 have r:∀b o,s.heap.get? b=some o->((s.heap.push { cls:=.type "list",data:=.seq ([]:List Value).toArray }).push { cls:=.type "dict_keyiterator",data:=.fields #[.ref d,.int 0 0,.int es.size 0,.int ep 0] }).get? b=some o:=λb o e=>bT _ (bT _ e);generalize ((s.heap.push { cls:=.type "list",data:=.seq ([]:List Value).toArray }).push { cls:=.type "dict_keyiterator",data:=.fields #[.ref d,.int 0 0,.int es.size 0,.int ep 0] })=g at *;rw[X]at *;refine ag (jy f rfl ?_);have c:=m9 (Obj.mapSeq (·.push Value.none)) f rfl;refine jy c rfl ?_;have p:=m9 (Obj.mapSeq (·.pop)) c rfl;have k:∀b o,b≠s.heap.objs.size->g.get? b=some o->((g.update s.heap.objs.size (Obj.mapSeq (·.push Value.none))).update s.heap.objs.size (Obj.mapSeq (·.pop))).get? b=some o:=
  λb o B e=>(qY _ _ (bu B)).trans ((qY _ _ (bu B)).trans e)
 have W:=(ES (prog:=prog) (w:=w) (A:=A.in1.in1) U (s.heap.objs.size+1) d (b8 (m6 m)) od es ep u).toS;refine au ⟨gJ F.plain_extend_loop _,codeAny_extend_loopS W.of_in1 S _ (by
  intro z
  simp_all) _ es.size 0 _ _ _ rfl (bZ _)
  ⟨q.at λo e=>k _ o (Nat.succ_ne_self _) e,k _ _ (b8 m) j⟩ p (ItemsOf.nil _) λi L c' T C v=>?_⟩
 show wpAny _ A (load s.heap.objs.size >>= _) _ _ i;refine ag (wpAny_load C ?_);refine au ?_;rw[C_ v];obtain⟨h',g',d',P,o'⟩:=i;obtain⟨I,H,G,D,m5⟩:=T;dsimp only at I H G D;subst H G D;refine V h' P λb o e=>I b o ?_ (k b o (b8 (bo e)) (r b o e));have B:=bo e;grind
end
def Cy:Nat->Bool:=λ_=>false
noncomputable def ltI(a b:List Int):Bool:=PyProof.Rows.lexLt itemOrd (a.map Sum.inl) (b.map Sum.inl)
theorem oY:∀(i:Nat) {ns:List Int} {vs:List Value},Vals (ns.map V.int) vs->tupItems Cy i vs=some (ns.map Sum.inl)
 | _,[],_,r=>by rw[i2]at r;cases r;simp[tupItems]
 | i,n::ns,_,r=>by
  rw[bw]at r;cases r with
  | @cons a b e c h t=>
   obtain⟨d,rfl⟩:=(show ∃d,b=Value.int n d from h)
   have f:=oY (i+1) t;show(if Cy i=true then none else (tupItems Cy (i+1) c).map (Sum.inl n::·))=_;rw[ai (by unfold Cy;simp_all),f];rfl
section
variable{P:Program}{w:World}{H:Hp}{h:Heap}{b:Addr}{ns:List Int}
theorem DN(d:mN P w H h)(e:H b=some (.bG (ns.map V.int))):∃o a n,h.get? b=some o/\o.cls=.type "tuple"/\o.data=.seq a n/\Vals (ns.map V.int) a.toList:=by
 refine cE (show dR P w H h b (.bG (ns.map V.int)) from d b _ e) λ_ c=>ae c λa r c=>aH c λo i g c=>aA c λn f=>?_;exact(eQ o a.toArray n i g f <| by simpa using r)
theorem AE(c:mN P w H h)(e:H b=some (.bG (ns.map V.int))):G.tupKeyC h Cy (.ref b)=some (ns.map Sum.inl):=by
 obtain⟨o,d,n,a,g,f,r⟩:=DN c e;have hc:G.isTupObj h (.ref b)=true:=by
  simp only[G.isTupObj,a,g];rfl
 unfold G.tupKeyC;rw[ak hc];simp only[tupKey,a,f];exact oY 0 r
theorem Jy(g:mN P w H h)(e:H b=some (.bG (ns.map V.int)))(c:ns≠[]):∃f,TupOf h Cy (.ref b) f:=by
 obtain⟨o,a,n,l,k,j,r⟩:=DN g e;cases ns with
 | nil=>exact absurd rfl c
 | cons m ns=>
  rw[bw]at r;refine ae (r.get (i:=0) (x:=V.int m) rfl) λu p d=>?_;obtain⟨t,rfl⟩:=(show ∃t,u=Value.int m t from d)
  exact(sZ _ b o a n rfl l k j (by simp_all) (λ_=>⟨m,t,rfl⟩) <| λz=>absurd z (by unfold Cy;simp_all))
theorem uS(d:mN P w H h):∀{e:List Addr} {ks:List (List Int)},Paired (λb k=>H b=some (.bG (k.map V.int))/\k≠[]) e ks->∃fs,TupsOf h Cy (e.map Value.ref) fs
 | _,_,.nil=>⟨[],.nil⟩
 | _,_,.cons a t=>by
  obtain⟨f,g⟩:=Jy d a.1 a.2;obtain⟨fs,c⟩:=uS d t;exact⟨f::fs,.cons g c⟩
end
theorem jc{g:α->β}{l m:List β}(h:l.Perm m):∀T:List α,m=T.map g->∃a:List α,a.Perm T/\l=a.map g:=by
 induction h with
 | nil=>
  simp_all
 | @cons x j i _ o=>
  intro T e;cases T with
  | nil=>simp at e
  | cons t T=>
   rw[bw]at e;injection e with e1 b;refine ae (o T b) λa p q=>?_;exact(ab (t::a) (p.cons t) <| by rw[q,e1];rfl)
 | swap x y l=>
  intro T e
  match T,e with
  | t::u::T,e=>
   simp only[bw]at e;injection e with e1 b;injection b with b r;exact(ab (u::t::T) (List.Perm.swap t u T) <| by rw[e1,b,r];rfl)
 | trans _ _ d c=>
  intro T e;refine ae (c T e) λa p q=>?_;refine ae (d a q) λf n k=>?_;exact(ab f (n.trans p) k)
section
variable{prog:Program}{w:World}{A:Around}{E:Value->Shared->Prop}{s:Shared}{a kS:Addr}{keys:Array Value}{vs:List Value}{e e1:Nat}{P:PySem.Fin->Shared->Prop}
theorem D2{st:SortSt}(j:s.heap.get? kS=some (seqObj "list" keys e))(k:s.heap.get? a=some (seqObj "list" #[] e1))(c:kS≠a)(g:keys.size<=sizeLine)(f:(arrOf st).size<=sizeLine)(i:failedOf st=none)(h:P (.done (.ret .none)) { s with heap:=(s.heap.update kS (Obj.mapSeq λ_=>#[])).update a (Obj.mapSeq λ_=>(arrOf st).map (·.2)) }):
  wpAny (model prog w) A (ksk_tail a false e1 (.ref kS) st) P E s:=by
 have d:=kB s.heap kS (Obj.mapSeq λ_=>(#[]:Array Value));have b:(s.heap.update kS (Obj.mapSeq λ_=>(#[]:Array Value))).get? a=some (seqObj "list" #[] e1):=(d.2 a c.symm).trans k;unfold ksk_tail
 try dsimp only
 refine ag (p8 j rfl ?_ g (bZ _));refine ag (gI ?_);refine ag (seqEpoch_at b rfl ?_);refine ag (p8 b rfl ?_ (bZ _) (by grind));rw[i];simp only[bne_self_eq_false,fc,cx];exact au h
theorem Mv{κ:PyProof.Rows.KeyKind}{kd:SortKind}(n:s.heap.get? kS=some (seqObj "list" keys e))(o:s.heap.get? a=some (seqObj "list" #[] e1))(d:kS≠a)(m:keys.size=vs.length)(C:vs.length<=sizeLine)(h0:KeysOf κ (keys.zip vs.toArray))(u:G.LtAt prog w s κ kd)(l:2<=vs.length->∀{Q:SortKind->Shared->Prop},Q kd s->wpAny (model prog w) A (keyKind' keys) Q E s)(h:∀c:Array Keyed,c.Perm (keys.zip vs.toArray)->SortedToK κ c c.size->P (.done (.ret .none)) { s with heap:=(s.heap.update kS (Obj.mapSeq λ_=>#[])).update a (Obj.mapSeq λ_=>c.map (·.2)) }):
  wpAny (model prog w) A (ksk_end a false vs.toArray e1 (.ref kS) keys) P E s:=by
 have g:(keys.zip vs.toArray).size=vs.length:=by simp_all
 unfold ksk_end
 try dsimp only
 simp only[fc,cx]
 by_cases f:vs.toArray.size<2
 ·rw[ak f,ak f];refine ag (au ?_);rw[StateT.run_pure];refine ag (au ?_)
  try dsimp only
  refine D2 (st:=SortSt.mk' general' (keys.zip vs.toArray) #[] 7 none) n o d (by omega) (by grind) rfl (h (keys.zip vs.toArray) (Array.Perm.refl _) ?_);intro i j r B;grind[List.size_toArray,KeyOrd.kle_refl]
 ·rw[ai f,ai f];rw[cS]at f;refine ag (l (by omega) ?_);refine ag (d7 (G.wpS_sortRunsSt (κ:=κ) (kd:=kd) (a₀:=keys.zip vs.toArray) (st:=SortSt.mk' kd (keys.zip vs.toArray) #[] 7 none)
   (Q:=λ_ b=>(arrOf b).Perm (keys.zip vs.toArray)/\failedOf b=none/\SortedToK κ (arrOf b) (keys.zip vs.toArray).size)
   u h0 ⟨Array.Perm.refl _,rfl,rfl⟩ rfl (Stable.refl _) (by rw[g];omega) λb y x v D=>(cO y x v)) ?_ λ_ _ e=>e)
  rintro⟨⟨⟩,b⟩ z ⟨rfl,k,t,q⟩
  try dsimp only
  exact D2 n o d (by omega) (by rw[k.size_eq];omega) t (h _ k (by rw[k.size_eq];exact q))
end
abbrev Ny(X:Cx):Cx:={ X with A:=X.A.in1.in1,xe:=λ_ _=>False }
section
variable{X:Cx}{O:List (Addr×Obj)}{σ:L2.St}{H:Hp}{s:Shared}
theorem Le(I:Inv X O σ H s):Inv (Ny X) O σ H s:=
 ⟨⟨I.ok.mod,I.ok.kind,I.ok.glob,I.ok.blt,I.ok.above,I.ok.inj,I.ok.has,I.ok.K2,I.ok.hd,I.ok.frames,I.ok.Ll,I.ok.LH,I.ok.bs,I.ok.Dz,I.ok.yM,I.ok.zh,I.ok.oi,I.ok.Gb⟩,I.os,I.bare,I.base,I.loc,I.cell,I.free,I.iA,I.pin,I.dS,I.len⟩
theorem Lx(I:Inv (Ny X) O σ H s):Inv X O σ H s:=
 ⟨⟨I.ok.mod,I.ok.kind,I.ok.glob,I.ok.blt,I.ok.above,I.ok.inj,I.ok.has,I.ok.K2,I.ok.hd,I.ok.frames,I.ok.Ll,I.ok.LH,I.ok.bs,I.ok.Dz,I.ok.yM,I.ok.zh,I.ok.oi,I.ok.Gb⟩,I.os,I.bare,I.base,I.loc,I.cell,I.free,I.iA,I.pin,I.dS,I.len⟩
end
def Jf(X:Cx)(f:Value)(kt:L2.St->V->Hp->VK->Prop):Prop:=∀O s σ H x u Q,Inv X O σ H s->bY x u->kt σ x H Q->
 wpAny (model X.prog X.w) X.A (call f [u]) (EP X O σ Q) (λ_ _=>False) s
theorem oz:∀{bs:List Addr} {a:List Value},Vals (bs.map V.ref) a->a=bs.map Value.ref
 | [],_,r=>by rw[i2]at r;cases r;rfl
 | b::bs,_,r=>by
  rw[bw]at r;cases r with
  | cons h t=>rw[oz t,bw,show _=Value.ref b from h]
theorem sx:∀a:List Addr,Vals (a.map V.ref) (a.map Value.ref)
 | []=>.nil
 | b::a=>.cons rfl (sx a)
theorem Jx{a:List Value}(r:Vals xs a)(h:a[j]?=some u):∃x,xs[j]?=some x/\bY x u:=by
 have c:=r.length;have d:j<xs.length:=by rw[c];exact(bF.1 h).1
 have e:xs[j]?=some xs[j]:=cQ d;refine ae (r.get e) λg b f=>?_;rw[h]at b;cases b;exact(aa e f)
theorem rows{ks:V->List Int}{e:Addr->V->Prop}:∀{b:List Addr} {xs:List V} {vs:List Value},Paired e b xs->Vals xs vs->
  ∃T:List (Addr×V×Value),T.map (·.1)=b/\T.map (·.2.1)=xs/\T.map (·.2.2)=vs/\(∀t,t∈T->e t.1 t.2.1/\bY t.2.1 t.2.2)/\(b.map Value.ref).zip vs=T.map λt=>(Value.ref t.1,t.2.2)
 | _,_,_,.nil,r=>by cases r;exact⟨[],rfl,rfl,rfl,λt h=>(uh h).elim,rfl⟩
 | _,_,_,.cons h t,r=>by
  cases r with
  | @cons x u d c i g=>
   refine dG (rows (ks:=ks) t g) λT l k n j m=>?_;refine⟨(_,_,u)::T,by rw[bw,l],by rw[bw,k],by simp_all,?_,by simp_all⟩;intro f a;rcases aY.1 a with rfl | a
   ·exact⟨h,i⟩
   ·exact j f a
theorem HK{T:List (Addr×V×Value)}(h:∀t,t∈T->bY t.2.1 t.2.2):Vals (T.map (·.2.1)) (T.map (·.2.2)):=by
 induction T with
 | nil=>exact .nil
 | cons t T a=>exact .cons (h t (by simp)) (a λu b=>h u (by simp[b]))
section
variable{X:Cx}{O:List (Addr×Obj)}{σ:L2.St}{H Hb:Hp}{s:Shared}{f:Value}{kt:L2.St->V->Hp->VK->Prop}{a:Addr}{xs:List V}{ks:V->List Int}{P:PySem.Fin->Shared->Prop}{E:Value->Shared->Prop}
theorem E2(hk:Jf X f kt)(I:Inv X O σ H s)(ha:H a=some (.aR xs))(sb:aW Hb H)(na:Hb a=none)(hz:xs.length<=1000000)(Qa:∀H' x,aW Hb H'->x∈xs->kt σ x H' λr lp=>∃b,r=.ref b/\aW H' lp/\lp b=some (.bG ((ks x).map V.int))/\ks x≠[])(h:∀l H' ys,Inv X O σ H' l->aW Hb H'->H' a=some (.aR ys)->ys.Perm xs->ys.Pairwise (λx y=>ltI (ks y) (ks x)=false)->P (.done (.ret .none)) l):
  wpAny (model X.prog X.w) X.A (ksk_tree a f false) P E s:=by
 refine cE (I.nV ha) λz D=>aF D λg n r hl e=>?_;have hZ:g.length<=sizeLine:=by rw[<-hl];exact z
 have Ur:xs.length<sizeLine:=sz (by omega);have nf:=I.Pm ha trivial;have I1:Inv X O σ (aX H a (.aR [])) { s with heap:=s.heap.update a (Obj.mapSeq λ_=>(#[]:Array Value)) }:=I.sH (t':=s.toks) (ys:=[]) (its':=[]) ha e rfl .nil (bZ _);obtain⟨e1,W⟩:∃e1,(s.heap.update a (Obj.mapSeq λ_=>(#[]:Array Value))).get? a=some (seqObj "list" #[] e1):=⟨_,get?_update_seq e λ_=>#[]⟩
 have I2:Inv X O σ (aX H a (.aR [])) { s with heap:=(s.heap.update a (Obj.mapSeq λ_=>(#[]:Array Value))).push (seqObj "tuple" g.toArray 0) }:=I1.kept (t':=s.toks) λb o q=>bT _ q;unfold ksk_tree;refine ag (listItems_at e rfl ?_);refine ag (p8 e rfl ?_ (by omega) (bZ _));refine ag (seqEpoch_at W rfl ?_);refine ag (t7 ?_ (by omega));refine ag (mR ?_ (bZ _));refine eO ?_;generalize M:((s.heap.update a (Obj.mapSeq λ_=>(#[]:Array Value))).push (seqObj "tuple" g.toArray 0)).objs.size=kS;have I3:Inv X O σ (aX (aX H a (.aR [])) kS (.aR [])) { s with heap:=((s.heap.update a (Obj.mapSeq λ_=>(#[]:Array Value))).push (seqObj "tuple" g.toArray 0)).push (seqObj "list" #[] 0) }:=by
  have:=I2.HR (ys:=[]) (its:=[]) (t':=s.toks) .nil (bZ _);rw[<-M];exact this
 have L:a≠kS:=by
  rw[<-M];refine b8 ?_;rw[f7,Heap.size_update];exact m6 (bo e)
 have nk:Hb kS=none:=by
  have q:aX H a (.aR []) kS=none:=by rw[<-M];exact I2.fresh
  rw[ao (bu L)]at q;exact sb.free q
 have oa:((((s.heap.update a (Obj.mapSeq λ_=>(#[]:Array Value))).push (seqObj "tuple" g.toArray 0)).push (seqObj "list" #[] 0))).get? a=some (seqObj "list" #[] e1):=bT _ (bT _ W);have Uy:aW Hb (aX (aX H a (.aR [])) kS (.aR [])):=bf (bf sb na) nk;refine aA (I3.lock (d:=a) (u:=.aR []) (by rw[ao L,ah]) trivial) λod I4=>?_;have VF:od=seqObj "list" #[] e1:=by
  refine cE (I4.dS a _ ah) λq _=>?_
  simp_all
 have RI:aW Hb (aX (aX (aX H a (.aR [])) kS (.aR [])) a (.oI od (.aR []))):=bf Uy na;have k4:aX (aX (aX H a (.aR [])) kS (.aR [])) a (.oI od (.aR [])) kS=some (.aR (([]:List Addr).map V.ref)):=by rw[ao (bu L),ah];rfl
 have a4:aX (aX (aX H a (.aR [])) kS (.aR [])) a (.oI od (.aR [])) a=some (.oI od (.aR [])):=ah;unfold ksk_rest;refine ag (lA ?_);rw[List.forIn_toArray];refine ag (ksk_fold (λi l=>∃H' w,Inv X O σ H' l/\aW Hb H'/\H' a=some (.oI od (.aR []))/\H' kS=some (.aR (w.map V.ref))/\
  Paired (λb x=>H' b=some (.bG ((ks x).map V.int))/\ks x≠[]) w (xs.take i)) g 0 _ (e8 _ [] I4 RI a4 k4 <| by rw[gS];exact .nil) ?step ?done)
 case step=>
  rintro j u l hu ⟨H',w,N,F,a',S,K⟩;rw[t9]at K;rw[t9];refine ae (Jx r hu) λx hx ru=>?_;refine ag (mQ (d7 (hk O l σ H' x u _ N ru (Qa H' x F (bP hx))) (λv s2 he=>?_) λ_ _ hF=>hF.elim));refine aF he λv' H2 Ua rv D=>aH D λb Uj sm D=>cE D λhb QN=>?_;subst Uj;obtain rfl:v=Value.ref b:=rv;have k2:=sm _ _ S;refine cE (Ua.nV k2) λz2 D=>aF D λB n2 r2 Y Q=>?_;have lb:w.length=(xs.take j).length:=ba K;have hj:j<xs.length:=(bF.1 hx).1;rw[fH]at lb;rw[aZ]at Y;have zl:B.length<sizeLine:=by
   omega
  refine ag (p8 Q rfl ?_ (by simp_all) (by simp_all));have bk:b≠kS:=a3 hb k2 (by intro z;cases z);refine au (⟨rfl,e8 (aX H2 kS (.aR ((w++[b]).map V.ref))) (w++[b]) ?_ (bf (F.trans sm) nk) ?_ ah ?_⟩)
  ·refine Ua.sH (t':=s2.toks) (its':=B++[Value.ref b]) k2 Q (by simp) ?_ ?_
   ·rw[b9];exact r2.append (.cons rfl .nil)
   grind
  ·rw[ao L];exact sm _ _ a'
  ·rw[b7 hx];refine fF (Paired.fx K λc y q=>⟨?_,q.2⟩) ⟨by rw[ao bk];exact hb,QN⟩;have ck:c≠kS:=a3 q.1 S (by intro z;cases z);rw[ao ck];exact sm _ _ q.1
 case done=>
  rintro l ⟨H',w,N,F,a',S,K⟩;rw[t9,<-hl,dN]at K;refine cE (N.nV S) λz2 D=>aF D λB n2 r2 Y Q=>?_;have e3:=oz r2;subst e3;refine cE (N.dS a _ a') λqa _=>?_;rw[VF]at qa;refine dG (rows (ks:=ks) K r) λT t1 t2 t3 t4 t5=>?_;have lb:w.length=xs.length:=ba K
  try dsimp only
  refine ag (listItems_at Q rfl ?_);have keyOf:∀t,t∈T->G.tupKeyC l.heap Cy (.ref t.1)=some ((ks t.2.1).map Sum.inl):=λt U=>AE N.dS (t4 t U).1.1;refine Mv (κ:=G.tupKindC l.heap Cy) (kd:=tuples' true) Q qa (bu L) (by simp_all) hZ ?_ (G.tupC_ltAt true (G.KeepsTups.refl _)) ?_ ?_
  ·intro p hp;grind
  ·intro h2 Q' hq;have pk:∀{w:List Addr} {xs:List V},Paired (λb x=>H' b=some (.bG ((ks x).map V.int))/\ks x≠[]) w xs->Paired (λb k=>H' b=some (.bG (k.map V.int))/\k≠[]) w (xs.map ks):=by
    intro w xs q
    induction q with
    | nil=>exact .nil
    | cons h t ih=>exact .cons h ih
   refine aA (uS N.dS (pk K)) λfs Z=>?_;refine tup_kind (shape:=Cy) (fs:=fs) ?_ Z hq;rw[G.TupsOf.length Z,aZ,lb,hl];omega
  ·intro A hp hs;have VD:A.toList.Perm (T.map λt=>(Value.ref t.1,t.2.2)):=by
    rw[<-t5];have:=An.1 hp
    simp_all
   refine ae (jc VD T rfl) λJ p' q'=>?_;have T4:∀t,t∈J->_:=λt U=>t4 t (p'.mem_iff.1 U);have I5:=N.unlock a' nf;have k5:aX H' a (.aR []) kS=some (.aR (w.map V.ref)):=by rw[ao (bu L)];exact S
   have I6:=I5.sH (t':=l.toks) (ys:=[]) (its':=[]) (f:=λ_=>#[]) k5 Q rfl .nil (bZ _);have UM:(l.heap.update kS (Obj.mapSeq λ_=>#[])).get? a=some { cls:=.type "list",data:=.seq ([]:List Value).toArray e1 }:=((kB l.heap kS (Obj.mapSeq λ_=>(#[]:Array Value))).2 a L).trans qa;have a6:aX (aX H' a (.aR [])) kS (.aR []) a=some (.aR []):=by rw[ao L,ah]
   have out:(A.map (·.2))=(J.map (·.2.2)).toArray:=by
    apply Array.toList_inj.1
    simp_all
   have I7:=I6.sH (t':=l.toks) (ys:=J.map (·.2.1)) (its':=J.map (·.2.2)) (f:=λ_=>A.map (·.2)) a6 UM out (HK λt U=>(T4 t U).2) (by
    rw[aZ,p'.length_eq,<-aZ (f:=λt:Addr×V×Value=>t.2.1),t2];omega)
   refine h _ _ (J.map (·.2.1)) I7 (bf (bf (bf F na) nk) na) ah (by rw[<-t2];exact p'.map _) ?_;rw[lM,uO];intro i j hi hj VS;have SY:A.size=J.length:=by rw[<-qT,q',aZ]
   have q:=hs i j (lC VS) (by rw[SY];exact hj);have kk:∀m hm,KK (G.tupKindC l.heap Cy) A m=(ks (J[m]).2.1).map Sum.inl:=by
    intro m hm;have:A[m]?=some (Value.ref (J[m]).1,(J[m]).2.2):=by
     rw[<-q7,q',gw,cQ hm];rfl
    unfold KK;rw[this];grind
   rw[kk i hi,kk j hj]at q;exact q
end
def JX(K:PySem.W.Frag)(H:Hp)(x:V)(R:List V->Prop):Prop:=∃a,x=.ref a/\((∃xs,dM K H a xs/\R xs)\/∃I,H a=some (.dT I)/\∀b:List Addr,Paired (λq c=>H q=some (.bG (c.1.map kV))) b I->R (b.map V.ref))
theorem OO{I:List (List Key×V)}{xs:List (List Key×Addr×Value)}(a:Paired (λp q=>p.1=q.1/\H q.2.1=some (.bG (p.1.map kV))/\bY p.2 q.2.2) I xs):
  Paired (λq b=>H q=some (.bG (b.1.map kV))) (xs.map (·.2.1)) I:=by
 induction a with
 | nil=>exact .nil
 | cons h t c=>exact .cons h.2.1 c
section
variable{X:Cx}{O:List (Addr×Obj)}{σ:L2.St}{H:Hp}{s:Shared}{A:Around}{E:Value->Shared->Prop}
theorem NM{I:List (List Key×V)}(a:Inv X O σ H s)(h:H d=some (.dT I)):
  I.length<=sizeLine/\(d==sysModules)=false/\∃od es ep e,s.heap.get? d=some od/\od.ExactDict/\od.data=.dict es ep/\es.size=I.length/\es.toList.map (·.key)=e.map Value.ref/\
   Paired (λq i=>H q=some (.bG (i.1.map kV))) e I:=by
 refine fb (a.dS d _ h) λz k b=>ae b λxs g b=>aN b λo es b=>dG b λep l j c f _=>?_;refine(cO z k <| bU o es ep (xs.map (·.2.1)) l j c ?_ ?_ ?_)
 ·have m:es.size=xs.length:=t_ f;grind[Paired.length]
 ·rw[f,h7,h7];rfl
 ·exact OO g
theorem IS{x:V}{R:List V->Prop}{Q:List Value->Shared->Prop}(D:A.handled=none)(b:Inv X O σ H s)(v:bY x u)(h:JX X.K H x R)(q:∀k xs l,Inv X O σ H l->Vals xs k->R xs->Q k l):wpAny (model X.prog X.w) A (collect u) Q E s:=by
 obtain⟨a,rfl,h⟩:=h;obtain rfl:u=Value.ref a:=v;rcases h with⟨xs,e,j⟩ | ⟨I,F,j⟩
 ·obtain⟨c,m,⟨o,n,K,J,L,G⟩,y⟩:=b.list e;refine wpAny_collect_seq a (.inl rfl) K J G (λh' g=>?_) (by rw[cS,<-m.length];exact y);rw[show c.toArray.toList=c by simp];exact q c xs _ (b.kept (t':=s.toks) g) m j
 ·obtain⟨z,e,od,es,ep,p,C,B,i,d,f,w⟩:=NM b F;refine zu D e C B i (by rw[d];exact z) λh' r g=>?_;rw[f];exact q _ _ _ (b.kept (t':=r) g) (sx p) (j p w)
end
abbrev TK:=L2.St->Hp->((L2.St->V->Hp->VK->Prop)->Hp->Prop)->Prop
def K_(X:Cx)(c:Expr)(a:TK):Prop:=∀O s σ H R,Inv X O σ H s->a σ H R->
 wpAny (model X.prog X.w) X.A (eval c X.env) (λfv b=>(∃q,fv=Value.ref q)/\∃kt H',Inv X O σ H' b/\Jf (Ny X) fv kt/\R kt H') X.xe s
def Sa(sp:Sp):TK:=λ_ H R=>R (λ_ x H' Q=>sp [x] H' Q E0) H
theorem J0{p:Str}(F:Fn X.prog X.w X.K X.mg X.base x k [p] sp)(e:fB (k+2) X.A)(i:Gl X x)(b:(x==("__debug__":Str))=false:=by decide):K_ X (.Name x pos) (Sa sp):=by
 intro O s σ H R I h;refine e_ F.ex λf fd F g n j=>?_;refine rP I i g (⟨⟨f,rfl⟩,aO _ H I ?_ h⟩) b;intro a m c H' y u Q l d q;exact ym (X:=Ny X) (vs:=[y]) F e.in1.in1 j .nil xh l (.cons d .nil) q
def L8(K:PySem.W.Frag)(te:TE)(d:TK):TE:=fun σ H Q=>te σ H λx e=>d σ e λkt a=>JX K a x λxs=>xs.length<=1000000/\∃ks:V->List Int,
 (∀H' y,aW a H'->y∈xs->kt σ y H' λr lp=>∃b,r=.ref b/\aW H' lp/\lp b=some (.bG ((ks y).map V.int))/\ks y≠[])/\
 ∀H' L c,aW a H'->H' L=some (.aR c)->a L=none->c.Perm xs->c.Pairwise (λx y=>ltI (ks y) (ks x)=false)->Q (.ref L) H'
theorem A9{e C:Expr}{wk:TK}{p M:Pos}(hc:X.calm=true)(W:Gl X "sorted")(S:X.mg "sorted"=none)(Y:PE X e te)(T:K_ X C wk)(a:starEach [e] X.env=[(false,eval e X.env)]:=by rfl):
  PE X (.Call (.Name "sorted" p) [e] [⟨some "key",C,M⟩] pos) (L8 X.K te wk):=by
 intro O s σ H Q I h;refine lI (sI I W S (u:=.builtin "sorted") (by decide) ?_);have h':jo te mK σ H (λvs z=>match vs with
  | [x]=>wk σ z λkt c=>JX X.K c x λxs=>xs.length<=1000000/\∃ks:V->List Int,
   (∀H' y,aW c H'->y∈xs->kt σ y H' λr lp=>∃b,r=.ref b/\aW H' lp/\lp b=some (.bG ((ks y).map V.int))/\ks y≠[])/\
   ∀H' L d,aW c H'->H' L=some (.aR d)->c L=none->d.Perm xs->d.Pairwise (λx y=>ltI (ks y) (ks x)=false)->Q (.ref L) H'
  | _=>False):=h
 refine callWith_kw (dY ((show PA X [e] (jo te mK) from af Y ar a) pos O s σ H _ I h') λj G i=>aF i λvs z I1 l n=>?_) (by rw[a];rfl) (by rw[a];rfl)
 match vs,l,n with
 | [x],.cons (b:=u) J .nil,n=>
 refine kws_cons (dY (T O G σ z _ I1 n) λfv F ⟨⟨q,ef⟩,kt,c,E,K,w⟩=>kws_nil ?_);subst ef;show wpAny (model X.prog X.w) X.A (call (.builtin "sorted") [u] [(Str.ofString "key",Value.ref q)]) _ _ F;have U:=E.ok.hd hc;refine call_function_entry_kw kind_sorted plain_sorted entry_sorted (ksk_s1 _ _) ?_;unfold Builtin.«sorted»;refine ag (m:=checkCount "sorted" 1 1 _) (au ?_);refine ag (IS (A:=X.A.in1) U E J w λj xs f D B w=>?_);refine cE w λN i=>ae i λks t Z=>?_;have g:xs.length<=sizeLine:=Oy (by omega);refine ag (mR ?_ (by rw[<-B.length];exact g));have o:c f.heap.objs.size=none:=D.fresh;have I4:=D.HR (t':=f.toks) B g;have e4:(f.heap.push { cls:=.type "list",data:=.seq j.toArray }).get? f.heap.objs.size=some { cls:=.type "list",data:=.seq j.toArray }:=cu _ rfl;refine ag (eO (wpAny_call_entry_kw slot_list_sort (aa e4 rfl) entry_list_sort ?_ (ksk_l1 _ _)));rw[ksk_t1];refine E2 (X:=Ny X) K (Le I4) ah (aE o) o N t λs' H' d I' k v P R=>?_;refine(aa rfl <| au (aa rfl <| aO (.ref f.heap.objs.size) H' (Lx I') rfl <| Z H' _ d k v o P R))
def ML(K:PySem.W.Frag):List V->Hp->VK->Prop:=λvs H Q=>match vs with
 | [x]=>JX K H x λxs=>xs.length<=1000000/\∃ks:V->List Int,(∀y,y∈xs->∃b,y=.ref b/\H b=some (.bG ((ks y).map V.int))/\ks y≠[])/\
   ∀L a,H L=none->a.Perm xs->a.Pairwise (λx y=>ltI (ks y) (ks x)=false)->Q (.ref L) (aX H L (.aR a))
 | _=>False
theorem D8{ks:V->List Int}{H:Hp}:∀{xs:List V},(∀y,y∈xs->∃b,y=.ref b/\H b=some (.bG ((ks y).map V.int))/\ks y≠[])->∃a:List Addr,xs=a.map V.ref/\Paired (λb x=>H b=some (.bG ((ks x).map V.int))/\ks x≠[]) a xs
 | [],_=>(ab [] rfl <| .nil)
 | x::xs,h=>by
  refine ae (h x (by simp)) λb e d=>?_;refine ae (D8 (xs:=xs) λy c=>h y (by simp[c])) λa f p=>?_;exact(ab (b::a) (by rw[e,f];rfl) <| .cons d p)
theorem CP(vs:List Value):(pairsOf vs).toList=vs.zip vs:=by rw[pairsOf_toList]
theorem IP(hc:X.calm=true):se X (.builtin "sorted") (ML X.K):=by
 intro O s σ H vs d Q I r h
 match vs,r,h with
 | [x],.cons (b:=u) rx .nil,h=>
 have hh:=I.ok.hd hc;refine Calls.call_function_entry kind_sorted plain_sorted entry_sorted (args_sorted1 _) ?_;unfold Builtin.«sorted»;refine ag (m:=checkCount "sorted" 1 1 _) (au ?_);refine ag (IS (A:=X.A.in1) hh I rx h λd xs a I3 w hR=>?_);refine cE hR λhz zz=>ae zz λks W hQ=>?_;refine ae (D8 W) λo F pr=>?_;have n:xs.length<=sizeLine:=Oy (by omega);have hl:=w.length;have Xi:d=o.map Value.ref:=by rw[F]at w;exact oz w
 refine ag (mR ?_ (by rw[<-hl];exact n));have hn:H a.heap.objs.size=none:=I3.fresh;have I4:=I3.HR (t':=a.toks) w n;have e4:(a.heap.push { cls:=.type "list",data:=.seq d.toArray }).get? a.heap.objs.size=some (seqObj "list" d.toArray 0):=cu _ rfl;have z:Paired (λb x=>aX H a.heap.objs.size (.aR xs) b=some (.bG ((ks x).map V.int))/\ks x≠[]) o xs:=Paired.fx pr λb y q=>⟨aE hn _ _ q.1,q.2⟩
 refine dG (rows (ks:=ks) z w) λT t1 L t3 t4 t5=>?_;have pk:∀{o:List Addr} {xs:List V} {H':Hp},Paired (λb x=>H' b=some (.bG ((ks x).map V.int))/\ks x≠[]) o xs->Paired (λb k=>H' b=some (.bG (k.map V.int))/\k≠[]) o (xs.map ks):=by
  intro o xs H' q
  induction q with
  | nil=>exact .nil
  | cons h t ih=>exact .cons h ih
 obtain⟨fs,E⟩:=uS I4.dS (pk z);rw[<-Xi]at E;have keyOf:∀t,t∈T->G.tupKeyC (a.heap.push { cls:=.type "list",data:=.seq d.toArray }) Cy (.ref t.1)=some ((ks t.2.1).map Sum.inl):=λt l=>AE I4.dS (t4 t l).1.1;have B:∀v,v∈d->∃t,t∈T/\v=.ref t.1:=by
  grind
 refine ag (eO (iS slot_list_sort (aa e4 rfl) entry_list_sort (G.list_sort_tups (shape:=Cy) (s:={ a with heap:=a.heap.push { cls:=.type "list",data:=.seq d.toArray } }) e4 E ?_ (by rw[<-hl];exact n) ?_) (args_list_sort _)))
 ·intro v R;obtain⟨t,l,rfl⟩:=B v R;exact⟨_,keyOf t l⟩
 ·intro c hp hs _;refine(aa rfl <| au (aa rfl ?_));have S:d.zip d=T.map λt=>(Value.ref t.1,Value.ref t.1):=by
   grind
  have U:(arrOf c).toList.Perm (T.map λt=>(Value.ref t.1,Value.ref t.1)):=by
   rw[<-S,<-CP];exact An.1 hp
  refine ae (jc U T rfl) λe J q'=>?_;have T4:∀t,t∈e->_:=λt l=>t4 t (J.mem_iff.1 l);have p:∀t,t∈T->t.2.1=V.ref t.1:=by
   have:xs=o.map V.ref:=F;rw[<-L,<-t1,h7]at this;intro t l;exact(List.map_inj_left.1 this) t l
  have N:((arrOf c).map (·.2))=(e.map λt=>Value.ref t.1).toArray:=by
   apply Array.toList_inj.1
   simp_all
  have R:Vals (e.map (·.2.1)) (e.map λt=>Value.ref t.1):=by
   have:e.map (·.2.1)=(e.map (·.1)).map V.ref:=by
    rw[h7];exact qV λt l=>p t (J.mem_iff.1 l)
   rw[this];have:=sx (e.map (·.1));rw[h7 (f:=λt:Addr×V×Value=>t.1) (g:=Value.ref)]at this;exact this
  have D:(e.map (·.2.1)).length<=sizeLine:=by
   rw[aZ,J.length_eq,<-aZ (f:=λt:Addr×V×Value=>t.2.1),L];omega
  obtain⟨ep,Z⟩:=PyProof.Rows.sortedHeap_at (vs:=d) (out:=(arrOf c).map (·.2)) e4;generalize hg:sortedHeap (a.heap.push { cls:=.type "list",data:=.seq d.toArray }) a.heap.objs.size d ((arrOf c).map (·.2))=g at *;have C:∀b u,b≠a.heap.objs.size->(a.heap.push { cls:=.type "list",data:=.seq d.toArray }).get? b=some u->g.get? b=some u:=λb u hb hu=>by
   rw[<-hg,PyProof.Rows.sortedHeap_old hb (bo hu)];exact hu
  have K:LU (aX H a.heap.objs.size (.aR xs) a.heap.objs.size):=by rw[ah];trivial
  have P:dR X.prog X.w (aX (aX H a.heap.objs.size (.aR xs)) a.heap.objs.size (.aR (e.map (·.2.1)))) g a.heap.objs.size (.aR (e.map (·.2.1))):=(⟨D,br _ ep R <| by simp_all⟩)
  have I5:=I4.write (t':=a.toks) K (.inl rfl) C ⟨_,Z⟩ P;rw[x9]at I5;refine(aO (.ref a.heap.objs.size) _ I5 rfl <| hQ _ _ hn (by rw[<-L];exact J.map _) ?_);rw[lM,uO];intro i j hi hj Y;have SY:(arrOf c).size=e.length:=by rw[<-qT,q',aZ]
  have q:=hs i j (lC Y) (by rw[<-hp.size_eq,SY];exact hj);have kk:∀m K,KK (G.tupKindC (a.heap.push { cls:=.type "list",data:=.seq d.toArray }) Cy) (arrOf c) m=(ks (e[m]).2.1).map Sum.inl:=by
   intro m K;have:(arrOf c)[m]?=some (Value.ref (e[m]).1,Value.ref (e[m]).1):=by
    rw[<-q7,q',gw,cQ K];rfl
   unfold KK;rw[this];grind
  rw[kk i hi,kk j hj]at q;exact q
theorem k9(h:M.lg e):wO e:=by
 obtain⟨j,i,_,g,f,d,c,a⟩:=h;have b:(2:Nat)^20=1048576:=by decide
 refine⟨⟨?_,?_,?_,?_,?_,?_⟩,a⟩ <;> (unfold Bd;omega)
theorem En{f:M.aJ}(o:wO e)(n:wO f){z:P3}(h:z∈M.cV e f):Bd 63 z.1/\Bd 63 z.2.1/\Bd 63 z.2.2:=by
 refine sj o.1 λe1 k s r j i=>?_;refine sj n.1 λg d q p c b=>?_;have a:Bd 63 1:=by unfold Bd;decide
 unfold M.cV at h;dsimp only at h;split at h
 ·have h:=(bh.1 h).1;rcases aY.1 h with z | z
  ·rw[z];exact(cO (g.mono (by decide)) (d.mono (by decide)) a)
  ·rw[eP.1 z];exact(cO (q.mono (by decide)) (p.mono (by decide)) a)
 ·rename_i h0;split at h
  ·rw[eP.1 h];have bt:Bd 41 (e.dx*f.dy-e.dy*f.dx):=(j.mul b).sub (i.mul c);have m:Bd 42 ((f.ax-e.ax)*f.dy-(f.ay-e.ay)*f.dx):=((g.sub e1).mul b).sub ((d.sub k).mul c);exact xw h0 (((e1.mul bt).mono (l:=62) (by decide)).add (j.mul m)) (((k.mul bt).mono (l:=62) (by decide)).add (i.mul m)) (bt.mono (by decide))
  ·simp at h
theorem Bs(e f:M.aJ):(M.cV e f).length<=2:=by
 unfold M.cV;dsimp only;split
 ·exact fG (jB _ _) (by simp)
 ·split <;> simp
noncomputable def tL(H:Hp):V->P3
 | .ref q=>match H q with
  | some (.bG [.int x,.int y,.int w])=>(x,y,w)
  | _=>(0,0,1)
 | _=>(0,0,1)
theorem mw{p:P3}(h:d6 H q p):tL H (.ref q)=p:=by
 unfold tL;dsimp only;rw[show H q=some (.bG [.int p.1,.int p.2.1,.int p.2.2]) from h]
noncomputable def wI(p:Int×Int):List Int:=[p.1,p.2]
theorem HN(p q:Int×Int):ltI (wI p) (wI q)=true↔M.lexLt p q:=by
 unfold ltI wI M.lexLt;rw[bw,bw,i2,bw,bw,i2];rw[ly,ly];show(decide (p.1<q.1)=true\/decide (q.1<p.1)=false/\(decide (p.2<q.2)=true\/decide (q.2<p.2)=false/\PyProof.Rows.lexLt itemOrd [] []=true))↔_;have:PyProof.Rows.lexLt itemOrd [] []=false:=rfl;grind
theorem Hj{p:Int×Int}(h:dv H b p):H b=some (.bG ((wI p).map V.int)):=h
theorem A1{p:P3}:d6 H a p↔H a=some (.bG ((y6 p).map kV)):=Iff.rfl
theorem He{H:Hp}{υ:Type}{g:υ->V}:∀{d:List (P3×υ)} {b:List Addr},Paired (λq c=>H q=some (.bG (c.1.map kV))) b (tab y6 g d)->Paired (d6 H) b (d.map (·.1))
 | [],_,h=>by cases h;exact .nil
 | x::d,_,h=>by
  cases h with
  | cons a t=>exact .cons a (He t)
theorem Hx{H:Hp}:∀{b:List Addr} {ps:List P3},Paired (d6 H) b ps->b.map (λq=>tL H (.ref q))=ps
 | _,_,.nil=>rfl
 | _,_,.cons a t=>by rw[bw,mw a,Hx t]
theorem mv{α β:Type}{F:α->β->Prop}:∀{l:List α} {m:List β},Paired F l m->∀x,x∈l->∃y,y∈m/\F x y
 | _,_,.nil,x,h=>by simp at h
 | _,_,.cons a t,x,h=>by
  rcases aY.1 h with rfl | h
  ·simp_all
  ·refine ae (mv t x h) λy b f=>?_;exact(ab y (by simp[b]) f)
theorem Eg{H:Hp}:∀{a:List Addr},(∀q,q∈a->∃p,d6 H q p)->Paired (d6 H) a (a.map λq=>tL H (.ref q))
 | [],_=>.nil
 | q::a,h=>by
  obtain⟨p,b⟩:=h q (by simp);rw[bw,mw b];exact .cons b (Eg λc d=>h c (by simp[d]))
theorem Cv{d:Hp}{L:Addr}{e:List V}{f:List Addr}{ps:List P3}{κ:P3->Int×Int}(l:aW d H')(o:H' L=some (.aR e))(j:Paired (d6 d) f ps)(n:e.Perm (f.map V.ref))(r:e.Pairwise (λx y=>ltI (wI (κ (tL d y))) (wI (κ (tL d x)))=false)):∃c,c.Perm ps/\c.Pairwise (λa b=>¬M.lexLt (κ b) (κ a))/\wx H' L c:=by
 obtain⟨i,k,rfl⟩:=jc n f rfl;have g:∀q,q∈i->∃p,d6 d q p:=λq m=>by
  refine ae (mv j q (k.mem_iff.1 m)) λy _ h=>?_;exact⟨y,h⟩
 refine(a8 (i.map λq=>tL d (.ref q)) ?_ ?_ <| ab i o <| Paired.fx (Eg g) λa b h=>h.keep l)
 ·rw[<-Hx j];exact k.map _
 grind[List.pairwise_map,HN]
def Cu(C:Addr):Sp:=λvs H Q _=>∃a b D st e,vs=[.ref a,.ref b]/\kv C H a e/\e∈D/\oV C H b D/\M.Draws D st/\D.length<=200/\∀H' l,aW H H'->wx H' l (M.js D e)->Q (.ref l) H'
theorem yj:bc ["edge","edges","found","other","point"] ["edge","edges"] (aK (top 16)):=by constructor<;>decide
def Lb(H:Hp)(f:Addr)(d:List (P3×Unit)):Prop:=H f=some (.dT (tab y6 (λ_=>V.bl true) d))
def Met(d:List (P3×Unit))(l:List P3):Prop:=(d.map (·.1)).Nodup/\(∀k,k∈d.map (·.1)↔k∈l)/\d.length<=l.length
theorem Met.put{d:List (P3×Unit)}{l:List P3}(h:Met d l)(p:P3):Met (M.dput d p ()) (l++[p]):=by
 refine fb h λb e c=>?_;have a:=M.sR d p ();refine(cO (M.vZ b _ _) (λk=>?_) ?_)
 ·rw[a];grind
 ·have:(M.dput d p ()).length<=d.length+1:=by
   have:=cq List.length a;rw[aZ]at this;rw[this];split <;> simp
  grind
theorem vS(e:M.aJ)(D:List M.aJ):(D.flatMap (M.cV e)).length<=2*D.length:=by
 induction D with
 | nil=>simp
 | cons f D a=>
  rw[gv,dC,dj];have:=Bs e f;omega
theorem Kb(F:ju K "cuts" "cuts" (top 16) f fd)(G1:Fn P w K mg base "meetings" 3 ["edge","other"] (Mh C))(G2:Fn P w K mg base "place" 1 ["point"] oB)(hS:mg "sorted"=none):
  dw P w K mg base iG 4 f fd ["edge","edges"] (Cu C):=by
 refine F.ok yj (λvs H Q E h=>?_) (λwd A dF s H vs Q E hr h=>?_)
 ·obtain⟨a,b,D,st,e,rfl,_⟩:=h;rfl
 ·obtain⟨a,b,D,st,e,rfl,hE,hm,⟨as,hL,pd⟩,B,mM,k⟩:=h;have hu:=tG hr;have oe:=k9 (B.ok e hm);refine(aa (aj (a_ (i:=2) yj.nd rfl (Or.inl rfl) vj) (aj (gE dW rfl (eI (pv 1)) (c6 (i:=3) yj.nd rfl (Or.inl rfl))
   (aB (gE dW rfl (eI (bX G1 hr rfl (af (pv 0) (af (pv 3) ar)))) (c6 (i:=4) yj.nd rfl (Or.inl rfl))
    (aB (D_ hu (pv 2) (pv 4) Ef rfl)))))
   (aB (bg (A9 rfl rfl hS (pv 2) (J0 G2 (hr.mono (j:=3) (by decide)) rfl)))))) ?_)
  intro t R;have z0:Lb (aX H t (.dT [])) t []:=ah;refine(aa rfl <| a8 b rfl ⟨_,dM.of (aE R _ _ hL)⟩ <| eV (xs:=as.map V.ref) (λi σ H'=>aW H H'/\∃d,Lb H' t d/\Met d ((D.take i).flatMap (M.cV e))/\∃r1 X,σ=[some (.ref a),some (.ref b),some (.ref t),r1,X])
   (⟨aE R,a8 [] z0 (cO (by simp) (by simp) <| by simp) ⟨none,none,rfl⟩⟩) ?_ ?_ ?_)
  ·rintro i σ H' _ ⟨J,_⟩;exact dM.of (J _ _ hL)
  ·rintro i x0 σ H' Im ⟨J,d,U,VM,r1,X,rfl⟩;obtain⟨x,hx,rfl⟩:=d_ Im;refine ae (Pd.get pd hx) λg O hG=>?_;have og:=k9 (B.ok g (bP O));have hi:i<D.length:=(bF.1 O).1;refine(aa rfl <| aa rfl <| bU a x e g rfl (hE.keep J) (hG.keep J) oe og <| λH2 l m u=>?_);refine ae u λY u Z=>?_;refine(a8 l rfl ⟨_,dM.of u⟩ <| eV (xs:=Y.map V.ref) (λj σ G=>aW H G/\(∀c o,c≠t->H2 c=some o->G c=some o)/\∃d,Lb G t d/\Met d ((D.take i).flatMap (M.cV e)++(M.cV e g).take j)/\∃r,σ=[some (.ref a),some (.ref b),some (.ref t),some (.ref x),r])
    (cO (J.trans m) (λc o _ h=>h) <| a8 d (m _ _ U) (by simp_all) ⟨X,rfl⟩) ?_ ?_ ?_)
   ·rintro j σ G _ ⟨_,T,S,v,_⟩;exact dM.of (T _ _ (a3 u (m _ _ U) (by intro z;cases z)) u)
   ·rintro j q0 σ G Ip ⟨n,T,S,v,mt,r,rfl⟩;obtain⟨q,hq,rfl⟩:=d_ Ip;refine ae (Pd.get Z hq) λp N W=>?_;have qf:q≠t:=a3 W (m _ _ U) (by intro z;cases z);have Wi:=T _ _ qf W;have ln:S.length<sizeLine:=by
     have h1:=mt.2.2;have h2:=vS e (D.take i);have h3:=Bs e g;rw[dC,fH]at h1;rw[fH]at h2;exact sz (by omega)
    refine(aa rfl <| aa rfl <| e8 t _ rfl (F0.t (k:=y6 p) v Wi (by unfold tab;simp_all)) (bf n R) (λc o nc h=>by rw[ao nc];exact T c o nc h) <| a8 (M.dput S p ()) ?_ ?_ ⟨_,rfl⟩)
    ·unfold Lb;rw[ah];have:=rA (g:=λ_:Unit=>V.bl true) kM p () S mt.1;rw[<-this]
    ·rw[b7 N,<-ia];exact mt.put p
   ·rintro σ G ⟨n,T,S,v,mt,r,rfl⟩;refine(⟨n,a8 S v ?_ ⟨_,_,rfl⟩⟩);have u:(Y.map V.ref).length=(M.cV e g).length:=by rw[aZ];exact ba Z
    rw[u,dN]at mt;rw[b7 O,zN];simpa using mt
  ·rintro σ H' ⟨J,d,U,mt,r1,X,rfl⟩;have u:(as.map V.ref).length=D.length:=by rw[aZ];exact ba pd
   rw[u,dN]at mt;refine(aa rfl <| ab t rfl <| .inr (aa U <| λY Z=>?_));have pp:=He Z;have I:∀p,p∈d.map (·.1)->p.2.2≠0/\Small p.1/\Small p.2.1/\Small p.2.2:=by
    intro p N;refine ae (bV.1 ((mt.2.1 p).1 N)) λg O hz=>?_;refine ae ((M.jH (B.ok e hm) (B.ok g O)).1 hz) λc hc e1=>?_;have hw:=M.pK (B.ok e hm) (B.ok g O) hc;rw[<-e1]at hw;refine fb (En oe (k9 (B.ok g O)) hz) λb1 b2 b3=>?_;exact(oX (by have:=hw.1;omega) (b1.small (by decide)) (b2.small (by decide)) <| b3.small (by decide))
   have UK:Y.length<=1000000:=by
    have h1:=ba pp;rw[aZ]at h1;have h2:=mt.2.2;grind[vS]
   refine(⟨by simp_all,ab (λy=>wI (M.place (tL H' y))) (λH2 y m hy=>?_) <| λH2 L ys m QQ hn N ho=>?_⟩)
   ·obtain⟨q,hq,rfl⟩:=aw.1 hy;refine ae (mv pp q hq) λp N W=>?_;obtain⟨s0,s1,s2,s3⟩:=I p N;refine⟨q,p,rfl,W.keep m,s0,s1,s2,s3,λG bb n hb=>⟨bb,rfl,n,?_,by unfold wI;simp⟩⟩;show G bb=some (HO.bG ((wI (M.place (tL H' (.ref q)))).map V.int));rw[mw W];exact hb
   ·refine aH (Cv (κ:=M.place) m QQ pp N ho) λUN p1 p2 p3=>?_;have e1:UN=M.js D e:=M.FV B hm ((ux p1).2 mt.1) (λz=>by rw[p1.mem_iff,mt.2.1]) p2;rw[e1]at p3;exact k _ _ (J.trans m) p3
noncomputable def FQ(U:Nat):List V:=[.bl (M.fS U 0),.bl (M.fS U 1),.bl (M.fS U 2),.bl (M.fS U 3)]
def zF(K:PySem.W.Frag)(a:Addr)(xs:List V):Prop:=∃o b n,K.lookup a=some o/\o.cls=.type "tuple"/\o.data=.seq b n/\b.size<=sizeLine/\Vals xs b.toList
theorem zF.sq(h:zF K a xs)(H:Hp):dU K H a xs:=.inr h
theorem sQ(U:Nat){m:Int}(h:kx m):wA (FQ U) m=some (.bl (M.fS U m)):=by
 obtain⟨u,v,rfl⟩:=h;cases u <;> cases v <;> rfl
def fP(mg:Str->Option Value)(x:Str)(n:Int):Prop:=∃t,mg x=some (.int n t)
theorem cC{n:Int}(h:fP X.mg x n)(a:Gl X x)(b:(x==("__debug__":Str))=false:=by decide):PE X (.Name x pos) (tC (.int n)):=by
 obtain⟨t,h⟩:=h;exact Ee a h ⟨t,rfl⟩ b
theorem gB{κ:Type}[DecidableEq κ]{k:κ}:∀{d:List (κ×Int)},k∈d.map (·.1)->∃x,M.cw d k=some x
 | [],h=>by simp at h
 | (a,v)::d,h=>by
  unfold M.cw
  by_cases e:a=k
  ·simp_all
  ·rw[ai e];refine gB (d:=d) ?_;grind
noncomputable def wH(H:Hp):V->Int×Int
 | .ref q=>match H q with
  | some (.bG [.int x,.int y])=>(x,y)
  | _=>(0,0)
 | _=>(0,0)
theorem yA{p:Int×Int}(h:dv H q p):wH H (.ref q)=p:=by
 unfold wH;dsimp only;rw[show H q=some (.bG [.int p.1,.int p.2]) from h]
theorem Hi{H:Hp}{υ:Type}{g:υ->V}:∀{d:List ((Int×Int)×υ)} {b:List Addr},Paired (λq c=>H q=some (.bG (c.1.map kV))) b (tab C7 g d)->Paired (dv H) b (d.map (·.1))
 | [],_,h=>by cases h;exact .nil
 | x::d,_,h=>by
  cases h with
  | cons a t=>exact .cons a (Hi t)
theorem Eb{H:Hp}:∀{b:List Addr} {ps:List (Int×Int)},Paired (dv H) b ps->b.map (λq=>wH H (.ref q))=ps
 | _,_,.nil=>rfl
 | _,_,.cons a t=>by rw[bw,yA a,Eb t]
theorem A3{H:Hp}:∀{a:List Addr},(∀q,q∈a->∃p,dv H q p)->Paired (dv H) a (a.map λq=>wH H (.ref q))
 | [],_=>.nil
 | q::a,h=>by
  obtain⟨p,b⟩:=h q (by simp);rw[bw,yA b];exact .cons b (A3 λc d=>h c (by simp[d]))
def yd(K:PySem.W.Frag)(C:Addr):Sp:=λvs H Q _=>∃a g b D U p,vs=[.ref a,.ref g,.ref b]/\oV C H a D/\(∀e,e∈D->wO e)/\D.length<=200/\zF K g (FQ U)/\d6 H b p/\Js p/\
 ∀H' ks,aW H H'->M.FZ D p ks->Q (.int (M.uX U (M.fY D p ks))) H'
theorem oC:bc ["edges","figure","point","changes","marks","seen","way"] ["edges","figure","point"] (aK (top 22)):=by constructor<;>decide
theorem drop_cons{l:List α}{x:α}(h:l[i]?=some x):l.drop i=x::l.drop (i+1):=by
 obtain⟨b,a⟩:=bF.1 h;rw[<-a];exact List.drop_eq_getElem_cons b
theorem HA(F:ju K "standing" "standing" (top 22) f fd)(G1:Fn P w K mg base "changes_around" 3 ["edges","point"] (Mt C))(G2:Fn P w K mg base "marks_above" 2 ["edges","point"] (JF C))(hS:mg "sorted"=none)(hA:mg "all"=none)(hN:mg "any"=none)(c0:fP mg "OUTSIDE" 0)(c1:fP mg "INSIDE" 1)(c2:fP mg "ON_BORDER" 2):
  dw P w K mg base iG 4 f fd ["edges","figure","point"] (yd K C):=by
 refine F.ok oC (λvs H Q E h=>?_) (λwd A dF s H vs Q E hr h=>?_)
 ·obtain⟨a,g,b,D,U,p,rfl,_⟩:=h;rfl
 ·obtain⟨a,g,b,D,U,p,rfl,hL,hD,Y,hg,hp,mp,k⟩:=h;have hu:=tG hr;refine(aa (aj (a_ (i:=3) oC.nd rfl (Or.inl rfl) (bX G1 hr rfl (af (pv 0) (af (pv 2) ar))))
   (aj (a_ (i:=4) oC.nd rfl (Or.inl rfl) (bX G2 (hr.mono (j:=2) (by decide)) rfl (af (pv 0) (af (pv 2) ar))))
   (aj (a_ (i:=5) oC.nd rfl (Or.inl rfl) (eC (af (aT aS (pv 1) (pv 4) (λ_ _=>rfl)) ar)))
   (aj (gE dW rfl (eI (df (IP rfl) (by rfl) hS boot_sorted (af (pv 3) ar))) (c6 (i:=6) oC.nd rfl (Or.inl rfl))
    (aj (yy (i:=4) oC.nd rfl (Or.inl rfl) (mr hu (pv 3) (pv 6) (λ_ _=>rfl)) Ij)
    (aB (fJ (kK gf iW iX fV (pv 5) (af (aT aS (pv 1) (pv 4) (λ_ _=>rfl)) ar))))))
   (aj (eR (fW (df (IQ rfl) (by rfl) hA boot_all (af (pv 5) ar))) (aB (bg (cC c1 rfl))) cv)
   (aj (eR (fW (df (NO rfl) (by rfl) hN boot_any (af (pv 5) ar))) (aB (bg (cC c2 rfl))) cv)
   (aB (bg (cC c0 rfl))))))))) ?_)
  refine(aa rfl <| aa rfl ⟨a,b,D,p,rfl,hL,hD,Y,hp,mp,λH1 d G hd=>?_⟩);have VE:=G _ _ hp;have mm:kx (M.cp D p):=lW hD xH;refine(aa rfl <| aa rfl <| bU a b D p rfl (hL.keep G) hD VE mp ?_);refine(aa rfl <| aa rfl <| bU g _ _ _ rfl rfl (hg.sq _) (sQ U mm) (by show 1<=sizeLine;decide) <| λl hl=>?_);have W:aW H1 (aX H1 l (.aR [.bl (M.fS U (M.cp D p))])):=aE hl;have I:aX H1 l (.aR [.bl (M.fS U (M.cp D p))]) l=some (.aR ([M.cp D p].map λm=>V.bl (M.fS U m))):=ah;generalize aX H1 l (.aR [.bl (M.fS U (M.cp D p))])=t at *;have T:=W _ _ hd;refine(aa rfl <| ab d rfl <| .inr (aa T <| λqs pq=>?_));have pp:=Hi pq;have wl:=uR D p;have el:=rX (M.cX D p) [];have cl:(M.eX D p).length<=400:=by
   unfold M.eX;grind
  have ql:=ba pp;rw[aZ]at ql;refine(⟨by grind,ab (λy=>wI (wH t y)) (λy hy=>?_) <| λL ys QQ VC Yb=>?_⟩)
  ·obtain⟨q,X,rfl⟩:=aw.1 hy;refine ae (mv pp q X) λR _ Z=>?_;refine(a8 q rfl ?_ <| by unfold wI;simp);show t q=some (HO.bG ((wI (wH t (.ref q))).map V.int));rw[yA Z];exact Z
  ·obtain⟨v,p1,rfl⟩:=jc VC qs rfl;have mem:∀q,q∈v->∃p,dv t q p:=λq X=>by
    refine ae (mv pp q (p1.mem_iff.1 X)) λy _ h=>?_;exact⟨y,h⟩
   have pa:=A3 mem;have u:(v.map λq=>wH t (.ref q)).Perm ((M.eX D p).map (·.1)):=by
    rw[<-Eb pp];exact p1.map _
   have Va:(v.map λq=>wH t (.ref q)).Pairwise λa b=>¬M.lexLt b a:=by
    grind[List.pairwise_map,HN]
   have KK:M.FZ D p (v.map λq=>wH t (.ref q)):=M.Ko u Va;generalize (v.map λq=>wH t (.ref q))=ks at *;have B:aW t (aX t L (.aR (v.map V.ref))):=aE QQ;have LD:aX t L (.aR (v.map V.ref)) L=some (.aR (v.map V.ref)):=ah;generalize aX t L (.aR (v.map V.ref))=H3 at *;have Uu:aW H1 H3:=W.trans B;have lL:l≠L:=aQ I QQ;have dl:d≠l:=a3 T I (by intro z;cases z);have S0:v.length=ks.length:=ba pa;have cm:∀e,e∈M.eX D p->kx e.2:=BS _ _ (Ay hD) (by simp);refine(a8 L rfl ⟨_,dM.of LD⟩ <| eV (xs:=v.map V.ref) (λi σ H'=>(∀c o,c≠l->H3 c=some o->H' c=some o)/\∃N m,kx m/\N.length=i/\M.fY D p ks=N++M.runM (λk=>(M.cw (M.eX D p) k).getD 0) (ks.drop i) m/\
     H' l=some (.aR ((N++[m]).map λm=>V.bl (M.fS U m)))/\∃r,σ=[some (.ref a),some (.ref g),some (.ref b),some (.ref d),some (.int m),some (.ref l),r])
    (⟨λc o _ h=>h,e8 [] (M.cp D p) mm rfl rfl (B _ _ I) ⟨none,rfl⟩⟩) ?_ ?_ ?_)
   ·rintro i σ H' _ ⟨O,_⟩;exact dM.of (O _ _ (bu lL) LD)
   ·rintro i q0 σ H' Ip ⟨O,N,m,hm,Xl,he,n,r,rfl⟩;obtain⟨q,X,rfl⟩:=d_ Ip;refine ae (Pd.get pa X) λR hk Z=>?_;have ql:q≠l:=a3 Z I (by intro z;cases z);have Jo:H' q=some (.bG ((C7 R).map kV)):=O _ _ ql (B _ _ Z);have N9:=O _ _ dl (B _ _ T);have VQ:R∈(M.eX D p).map (·.1):=u.mem_iff.1 (bP hk);obtain⟨x,hx⟩:=gB VQ;have gt:=sX.t (k:=C7 R) N9 Jo;rw[oA y5 R,hx]at gt;have S:kx x:=by
     have:=yV (k:=R) cm
     simp_all
    have X':i<ks.length:=(bF.1 hk).1;refine(aa rfl <| aa rfl <| aa rfl <| aO d _ rfl gt <| bD rfl rfl ?_);have fa:wA (FQ U) (Builtin.bitXor m x)=some (.bl (M.fS U (M.xr m x))):=by
     rw[pA hm S];exact sQ U (sO hm S)
    refine(cz rfl (.inl ⟨rfl,_,dM.of n⟩) <| aa rfl <| aa rfl <| aU g _ _ _ rfl rfl (hg.sq _) fa <| fh l _ _ rfl rfl n ?_ ?_)
    ·rw[aZ,dC,zV];have h1:=p1.length_eq;exact sz (by omega)
    ·refine(⟨λc o nc h=>by rw[ao nc];exact O c o nc h,e8 (N++[m]) (M.xr m x) (sO hm S) (by simp_all) ?_ ?_ ⟨some (.ref q),?_⟩⟩)
     ·rw[he,drop_cons hk];show N++(m::M.runM _ (ks.drop (i+1)) (M.xr m ((M.cw (M.eX D p) R).getD 0)))=_
      simp_all
     ·grind[ah,List.map_append]
     grind[pA]
   ·rintro σ H' ⟨O,N,m,hm,Xl,he,n,r,rfl⟩;rw[aZ,S0,List.drop_length]at he;have Uw:aW H H':=λc o hc=>O c o (aQ (G _ _ hc) hl) (Uu _ _ (G _ _ hc));have J:=k H' ks Uw KK;have hb:(N++[m]).map (λm=>V.bl (M.fS U m))=((M.fY D p ks).map (M.fS U)).map V.bl:=by
     rw[he,h7];rfl
    rw[hb]at n;unfold M.uX at J;refine(aa rfl <| aO l _ rfl (dM.of n) <| aa rfl ?_);refine eL (λh1=>?_) (λh1=>?_)
    ·rw[ak (by simpa using h1)]at J;exact J
    ·rw[ai (by simpa using h1)]at J;refine(aa rfl <| aO l _ rfl (dM.of n) <| aa rfl ?_);refine eL (λh2=>?_) (λh2=>?_)
     ·rw[ak (by simpa using h2)]at J;exact J
     ·rw[ai (by simpa using h2)]at J;exact J
abbrev Ln:=P3×P3
section
variable(prog:Program)(w:World)
def EN(h:Heap)(p:P3)(b:Addr):Prop:=IsTupleKey (d9 prog w) h (y6 p) b
def ko(h:Heap)(k:Ln)(a:Addr):Prop:=∃o b c n,h.get? a=some o/\o.cls=.type "tuple"/\o.data=.seq #[.ref b,.ref c] n/\EN prog w h k.1 b/\EN prog w h k.2 c
def jh(p:P3):Int:=tupleKeyHash (d9 prog w) (y6 p)
def C6(k:Ln):Int:=reduceHash (Builtin.Tuple.tupleHashOf [jh prog w k.1,jh prog w k.2])
end
section
variable{prog:Program}{w:World}{A:Around}{E:Value->Shared->Prop}{s:Shared}
theorem ko.ty{k:Ln}(x:ko prog w s.heap k a):s.TypeIs (.ref a) "tuple":=let ⟨o,_,_,_,c,b,_⟩:=x;(ab o c b)
theorem ko.uniq{x y:Ln}(g:ko prog w h x a)(f:ko prog w h y a):x=y:=by
 refine hO g λo b c n l _ k j i=>?_;refine hO f λs r q t e _ d p m=>?_;rw[l]at e;cases e;rw[k]at d;injection d with d _;have e1:b=r/\c=q:=by simpa using d
 obtain⟨rfl,rfl⟩:=e1;exact a9 (kM _ _ (j.inj p)) (kM _ _ (i.inj m))
theorem ko.stays{k:Ln}{es ep}(x:ko prog w h k a)(g:h.get? d=some o)(e:o.data=.dict es ep)(f:Heap.SameBut d h h'):ko prog w h' k a:=by
 refine hO x λi b c n q p m l j=>?_;refine(aU i b c n ((f.2 a ?_).trans q) p m (l.keeps g e f) <| j.keeps g e f);grind
theorem Ki{k:Ln}{Q:Int->Shared->Prop}(m:A.units+8<cLine)(x:ko prog w s.heap k a)(h:Q (C6 prog w k) { s with toks:=s.toks+9 }):wpAny (model prog w) A (pyHash (.ref a)) Q E s:=by
 have ty:=x.ty;refine hO x λo b c n l _ j i g=>?_;have e:A.units<cLine:=by omega
 have d:A.in1.units<cLine:=show A.units+1<cLine by omega
 unfold pyHash
 first | unfold pyHashByItsType | skip
 first | refine ag (wpAny_cRoomFor_or (.inr e) ?_) | skip
 refine ag (lF ty qC.lookup ?_);show wpAny _ _ (if (some (Value.builtin "tuple.__hash__")==some Value.none)=true then _ else _) Q E s;rw[ai (by simp_all)];refine ag (lF ty qC.lookup ?_);refine ag (wpAny_callSpecialIfBoundUnlessNone?_slot ty qC (iS qC ty F.entry_tuple_hash ?_ (F.args_tuple_hash_1 _)));show wpAny _ _ (Builtin.Tuple.tupleItemsOf (.ref a) >>= _) _ _ s;refine ag (ug l j ?_);refine ag ?_;rw[<-uo];show wpAny _ _ (forIn [Value.ref b,Value.ref c] _ _) _ _ s;rw[jS];refine ag (ag (wpAny_pyHash_tuple d i ?_));refine au ?_;show wpAny _ _ (forIn [Value.ref c] _ _) _ _ _;rw[jS];refine ag (ag (wpAny_pyHash_tuple (ks:=y6 k.2) (s:={ s with toks:=s.toks+4 }) d g (au ?_)));show wpAny _ _ (forIn ([]:List Value) _ _) _ _ _;rw[qv];refine au ?_;show wpAny _ _ (retInt (Builtin.Tuple.tupleHashOf [jh prog w k.1,jh prog w k.2])) _ _ _;refine wpAny_ret_mkInt ?_;show wpAny _ _ (if (decide (-(2:Int)^63<=Builtin.Tuple.tupleHashOf [jh prog w k.1,jh prog w k.2])&&decide (Builtin.Tuple.tupleHashOf [jh prog w k.1,jh prog w k.2]<2^63))=true then _ else _) Q E _;unfold C6 reduceHash at h
 by_cases f:(decide (-(2:Int)^63<=Builtin.Tuple.tupleHashOf [jh prog w k.1,jh prog w k.2])&&decide (Builtin.Tuple.tupleHashOf [jh prog w k.1,jh prog w k.2]<2^63))=true
 ·rw[ak f]at h ⊢;exact au h
 ·rw[ai f]at h ⊢;exact ag (lA (au h))
theorem C4{x y:Ln}{P:PySem.Fin->Shared->Prop}(F:A.units+7<cLine)(j:ko prog w s.heap x a)(g:ko prog w s.heap y b)(h:P (.done (.ret (.bool (decide (x=y))))) s):
  wpAny (model prog w) A (Builtin.«tuple.__eq__» ⟨[.ref a,.ref b],[]⟩) P E s:=by
 have ty:=g.ty;have c:A.units<cLine:=by omega
 refine hO j λo p q n r _ m l k=>?_;refine hO g λC i f D B _ v u t=>?_;show wpAny _ _ (isInstance (.ref b) (.type "tuple") >>= _) _ _ s;refine ag (lG ty uv ?_);simp only[ie,fc,cx];refine ag (ug r m (ag (ug B v (ag ?_))));show wpAny _ _ (forIn [(Value.ref p,Value.ref i),(Value.ref q,Value.ref f)] _ _) _ _ s;rw[jS];refine ag ?_;refine ag (wpAny_eqBool_tuple c l u ?_)
 by_cases e1:y6 x.1=y6 y.1
 ·rw[bE e1];simp only[ie,fc,cx];refine au ?_;show wpAny _ _ (forIn [(Value.ref q,Value.ref f)] _ _) _ _ s;rw[jS];refine ag (ag (wpAny_eqBool_tuple c k t ?_))
  by_cases d:y6 x.2=y6 y.2
  ·rw[bE d];simp only[ie,fc,cx];refine au ?_;show wpAny _ _ (forIn ([]:List (Value×Value)) _ _) _ _ s;rw[qv];refine au (au ?_);rw[bE (a9 (kM _ _ e1) (kM _ _ d))]at h;exact h
  ·rw[di d];simp only[ua,dh];have e:decide (x=y)=false:=di λz=>d (by rw[z]);rw[e]at h;exact ag (au (au (au (au h))))
 ·rw[di e1];simp only[ua,dh];have e:decide (x=y)=false:=di λz=>e1 (by rw[z]);rw[e]at h;exact ag (au (au (au (au h))))
theorem PB{x y:Ln}{Q:Bool->Shared->Prop}(j:A.units+8<cLine)(d:ko prog w s.heap x a)(f:ko prog w s.heap y b)(h:Q (decide (x=y)) s):wpAny (model prog w) A (eqBool (.ref a) (.ref b)) Q E s:=by
 have g:A.units<cLine:=by omega
 unfold eqBool
 try with_reducible refine eO ?_
 show wpAny _ _ (if (Value.ref a==Value.ref b)=true then _ else _) Q E s
 by_cases c:(Value.ref a==Value.ref b)=true
 ·rw[ak c];have e:a=b:=by simp_all
  subst e;obtain rfl:=d.uniq f;exact ag (lA (au (by simpa using h)))
 ·rw[ai c];exact ag (wpAny_richCompare_same_room (op:=.Eq) d.ty f.ty qm
   (iS qm d.ty F.entry_tuple_eq (C4 (A:=A.in1) (show A.units+1+7<cLine by omega) d f (cz rfl (λe=>nomatch e) <| gU h)) (F.args_tuple_eq_2 _ _)) g)
theorem AZ{p:P3}{Q:Bool->Shared->Prop}(x:EN prog w s.heap p a)(h:Q true s):wpAny (model prog w) A (eqIsQuiet (n+1) (.ref a)) Q E s:=by
 have ty:=x.typeIs;obtain⟨o,c,m,i,_,g,f⟩:=x;unfold eqIsQuiet;refine ag (lF ty qm.lookup ?_);show wpAny _ _ (isInstance (.ref a) (.type "tuple") >>= _) _ _ s;refine ag (lG ty uv ?_);simp only[ie,fc,cx];refine ag (i3 i g (ag ?_));show wpAny _ _ (forIn c _ _) _ _ s;rw[<-uo];refine wpAny_forIn_list _ (λrest r e=>r.1=none/\e=s/\∀v∈rest,carriedByValue v=true) _ ?_ ?_ _ _ (cO rfl rfl f.byValue)
 ·rintro v rest r e ⟨j,rfl,b⟩;rw[eqIsQuiet_byValue _ (b v iU)];refine ag (au ?_);simp only[ie,fc,cx];exact au (cO rfl rfl <| λu d=>b u (cN _ d))
 grind[wpAny_pure]
theorem HS{k:Ln}{Q:Bool->Shared->Prop}(x:ko prog w s.heap k a)(h:Q true s):wpAny (model prog w) A (eqIsQuiet 8 (.ref a)) Q E s:=by
 have ty:=x.ty;refine hO x λo b c n g _ f e d=>?_;unfold eqIsQuiet;refine ag (lF ty qm.lookup ?_);show wpAny _ _ (isInstance (.ref a) (.type "tuple") >>= _) _ _ s;refine ag (lG ty uv ?_);simp only[ie,fc,cx];refine ag (i3 g f (ag ?_));show wpAny _ _ (forIn #[Value.ref b,Value.ref c] _ _) _ _ s;rw[<-uo];show wpAny _ _ (forIn [Value.ref b,Value.ref c] _ _) _ _ s;rw[jS];refine ag (ag (AZ (n:=6) e ?_));simp only[ie,fc,cx];refine au ?_;show wpAny _ _ (forIn [Value.ref c] _ _) _ _ s;rw[jS];refine ag (ag (AZ (n:=6) d ?_));simp only[ie,fc,cx];grind[wpAny_pure,List.forIn_nil]
end
variable{I:List (Ln×V)}{L:List Ln}
def pL(prog:Program)(w:World):HeapKind prog w Ln where
 is:=ko prog w
 hash:=C6 prog w
 draws:=λ_=>9
 room:=λA=>A.units+8<cLine
 inj:=λb a=>b.uniq a
 keeps:=λx f d e=>x.stays f d e
 pyHash:=λc x h=>Ki c x h
 eqBool:=λc b a h=>PB c b a h
 quiet:=λx h=>HS x h
def fT(H:Hp)(a:Addr)(k:Ln):Prop:=∃b c,H a=some (.bG [.ref b,.ref c])/\d6 H b k.1/\d6 H c k.2
theorem fT.keep{k:Ln}(h:fT H a k)(s:∀c xs,H c=some (.bG xs)->H' c=some (.bG xs)):fT H' a k:=by
 refine aF h λb c f e d=>?_;exact(aO b c (s _ _ f) (s _ _ e) <| s _ _ d)
abbrev LX:=List (Ln×Addr×Value)
def xD(P:Program)(w:World)(d:Addr)(xs:LX):HO:=.ext λh=>∃o es ep,h.get? d=some o/\o.ExactDict/\o.data=.dict es ep/\es.toList=xs.map (entryOfKey (pL P w))/\(xs.map (·.1)).Nodup
abbrev KL(H:Hp):List (Ln×V)->LX->Prop:=Paired λp q=>p.1=q.1/\fT H q.2.1 p.1/\bY p.2 q.2.2
def lj(P:Program)(w:World)(H:Hp)(d:Addr)(I:List (Ln×V)):Prop:=I.length<=sizeLine/\(d==sysModules)=false/\∃xs,H d=some (xD P w d xs)/\KL H I xs
theorem KL.val{xs:LX}(r:KL H I xs)(k:Ln):mH (gz I k) ((atKey xs k).map (·.2)):=by
 induction r with
 | nil=>exact True.intro
 | @cons p q ps a h t d=>
  refine fb h λc _ f=>?_
  by_cases e:p.1=k
  ·have b:atKey (q::a) k=some q.2:=by simp[atKey,i7,c.symm.trans e]
   rw[fi e,b];exact f
  ·have g:¬q.1=k:=λz=>e (c.trans z);have b:atKey (q::a) k=atKey a k:=by simp[atKey,i7,g]
   rw[fj e,b];exact d
theorem KL.put{xs:LX}(r:KL H I xs)(k:Ln){y:V}(f:fT H b k)(a:bY y u):KL H (hW I k y) (storedH xs k b u):=by
 have e:(I.any λc=>decide (c.1=k))=(atKey xs k).isSome:=by rw[nG,(KL.val r k).sN,uk]
 unfold hW storedH;rw[e]
 by_cases q:(atKey xs k).isSome=true
 ·rw[ak q,ak q];clear e q
  induction r with
  | nil=>exact .nil
  | @cons p q ps g h t d=>
   refine .cons ?_ d;refine fb h λl j i=>?_;unfold putAt;dsimp only
   by_cases e:p.1=k
   ·simp_all
   simp_all
 ·rw[ai q,ai q];exact fF r (cO rfl f a)
theorem KL.keep{H H':Hp}{I:List (Ln×V)}{xs:LX}(r:KL H I xs)(s:∀c xs,H c=some (.bG xs)->H' c=some (.bG xs)):KL H' I xs:=Paired.fx r λ_ _ z=>(cO z.1 (z.2.1.keep s) z.2.2)
theorem _root_.L2.aW.gY(s:aW H H'):∀c xs,H c=some (.bG xs)->H' c=some (.bG xs):=λc xs h=>s c _ h
theorem lj.keep{P:Program}{w:World}{H H':Hp}{d:Addr}{I:List (Ln×V)}(h:lj P w H d I)(s:aW H H'):lj P w H' d I:=by
 refine fb h λz b a=>ae a λxs e r=>?_;exact(cO z b <| ab xs (s _ _ e) <| KL.keep r s.gY)
section
variable{P:Program}{w:World}{H:Hp}{h:Heap}{a d:Addr}{k:Ln}{xs:LX}{I:List (Ln×V)}
theorem Hf{p:P3}(b:mN P w H h)(e:d6 H a p):EN P w h p a:=sM b (A1.1 e)
theorem yX(f:mN P w H h)(e:fT H a k):(pL P w).is h k a:=by
 refine aF e λb c e1 p m=>?_;refine cE (show dR P w H h a (.bG [.ref b,.ref c]) from f a _ e1) λ_ d=>ae d λg r d=>aH d λo l j d=>aA d λn i=>?_;have:g=[.ref b,.ref c]:=oz (bs:=[b,c]) r;subst this;exact(aU o b c n l j i (Hf f p) <| Hf f m)
theorem BA(a:mN P w H h)(e:H d=some (xD P w d xs))(r:KL H I xs):h.DictOfH (pL P w) d xs:=by
 obtain⟨⟨o,es,ep,k,j,i,f,c⟩,-⟩:=(show dR P w H h d (xD P w d xs) from a d _ e)
 refine⟨o,es,ep,k,j,i,f,λx hx=>?_,c⟩;clear f c e
 induction r with
 | nil=>exact nomatch hx
 | @cons p q ps l b t g=>
  rcases aY.1 hx with z | hx
  ·subst z;exact yX a (by rw[<-b.1];exact b.2.1)
  ·exact g hx
theorem Ia(b:h'.get? d=some o)(i:o.ExactDict)(h:o.data=.dict es ep)(f:es.toList=xs.map (entryOfKey (pL P w)))(e:(xs.map (·.1)).Nodup):dR P w H' h' d (xD P w d xs):=
 (cO (fh o es ep b i h f e) ⟨o,b⟩ <| λ_ _ a c=>aN a λo es a=>ae a λep j g=>⟨o,es,ep,c _ j,g⟩)
end
def L'(P:Program)(w:World):TE:=λ_ H Q=>∀p,H p=none->lj P w (aX H p (xD P w p [])) p []->Q (.ref p) (aX H p (xD P w p []))
def L_(P:Program)(w:World)(td ty tx:TE):TE:=fun σ H Q=>td σ H λx d=>∃a,x=.ref a/\(∃I,lj P w d a I)/\ty σ d λy e=>tx σ e λz c=>∃I b k,lj P w c a I/\y=.ref b/\fT c b k/\Q ((gz I k).getD z) c
def MG(P:Program)(w:World)(td ty tv:TE):TS:=λD σ H=>tv σ H λv e=>td σ e λx d=>ty σ d λy c=>∃a I b k,x=.ref a/\lj P w c a I/\y=.ref b/\fT c b k/\I.length<sizeLine/\
 ∀xs,lj P w (aX c a (xD P w a xs)) a (hW I k v)->D.nx σ (aX c a (xD P w a xs))
def Gq(P:Program)(w:World)(ty td:TE):TE:=fun σ H Q=>ty σ H λy d=>td σ d λx c=>∃a I b k,x=.ref a/\lj P w c a I/\y=.ref b/\fT c b k/\Q (.bl (!(gz I k).isSome)) c
section
variable{X:Cx}{o i e f value:Expr}{pos pos' iF jk:Pos}{td ty tx tv:TE}
theorem yW(a:A.units+10<cLine):(pL P w).room A.in1:=show A.units+1+8<cLine by omega
theorem Bb:PE X (.Dict [] [] pos) (L' X.prog X.w):=λO s σ H Q I h=>by
 have b:H s.heap.objs.size=none:=I.dS.fresh (a0 _);have c:(s.heap.objs.size==sysModules)=false:=lQ.2 (bu (b8 I.big));refine wpAny_Dict_empty (aO (.ref s.heap.objs.size) _ (I.laid (a:=s.heap.objs.size) (o:=xD X.prog X.w s.heap.objs.size []) (t':=s.toks) (λ_ _ q=>bT _ q) (a0 _)
  (Ia (xs:=[]) (es:=#[]) (ep:=0) (cu _ rfl) (cO rfl rfl rfl) rfl rfl List.nodup_nil)) rfl <| h _ b (cO (bZ _) c <| ab [] ah <| .nil))
theorem Kj(c:Inv X O σ H s)(h:lj X.prog X.w H a I):
  s.TypeIs (.ref a) "dict"/\(∀b,Value.ref a=.ref b->∃d,s.heap.get? b=some d/\d.dict=none):=by
 refine fb h λ_ _ e=>ae e λxs f r=>?_;have dd:=BA c.dS f r;refine⟨dd.typeIs,λb q=>?_⟩;cases q;refine aN dd λd _ e=>aH e λ_ i g _=>?_;exact(ab d i g.2.1)
theorem Hv(C:X.A.units+10<cLine)(D:PE X o td)(G:PE X e ty)(F:PE X f tx)(m:M2 X o "get" iF e f jk):PE X (.Call (.Attribute o "get" iF) [e,f] [] jk) (L_ X.prog X.w td ty tx):=by
 intro O s σ H Q c h;refine qE m.base m.few m.line uM nj zX (dY (D O s σ H _ c h) λu q ⟨x,S,j,v,a,L,⟨U,d⟩,B⟩=>?_);subst L;obtain rfl:u=Value.ref a:=v;refine cE (Kj j d) λn l=>?_;refine(cO n l ?_);rw[m.trees];refine qX rfl (qP (jX (dY (G O q σ S _ j B) λiv p ⟨y,R,N,t,A⟩=>
  jX (dY (F O p σ R _ N A) λfv T ⟨z,P,i,r,I,b,k,⟨_,J,xs,M,g⟩,K,E,w⟩=>qB ?_))))
 subst K;cases(show iv=Value.ref b from t);have dd:=BA i.dS M g;exact qe nj dd.typeIs uK (uL _ _ _) (meetsH_dict_get_default (pL X.prog X.w) a b J fv) (⟨yW C,aO k xs (yX i.dS E) dd <| aO _ P (i.tok _) ((KL.val g k).getD r) w⟩)
theorem A2(M:X.A.units+10<cLine)(Q:PE X o td)(R:PE X i ty)(L:PE X value tv)(P:swapsWith value (some (.Subscript o i pos')) pos.line X.env=pure false):
  PS X (.Assign [.Subscript o i pos'] value pos) (MG X.prog X.w td ty tv):=by
 intro O s σ H D d h;refine wpAny_Assign_Subscript (dY (L O s σ H _ d h) λr A e=>aF e λv H1 I1 E J=>dY (Q O A σ H1 _ I1 J) λu w e=>aF e λx H2 I2 C G=>dY (R O w σ H2 _ I2 G) λiv s3 ⟨y,H3,l,B,a,I,b,k,Z,⟨z,S,xs,g,f⟩,Y,n,hl,F⟩=>?_) P;subst Z Y;obtain rfl:u=Value.ref a:=C;cases(show iv=Value.ref b from B);have dd:=BA l.dS g f;have K:xs.length<=sizeLine:=by rw[<-ba f];exact z
 refine wpAny_setItem_heap (hsz:=K) (yW M) (yX l.dS n) dd λh' j t=>?_;refine aN j λq es e=>dG e λep m W V U e=>cE e λ_ T=>?_;refine(br σ _ (oO l (by rw[g];exact True.intro) t ⟨q,m⟩ (Ia m W V U T)) <| F _ (cO ?_ S <| aa ah <| KL.keep (KL.put f k n E) λc ys p=>?_))
 ·have:=je I k v;omega
 ·rw[ao (a3 p g (λz=>nomatch z))];exact p
theorem CM(p:X.A.units+10<cLine)(v:PE X i ty)(r:PE X o td):PC X .NotIn i o (Gq X.prog X.w ty td):=by
 intro O s σ H Q c h;refine dY (v O s σ H _ c h) λiv g f=>aF f λy F D j n=>dY (r O g σ F _ D n) λu G ⟨x,E,e,l,a,I,b,k,B,⟨z,w,xs,C,d⟩,A,t,m⟩=>?_;subst B A;obtain rfl:u=Value.ref a:=l;cases(show iv=Value.ref b from j);have dd:=BA e.dS C d;refine wpAny_notIn_heap (yW p) (yX e.dS t) w dd ?_;have q:=(KL.val d k).sN;rw[uk]at q;rw[<-q];exact(aO (.bl _) E (e.tok _) rfl m)
end
section
variable{prog:Program}{w:World}{A:Around}{E:Value->Shared->Prop}{s:Shared}
theorem yT(d:Addr)(c:(d==sysModules)=false):
  MeetsIn prog w (Builtin.«dict.items» ⟨[.ref d],[]⟩) (λ_ R s=>s.TypeIs (.ref d) "dict"/\R (.ok (.ret (.ref s.heap.objs.size))) { s with heap:=s.heap.push { cls:=.type "dict_items",data:=.fields #[.ref d] } }):=
 .of_wp λA R s a=>cE a λb h=>by
  unfold Builtin.«dict.items» Builtin.Dict.noArgs;refine ag (ag (uw b (au ?_)));show wpAny _ _ (Builtin.Dict.showsAll d >>= _) _ _ s;unfold Builtin.Dict.showsAll;rw[ai (show ¬(d==sysModules)=true by rw[c];decide)];exact ag (au (ag (jz (au (aa rfl h)))))
theorem BB{v:Addr}(f:s.heap.IsItemsView v d)(g:s.heap.get? d=some o)(a:o.data=.dict es ep)(j:Q (.ref s.heap.objs.size) { s with heap:=s.heap.push { cls:=.type "dict_itemiterator",data:=.fields #[.none,.bool false,.ref d,.int 0 0,.int es.size 0,.int ep 0,.none,.none] } }):
  wpAny (model prog w) A (pyIter (.ref v)) Q E s:=by
 have h:=f.typeIs;refine aH f λk c i e=>?_;refine ud h F.slot_dict_items_iter (iS F.slot_dict_items_iter h F.entry_dict_items_iter ?_ (F.args_dict_items_iter_1 _));unfold Builtin.«dict_items.__iter__» Builtin.Dict_items.dictOf;refine ag (au (ag (ag (p9 c e (x:=.ref d) rfl (au (ag ?_))))));unfold Builtin.Dict_items.newIterator;refine ag (jW g a (ag (lE g a ?_)));have b:Builtin.Dict_items.ownsTuple "dict_itemiterator"=true:=by decide
 simp only[b,dh];refine jz (au (aa rfl <| aO ("dict_itemiterator") _ (aa (cu _ rfl) rfl) pZ.lookup ?_))
  (by simp only[sizeOk,Builtin.Dict_items.ownedTupleFields,cS,dC,dj,m2,lB];omega)
 simpa[rawInt,Builtin.Dict_items.ownedTupleFields] using j
theorem Bl{j:DictEntry}{B u:Value}{Q:Option Value->Shared->Prop}(n:IsItemIter s.heap it d i es.size ep B u)(v:s.heap.get? d=some od)(y:od.data=.dict es ep)(Y:es[i]?=some j)
  (Z:∀h',IsItemIterOut h' it d (i+1) es.size ep j.key j.val s.heap.objs.size->h'.get? s.heap.objs.size=some { cls:=.type "tuple",data:=.seq #[j.key,j.val] }->
   (∀b o,b≠it->s.heap.get? b=some o->h'.get? b=some o)->Q (some (.ref s.heap.objs.size)) { s with heap:=h' }) :
  wpAny (model prog w) A (pyNext (.ref it)) Q E s:=by
 obtain⟨p,g,z,t,os⟩:=s;have r:Shared.TypeIs ⟨p,g,z,t,os⟩ (.ref it) "dict_itemiterator":=(aa n rfl)
 unfold pyNext;refine ag (mQ (q_ (name:=Str.ofString "__next__") r pZ (iS pZ r Ae ?_ (Ak _))));refine ag (au (ag (ag ?_)))
 first | refine ag (rm r (au (ag (lD n rfl ?_)))) | refine ag (ri r (au (ag (lD n rfl ?_))))
 have J:Builtin.Dict_items.ownsTuple "dict_itemiterator"=true:=by decide
 simp only[J,dh];show wpAny _ _ (if (Value.ref d==Value.none)=true then _ else _) _ _ _;rw[ai (show ¬(Value.ref d==Value.none)=true by simp_all)];refine ag (au (ag (jW v y ?_)));rw[ai (show ¬_ from by simp)];refine ag (au (ag (lE v y ?_)));rw[ai (show ¬_ from by simp)];refine au ?_;refine aA (Am.1 Y) λK L=>?_;simp only[show ¬((i:Int)<0) from by omega,cx,lK,Aj K];rw[L];refine ag ?_
 first | refine ag (rm r (au (ag (qZ r ?_)))) | refine ag (ri r (au (ag (qZ r ?_))))
 show wpAny _ _ (setField (.ref it) 3 (rawInt ((i:Int)+1)) >>= _) _ _ (Shared.mk p g z t os);refine ag (m4 n (by simp) λa h c=>?_)
 replace c:Heap.SameBut it p a:=c
 replace h:IsItemIter a it d (i+1) es.size ep B u:=by
  have e:((i+1:Nat):Int)=(i:Int)+1:=by omega
  unfold IsItemIter;rw[e];simpa[rawInt] using h
 have m:Shared.TypeIs ⟨a,g,z,t,os⟩ (.ref it) "dict_itemiterator":=(aa h rfl)
 refine ag (eO (ag (qZ m (ag (qZ m ?_)))));show wpAny _ _ (Builtin.Dict_items.pairFromOwner (.ref it) 6 j.key j.val) _ _ (Shared.mk a g z t os);unfold Builtin.Dict_items.pairFromOwner;refine ag (t7 ?_);have f:IsItemIter (a.push { cls:=.type "tuple",data:=.seq #[j.key,j.val] }) it d (i+1) es.size ep B u:=bT _ h;generalize l:a.push { cls:=.type "tuple",data:=.seq #[j.key,j.val] }=k at f;have D:a.objs.size=p.objs.size:=c.1;have X:it<p.objs.size:=bo n;have V:k.get? p.objs.size=some { cls:=.type "tuple",data:=.seq #[j.key,j.val] }:=by
  rw[<-l,<-D];exact cu _ rfl
 have W:∀b o,b≠it->p.get? b=some o->k.get? b=some o:=λb o q e=>by
  rw[<-l];exact bT _ (c.extBut b o q e)
 show wpAny _ _ (Builtin.Dict_items.ownedTupleIsFree (.ref it) >>= _) _ _ (Shared.mk k g z t os);rw[D];clear l h c m D a;refine ag ?_;unfold Builtin.Dict_items.ownedTupleIsFree;refine ag (p9 f rfl (x:=.none) rfl (au ?_));simp only[dh];refine ag (p9 f rfl (x:=B) rfl (ag (p9 f rfl (x:=u) rfl ?_)));refine ag (m4 f (by simp) λO T I=>?_)
 replace I:Heap.SameBut it k O:=I
 replace T:IsItemIter O it d (i+1) es.size ep j.key u:=T
 refine ag (m4 T (by simp) λN S H=>?_)
 replace H:Heap.SameBut it O N:=H
 replace S:IsItemIter N it d (i+1) es.size ep j.key j.val:=S
 refine ag (m4 S (by simp) λM R G=>?_)
 replace G:Heap.SameBut it N M:=G
 replace R:IsItemIterOut M it d (i+1) es.size ep j.key j.val p.objs.size:=R
 refine ag (m4 R (by simp) λC P F=>?_)
 replace F:Heap.SameBut it M C:=F
 replace P:IsItemIterOut C it d (i+1) es.size ep j.key j.val p.objs.size:=P
 have U:∀b o,b≠it->k.get? b=some o->C.get? b=some o:=λb o q e=>F.extBut b o q (G.extBut b o q (H.extBut b o q (I.extBut b o q e)));exact ag (gI (au (au (aa rfl <| au (Z C P (U _ _ (mV X) V) λb o q e=>U b o q (W b o q e))))))
theorem Dl{l k:Value}{Q:Option Value->Shared->Prop}(n:A.handled=none)(c:IsItemIter s.heap it d i es.size ep l k)(f:s.heap.get? d=some od)(g:od.data=.dict es ep)(j:es.size<=i)(o:∀h',Heap.ExtBut it s.heap h'->Q none { s with heap:=h' }):wpAny (model prog w) A (pyNext (.ref it)) Q E s:=by
 have e:s.TypeIs (.ref it) "dict_itemiterator":=(aa c rfl)
 unfold pyNext;refine ag (mQ (q_ (name:=Str.ofString "__next__") e pZ (iS pZ e Ae ?_ (Ak _))));refine ag (au (ag (ag ?_)))
 first | refine ag (rm e (au (ag (lD c rfl ?_)))) | refine ag (ri e (au (ag (lD c rfl ?_))))
 have h:Builtin.Dict_items.ownsTuple "dict_itemiterator"=true:=by decide
 simp only[h,dh];show wpAny _ _ (if (Value.ref d==Value.none)=true then _ else _) _ _ _;rw[ai (show ¬(Value.ref d==Value.none)=true by simp_all)];refine ag (au (ag (jW f g ?_)));rw[ai (show ¬_ from by simp)];refine ag (au (ag (lE f g ?_)));rw[ai (show ¬_ from by simp)];refine au ?_;simp only[show ¬((i:Int)<0) from by omega,cx,lK,zZ j];refine ag ?_
 first | refine ag (rm e (au ?_)) | refine ag (ri e (au ?_))
 show wpAny _ _ (setField (.ref it) 2 .none >>= _) _ _ s;refine ag (t8 c rfl (by simp) ?_);show wpAny _ _ (newExc (.type "StopIteration") [] >>= _) _ _ _;refine ag ?_;simp only[newExc,newTuple];refine ag (jz (ag (m:=firstArgMember _ _) (p_ (a:=Value.none) (by first | rfl | (simp only[firstArgMember];rfl)) (jz ?_ (by size_fits)))) (by size_fits));simp only[raiseNew];refine ag (wpAny_handled ?_);rw[show A.in1.handled=none from n];refine ag (au (wpAny_throw ?_));refine ag (lG (b:=true) (T:="StopIteration") (aa (cu _ rfl) rfl) isSubtype_stop ?_);exact au (o _ (((kB ..).extBut.push _).push _))
end
def Qw(P:Program)(w:World)(d:Addr)(o:Obj)(I:List (Ln×V))(xs:LX):It:=
 ⟨λi H=>H d=some (.oI o (xD P w d xs))/\i<I.length,λi H x H'=>∃T q k v,I[i]?=some (k,v)/\x=.ref T/\H T=none/\xs[i]?.map (·.2.1)=some q/\H'=aX H T (.bG [.ref q,v]),λi H=>H d=some (.oI o (xD P w d xs))/\I.length<=i⟩
def Ku(P:Program)(w:World)(td:TE):TI:=fun σ H R=>td σ H λx a=>∃d I xs,x=.ref d/\(d==sysModules)=false/\a d=some (xD P w d xs)/\KL a I xs/\∀o,R (Qw P w d o I xs) (aX a d (.oI o (xD P w d xs)))
theorem ND{xs:LX}(I:Inv X O σ H s)(h:H d=some (.oI o (xD X.prog X.w d xs))):
  s.heap.get? d=some o/\o.ExactDict/\∃es ep,o.data=.dict es ep/\es.toList=xs.map (entryOfKey (pL X.prog X.w)):=by
 obtain⟨c,⟨g,es,ep,b,e,a,f,_⟩,_⟩:=I.dS d _ h;rw[c]at b;cases b;exact(cO c e <| br es ep a f)
theorem AD{xs:LX}{D:List Expr}{kk:Nat}{r:Pos}(it:Addr)(x:o.data=.dict es ep)(f:Paired (λp q=>p.1=q.1/\bY p.2 q.2.2) I xs):Turn P w K (.Tuple D kk r) (Qw P w d o I xs) [it] it (λi h=>∃u t,IsItemIter h it d i es.size ep u t) where
 mem:=by simp
 obj:=λi h st b n=>by
  grind
 keep:=λi h h' st k=>let ⟨u,t,e⟩:=st;⟨u,t,k it (by simp) _ e⟩
 item:=by
  intro X U hw V hc i O s σ H E a F st N;subst U hw V;refine cE N λS hi=>?_;refine fb (ND a S) λl hx J=>bI J λW Y c m=>?_;refine cE (EE x c) λj g=>?_;subst j g;obtain⟨⟨k,v⟩,z⟩:∃p,I[i]?=some p:=⟨I[i],cQ hi⟩
  obtain⟨q,hq,e1,rv⟩:=Pd.get f z;have B:=entry_at m i;rw[hq]at B;refine aN st λu t G=>?_;have y:it<s.heap.objs.size:=bo G;refine Bl G l c B λh' ho hT hk=>(aa rfl <| wpAny_letOwnedTupleGo_items (s:={ s with heap:=h' }) ho λC R Z=>?_)
  have T:C.get? s.heap.objs.size=some { cls:=.type "tuple",data:=.seq #[Value.ref q.2.1,q.2.2] }:=(Z.2 _ (mV y)).trans hT;have M:dR X.prog X.w (aX H s.heap.objs.size (.bG [.ref q.2.1,v])) C s.heap.objs.size (.bG [.ref q.2.1,v]):=
   (⟨by show 2<=sizeLine;decide,ab [Value.ref q.2.1,q.2.2] (.cons rfl (.cons rv .nil)) (cz T rfl ⟨_,rfl⟩)⟩)
  have I1:=a.EV (t':=s.toks) (ch:=[it]) (λb L n e=>(Z.2 b (by simpa using n)).trans (hk b L (by simpa using n) e)) F (a0 _) M;refine(e8 (.ref s.heap.objs.size) _ I1 rfl (aU _ q.2.1 k v z rfl (a.dS.fresh (a0 _)) (by rw[hq];rfl) rfl) ⟨_,_,R⟩ <| λb n=>?_);have e:b=it:=by simpa using n
  rw[e,ao (b8 y)];exact(F it (by simp)).1
 done:=by
  intro X U hw V hc i O s σ H E a F st N;subst U hw V;refine cE N λS hi=>?_;refine sj (F it (by simp)) λf0 f1 f2 f3 f4 f5=>?_;refine fb (ND a S) λl hx J=>bI J λW Y c m=>?_;refine cE (EE x c) λj g=>?_;subst j g;have hl:I.length=xs.length:=ba f;have hz:_=xs.length:=t_ m;refine aN st λu t G=>?_;exact Dl (a.ok.hd hc) G l c (by omega) λh' eb=>⟨rfl,a.turned (t':=s.toks) (λb L n e=>eb b L n e) f0 f1 f3 f4 f5⟩
 self:=λA i s Q E st h=>let ⟨_,_,e⟩:=st;PySem.W.kcp_self e h
theorem Fd{e:Expr}{td:TE}{jk:Pos}{i:List Expr}{v:Nat}{f:Pos}(G:PE X e td)(k:attributeBase e "items" X.env (eval e X.env)=eval e X.env:=by rfl)(j:(iF.endLine==jk.line)=true:=by rfl):
  PI X (.Tuple i v f) (.Call (.Attribute e "items" iF) [] [] jk) (Ku X.prog X.w td):=by
 intro O s σ H R a h;refine qE (T:="dict") (id:="dict.items") k rfl j F.plainAttrs_dict F.slot_dict_items F.type_dict_items (dY (G O s σ H _ a h) λu g c=>aF c λx B A C c=>aN c λd I c=>dG c λxs L D w l q=>?_);subst L;obtain rfl:u=Value.ref d:=C;have dd:=BA A.dS w l;refine(cO dd.typeIs (λb z=>?_) ?_)
 ·cases z;refine aN dd λt _ c=>aH c λ_ K J _=>?_;exact(ab t K J.2.1)
 refine aA (A.lock w (by exact True.intro)) λo y=>?_;have q:=q o;have p:aX B d (.oI o (xD X.prog X.w d xs)) d=some (.oI o (xD X.prog X.w d xs)):=ah;generalize aX B d (.oI o (xD X.prog X.w d xs))=N at *;refine fb (ND y p) λn S c=>bI c λes ep m E=>?_;have M:Inv X O σ N { g with heap:=g.heap.push { cls:=.type "dict_items",data:=.fields #[.ref d] } }:=y.kept (t':=g.toks) λb t q=>bT _ q;have r:wpAny (model X.prog X.w) X.A (pyIter (.ref g.heap.objs.size)) (QV X O σ (.Tuple i v f) R) X.xe { g with heap:=g.heap.push { cls:=.type "dict_items",data:=.fields #[.ref d] } }:=by
  refine BB (d:=d) (cz (cu _ rfl) rfl rfl) (bT _ n) m (Hk (tk:=g.toks) M _ (AD _ m (Paired.fx l λ_ _ z=>⟨z.1,z.2.2⟩)) ⟨.none,.none,?_⟩ q);exact cu _ rfl
 show wpAny _ _ (callWith jk (.builtin "dict.items") [.ref d] [] []) _ X.xe g;exact method_meetsIn F.slot_dict_items F.entry_dict_items rfl (PySem.evalArgs_none ⟨rfl,dd.typeIs,F.args_dict_items_1 _,_,yT d D,dd.typeIs,r⟩)
abbrev Jn(l:List (Ln×Int)):List (Ln×V):=tab (λk:Ln=>k) V.int l
theorem Ts:∀a b:Ln,(λk:Ln=>k) a=(λk:Ln=>k) b->a=b:=λ_ _ h=>h
theorem PZ(a:fB k A):A.units+10<cLine:=fe (zP (by decide:10<=64) _) a.units
theorem FR(l:List Ql55.At):(Ql55.inOrder l).length<=l.length:=by
 have e:=zU (le:=λa b=>!Ql55.sooner b a) l;unfold Ql55.inOrder;rw[<-e];generalize l.mergeSort (λa b=>!Ql55.sooner b a)=m
 induction m with
 | nil=>exact a0 _
 | cons a m d=>
  grind
theorem B2(D:List M.aJ)(e:M.aJ):(M.js D e).length<=2*D.length:=by
 unfold M.js;grind[List.length_map,FR,vS]
theorem pairs_len(D:List M.aJ)(e:M.aJ):(M.gZ D e).length=(M.js D e).length-1:=by
 unfold M.gZ
 simp_all
abbrev J1(D:List M.aJ)(l:List M.aJ):List (Ln×Int):=l.flatMap λe=>(M.gZ D e).map λk=>(k,e.mark)
theorem yD(D:List M.aJ)(h:D.length<=200):∀l:List M.aJ,(J1 D l).length<=400*l.length
 | []=>by simp
 | e::l=>by
  have a:=yD D h l;grind[pairs_len,B2,List.length_append,List.length_map,List.length_cons]
theorem Lu{l:List M.aJ}(h:∀e,e∈l->wO e):∀x,x∈J1 D l->kx x.2:=by
 intro x a;refine ae (bV.1 a) λe b a=>?_;obtain⟨y,_,rfl⟩:=aw.1 a;exact(h e b).m
def Kp(d:Addr)(H H':Hp):Prop:=∀c o,c≠d->H c=some o->H' c=some o
theorem Kp.refl(d:Addr)(H:Hp):Kp d H H:=λ_ _ _ h=>h
theorem Kp.aX{d:Addr}{H H':Hp}(k:Kp d H H')(o:HO):Kp d H (aX H' d o):=λc u a h=>by rw[ao a];exact k c u a h
theorem Kp.same(k:Kp d H H')(s:aW H' lp):Kp d H lp:=λc u a h=>s _ _ (k c u a h)
theorem Kp.trans(k:Kp d H H')(s:Kp d H' lp):Kp d H lp:=λc u a h=>s c u a (k c u a h)
theorem Kp.to{a:Hp}(k:Kp d H H')(s:aW a H)(n:a d=none):aW a H':=λc u h=>k c u (aQ h n) (s _ _ h)
theorem Kp.gY(k:Kp d H H'){o:HO}(b:H d=some o)(a:∀xs,o≠.bG xs):∀c xs,H c=some (.bG xs)->H' c=some (.bG xs):=λc xs h=>k c _ (a3 h b λz=>a xs z.symm) h
def ye(P:Program)(w:World)(C:Addr):Sp:=λvs H Q _=>∃a D st,vs=[.ref a]/\oV C H a D/\M.Draws D st/\D.length<=200/\∀H' d,H d=none->aW H H'->lj P w H' d (Jn (M.ip D))->Q (.ref d) H'
theorem oD:bc ["edges","changes","edge","points","k","part"] ["edges"] (aK (top 23)):=by constructor<;>decide
theorem HC(F:ju K "parts" "parts" (top 23) f fd)(T:ET K C)(G1:Fn P w K mg base "cuts" 4 ["edge","edges"] (Cu C))(hR:mg "range"=none)(hN:mg "len"=none):
  dw P w K mg base iG 5 f fd ["edges"] (ye P w C):=by
 refine F.ok oD (λvs H Q E h=>?_) (λwd A dF s H vs Q E hr h=>?_)
 ·obtain⟨a,D,st,rfl,_⟩:=h;rfl
 ·obtain⟨a,D,st,rfl,⟨as,hL,pd⟩,hD,B,k⟩:=h;have hu:=PZ hr;refine(aa (aj (a_ (i:=1) oD.nd rfl (Or.inl rfl) Bb) (aj (gE dW rfl (eI (pv 0)) (c6 (i:=2) oD.nd rfl (Or.inl rfl))
   (aj (a_ (i:=3) oD.nd rfl (Or.inl rfl) (bX G1 hr rfl (af (pv 2) (af (pv 0) ar))))
   (aB (gE dW rfl (Fb rfl hR (af aq (af (df dP (by rfl) hN iR (af (pv 3) ar)) ar))) (c6 (i:=4) oD.nd rfl (Or.inl rfl))
    (aj (a_ (i:=5) oD.nd rfl (Or.inl rfl) (fX (af (aT cT (pv 3) (a7 fM (pv 4) aq) (λ_ _=>rfl)) (af (aT cT (pv 3) (pv 4) (λ_ _=>rfl)) ar))))
    (aB (A2 hu (pv 1) (pv 5) (a7 yI (Hv hu (pv 1) (pv 5) aq ⟨rfl,rfl,rfl,rfl⟩) (bJ (pv 2) rfl)) rfl)))))))
   (aB (bg (pv 1))))) ?_)
  intro d hd Qb;refine(aa rfl <| a8 a rfl ⟨_,dM.of (aE hd _ _ hL)⟩ <| eV (xs:=as.map V.ref) (λi σ H'=>aW H H'/\lj P w H' d (Jn (M.lr (J1 D (D.take i)) []))/\∃J I r3 r4,σ=[some (.ref a),some (.ref d),J,I,r3,r4])
   (cO (aE hd) Qb ⟨none,none,none,none,rfl⟩) ?_ ?_ ?_)
  ·rintro i σ H' _ ⟨o,_⟩;exact dM.of (o _ _ hL)
  ·rintro i x0 σ H' Im ⟨o,VP,J,I,r3,r4,rfl⟩;obtain⟨x,r,rfl⟩:=d_ Im;refine ae (Pd.get pd r) λe Z hE=>?_;have hm:=bP Z;have oe:=k9 (hD.ok e hm);have hi:i<D.length:=(bF.1 Z).1;refine(aa rfl <| aa rfl <| sZ x a D st e rfl (hE.keep o) hm (ab as (o _ _ hL) <| Paired.fx pd λy f z=>z.keep o) hD B <| λH2 l G L=>?_);refine ae L λS L pq=>?_;obtain⟨ed,T2⟩:=hE.keep (o.trans G);have cl:=B2 D e;have ql:=ba pq;have L0:=yD D B (D.take i);rw[fH]at L0;have VO:=VP.keep G;have lz:(S.map V.ref).length<=400:=by grind
   refine fb (id VO) λ_ _ zz=>ae zz λXY N _=>?_;have dl:l≠d:=a3 L N (by intro z;cases z);have dx:x≠d:=a3 T2 N (by intro z;cases z);have X9:(2:Int)^62=4611686018427387904:=by decide
   refine(aa rfl <| aO l _ rfl (.inl (dM.of L)) <| aO 1 _ rfl (oX (by decide) (by decide) (by omega) <| by omega) <| FP (lo:=1) (n:=(((S.map V.ref).length:Int)-1).toNat)
    (λj σ u=>aW H u/\Kp d H2 u/\lj P w u d (Jn (M.lr (J1 D (D.take i)++((M.gZ D e).take j).map λk=>(k,e.mark)) []))/\∃J I,σ=[some (.ref a),some (.ref d),some (.ref x),some (.ref l),J,I])
    (oX (o.trans G) (Kp.refl _ _) (by simp_all) ⟨r3,r4,rfl⟩) ?_ ?_)
   ·rintro j σ u hj ⟨m,X,R,J,I,rfl⟩;rw[aZ]at hj;obtain⟨q,hq⟩:∃q,S[j]?=some q:=⟨_,cQ (by omega)⟩
    obtain⟨U,Jo⟩:∃q,S[j+1]?=some q:=⟨_,cQ (by omega)⟩
    refine ae (Pd.get pq hq) λp hp hP=>?_;refine ae (Pd.get pq Jo) λb Sh Ss=>?_;have TF:(M.gZ D e)[j]?=some (p,b):=by
     unfold M.gZ;grind[List.getElem?_zip_eq_some,List.getElem?_drop,Nat.add_comm]
    have qd:∀{q:Addr} {p:P3},d6 H2 q p->q≠d:=λh=>a3 h N (by intro z;cases z);have Y:=X _ _ dl L;generalize Jq:J1 D (D.take i)++((M.gZ D e).take j).map (λk=>(k,e.mark))=c at *;have nL:c.length<100000:=by
     grind
    have mL:∀x,x∈c->kx x.2:=by
     rw[<-Jq];intro x r;rcases cJ.1 r with z | z
     ·exact Lu (λe Z=>k9 (hD.ok e (ng Z))) x z
     ·obtain⟨y,_,rfl⟩:=aw.1 z;exact oe.m
    refine(aa rfl <| aa rfl <| bD rfl rfl <| aU l _ _ _ rfl rfl (dM.of Y) (at_of (j:=j) (v:=.ref q) (by omega) (by simp_all)) <| aa rfl <| aa rfl <| bU l _ _ _ rfl rfl (dM.of Y) (at_of (j:=j+1) (v:=.ref U) (by omega) (by simp_all)) (by show 2<=sizeLine;decide) <| λt ht=>?_);have s4:aW u (aX u t (.bG [.ref q,.ref U])):=aE ht;have QK:H t=none:=m.free ht;have hk:fT (aX u t (.bG [.ref q,.ref U])) t (p,b):=(aO q U ah (s4 _ _ (X _ _ (qd hP) hP)) <| s4 _ _ (X _ _ (qd Ss) Ss))
    have O:=R.keep s4;have W:=X.same s4;have OA:=m.trans s4;generalize aX u t (.bG [.ref q,.ref U])=H4 at *;have ln:=rX c [];have nd:=(M.l4 c [] (by simp)).1;have vm:=yV (k:=(p,b)) (BS c [] mL (by simp));refine(aa rfl <| a8 d rfl ⟨_,O⟩ <| aa rfl <| eQ _ t (p,b) O rfl hk ?_);have gd:(gz (Jn (M.lr c [])) (p,b)).getD (.int 0)=V.int ((M.cw (M.lr c []) (p,b)).getD 0):=by
     have:=oA (g:=V.int) Ts (p,b) (M.lr c [])
     simp_all
    rw[gd];refine(aa rfl <| cI x C ed _ _ rfl (W _ _ dx T2) T.cl T.mark (yZ e) <| bD rfl rfl <| aa rfl <| aa rfl <| bU d _ t (p,b) rfl O rfl hk ?_ <| λxs r=>(oX (bf OA hd) (W.aX _) ?_ ⟨_,_,rfl⟩))
    ·unfold Jn tab;rw[aZ];exact sz (by simp at ln;omega)
    ·have tp:=rA (g:=V.int) Ts (p,b) (M.xr ((M.cw (M.lr c []) (p,b)).getD 0) e.mark) _ nd;have r:lj P w _ d (hW (Jn (M.lr c [])) (p,b) (V.int (Builtin.bitXor ((M.cw (M.lr c []) (p,b)).getD 0) e.mark))):=r;rw[pA vm oe.m]at r;rw[show hW (Jn (M.lr c [])) (p,b) (V.int (M.xr ((M.cw (M.lr c []) (p,b)).getD 0) e.mark))=_ from tp]at r;rw[b7 TF,b9,<-ia,Jq];show lj P w _ d (Jn (M.lr (c++[((p,b),e.mark)]) []));rw[BR];exact r
   ·rintro σ u ⟨m,X,R,J,I,rfl⟩;refine(cO m ?_ ⟨_,_,_,_,rfl⟩);have e1:(M.gZ D e).take (((S.map V.ref).length:Int)-1).toNat=M.gZ D e:=by
     grind[pairs_len,List.length_map,List.take_of_length_le]
    rw[e1]at R;have e2:J1 D (D.take (i+1))=J1 D (D.take i)++(M.gZ D e).map λk=>(k,e.mark):=by
     rw[b7 Z]
     simp_all
    simp_all
  ·rintro σ H' ⟨o,N9,J,I,r3,r4,rfl⟩;refine(aa rfl ?_);have L:(as.map V.ref).length=D.length:=by rw[aZ];exact ba pd
   rw[L,dN]at N9;exact k _ _ hd o N9
def Pk(p:P3):Prop:=(Bd 63 p.1/\Bd 63 p.2.1/\Bd 63 p.2.2)/\p.2.2≠0
theorem Pk.mid{p:P3}(h:Pk p):Js p:=(cO (h.1.1.mono (by decide)) (h.1.2.1.mono (by decide)) <| h.1.2.2.mono (by decide))
def zK(k:Ln):Prop:=Pk k.1/\Pk k.2
theorem IM{st:Ql55.Both}(a:M.Draws D st)(d:e∈D){z:P3}(b:z∈M.js D e):Pk z:=by
 refine ae (bV.1 ((M.Br a d).1 b)) λg f b=>?_;refine ae ((M.jH (a.ok e d) (a.ok g f)).1 b) λc hc e1=>?_;have hw:=M.pK (a.ok e d) (a.ok g f) hc;rw[<-e1]at hw;exact⟨En (k9 (a.ok e d)) (k9 (a.ok g f)) b,by have:=hw.1;omega⟩
theorem Ei{st:Ql55.Both}(c:M.Draws D st){k:Ln}(h:k∈(M.ip D).map (·.1)):zK k:=by
 rcases((M.l4 (M.iZ D) [] (by simp)).2 k).1 h with z | z
 ·simp at z
 ·obtain⟨x,a,rfl⟩:=aw.1 z;refine ae (bV.1 a) λe b a=>?_;obtain⟨y,d,rfl⟩:=aw.1 a;have:=lH (show(y.1,y.2)∈_ from d);exact⟨IM c b this.1,IM c b (List.mem_of_mem_drop this.2)⟩
theorem HX(c:∀e,e∈D->wO e){k:Ln}{b:Int}(hc:kx b):kx (M.iz D k b):=by
 have a:∀p,kx (M.cp D p):=λp=>lW c xH;unfold M.iz;split
 ·exact sO (a _) hc
 ·exact a _
def Mi(C:Addr):Sp:=λvs H Q _=>∃a q D k b,vs=[.ref a,.ref q,.int b]/\oV C H a D/\(∀e,e∈D->wO e)/\fT H q k/\zK k/\kx b/\∀H',aW H H'->Q (.int (M.iz D k b)) H'
theorem E6:bc ["edges","part","change","begin","end","half_x","half_y","marks"] ["edges","part","change"] (aK (top 24)):=by constructor<;>decide
theorem OY(F:ju K "marks_left" "marks_left" (top 24) f fd)(G:Fn P w K mg base "marks_above" 2 ["edges","point"] (JF C)):dw P w K mg base iG 3 f fd ["edges","part","change"] (Mi C):=by
 refine F.ok E6 (λvs H Q E h=>?_) (λU A r s H vs Q E R h=>?_)
 ·obtain⟨a,q,D,k,z,rfl,_⟩:=h;rfl
 ·obtain⟨a,q,D,d,z,rfl,T,y,⟨b,c,x,l,hc⟩,⟨J,I⟩,u,k⟩:=h;refine(aa (aj (a_ (i:=3) E6.nd rfl (Or.inl rfl) (aT aS (pv 1) aq (λ_ _=>rfl)))
   (aj (a_ (i:=4) E6.nd rfl (Or.inl rfl) (aT aS (pv 1) aq (λ_ _=>rfl)))
   (aj (a_ (i:=5) E6.nd rfl (Or.inl rfl) (a7 iJ (a7 bB (aT aS (pv 3) aq (λ_ _=>rfl)) (aT aS (pv 4) aq (λ_ _=>rfl))) (a7 bB (aT aS (pv 4) aq (λ_ _=>rfl)) (aT aS (pv 3) aq (λ_ _=>rfl)))))
   (aj (a_ (i:=6) E6.nd rfl (Or.inl rfl) (a7 iJ (a7 bB (aT aS (pv 3) aq (λ_ _=>rfl)) (aT aS (pv 4) aq (λ_ _=>rfl))) (a7 bB (aT aS (pv 4) aq (λ_ _=>rfl)) (aT aS (pv 3) aq (λ_ _=>rfl)))))
   (aj (a_ (i:=7) E6.nd rfl (Or.inl rfl) (bX G R rfl (af (pv 0) (af (fX (af (pv 5) (af (pv 6) (af (a7 bB (a7 bB aq (aT aS (pv 3) aq (λ_ _=>rfl))) (aT aS (pv 4) aq (λ_ _=>rfl))) ar)))) ar))))
   (aj (eR (dE rG (a7 bB (aT aS (pv 3) aq (λ_ _=>rfl)) (aT aS (pv 4) aq (λ_ _=>rfl))) (a7 bB (aT aS (pv 4) aq (λ_ _=>rfl)) (aT aS (pv 3) aq (λ_ _=>rfl))) (du _))
    (aB (bg (a7 yI (pv 7) (pv 2)))) cv)
   (aB (bg (pv 7))))))))) ?_)
  obtain⟨⟨v,B,e⟩,_⟩:=J;obtain⟨⟨c1,c2,g⟩,_⟩:=I;refine(aa rfl <| aU q _ _ _ rfl rfl (dU.of x) (aG (j:=0) rfl) <| aa rfl <| aU q _ _ _ rfl rfl (dU.of x) (aG (j:=1) rfl) <| aa rfl <| aU b _ _ _ rfl rfl (dU.of l) (aG (j:=0) rfl) <| aa rfl <| aU c _ _ _ rfl rfl (dU.of hc) (aG (j:=2) rfl) <| bW rfl rfl (v.ok g (by decide) (by decide)) <| aa rfl <| aU c _ _ _ rfl rfl (dU.of hc) (aG (j:=0) rfl) <| aa rfl <| aU b _ _ _ rfl rfl (dU.of l) (aG (j:=2) rfl) <| bW rfl rfl (c1.ok e (by decide) (by decide)) <| bD rfl rfl <| aa rfl <| aU b _ _ _ rfl rfl (dU.of l) (aG (j:=1) rfl) <| aa rfl <| aU c _ _ _ rfl rfl (dU.of hc) (aG (j:=2) rfl) <| bW rfl rfl (B.ok g (by decide) (by decide)) <| aa rfl <| aU c _ _ _ rfl rfl (dU.of hc) (aG (j:=1) rfl) <| aa rfl <| aU b _ _ _ rfl rfl (dU.of l) (aG (j:=2) rfl) <| bW rfl rfl (c2.ok e (by decide) (by decide)) <| bD rfl rfl ?_);have two:Bd 2 2:=by unfold Bd;decide
  refine(aa rfl <| aa rfl <| aa rfl <| aa rfl <| aU b _ _ _ rfl rfl (dU.of l) (aG (j:=2) rfl) <| bW rfl rfl (two.ok e (by decide) (by decide)) <| aa rfl <| aU c _ _ _ rfl rfl (dU.of hc) (aG (j:=2) rfl) <| e8 _ _ rfl rfl ((two.mul e).ok g (by decide) (by decide)) (by show 3<=sizeLine;decide) <| λt O=>?_);have p:aW H (aX H t (.bG (QG (M.kj d)))):=aE O;have S:d6 (aX H t (.bG (QG (M.kj d)))) t (M.kj d):=ah;have L:Js (M.kj d):=(cO (((v.mul g).add (c1.mul e)).mono (by decide)) (((B.mul g).add (c2.mul e)).mono (by decide)) <| ((two.mul e).mul g).mono (by decide))
  have N:kx (M.cp D (M.kj d)):=lW y xH;have m:=k _ p;have e1:(HO.bG [V.int (d.1.1*d.2.2.2+d.2.1*d.1.2.2),V.int (d.1.2.1*d.2.2.2+d.2.2.1*d.1.2.2),V.int (2*d.1.2.2*d.2.2.2)])=.bG (QG (M.kj d)):=rfl;refine(bU a t D (M.kj d) rfl (T.keep p) y S L ?_);have o:=p _ _ l;have n:=p _ _ hc;refine(aa rfl <| aU b _ _ _ rfl rfl (dU.of o) (aG (j:=0) rfl) <| aa rfl <| aU c _ _ _ rfl rfl (dU.of n) (aG (j:=2) rfl) <| bW rfl rfl (v.ok g (by decide) (by decide)) <| aa rfl <| aU c _ _ _ rfl rfl (dU.of n) (aG (j:=0) rfl) <| aa rfl <| aU b _ _ _ rfl rfl (dU.of o) (aG (j:=2) rfl) <| e8 _ _ rfl rfl (c1.ok e (by decide) (by decide)) rfl <| aa rfl ?_);rw[mF];unfold M.iz at m;refine eL (λh0=>?_) (λh0=>?_)
  ·rw[ak (by simpa using h0)]at m;refine(aa rfl <| aa rfl <| bD rfl rfl ?_);show Q (V.int (Builtin.bitXor (M.cp D (M.kj d)) z)) _;rw[pA N u];exact m
  ·rw[ai (by simpa using h0)]at m;exact(aa rfl m)
def Je(H:Hp)(t:Addr)(x:Ln×Int×Int):Prop:=∃q,H t=some (.bG [.ref q,.int x.2.1,.int x.2.2])/\fT H q x.1
theorem Je.keep{H H':Hp}{t:Addr}{x:Ln×Int×Int}(h:Je H t x)(s:∀c xs,H c=some (.bG xs)->H' c=some (.bG xs)):Je H' t x:=by
 refine ae h λq b a=>?_;exact(ab q (s _ _ b) <| a.keep s)
def K8(H:Hp)(l:Addr)(xs:List (Ln×Int×Int)):Prop:=∃a:List Addr,H l=some (.aR (a.map V.ref))/\Paired (Je H) a xs
theorem Dj{xs:LX}{g:TG}{h:TS}{D:Ends}(Pv:Nat->L2.St->Hp->Prop)(h0:Pv 0 σ H)(t:∀i σ H,Pv i σ H->H d=some (.oI o (xD P w d xs)))(s:∀i k v q T σ H,I[i]?=some (k,v)->xs[i]?.map (·.2.1)=some q->H T=none->Pv i σ H->g (.ref T) σ (aX H T (.bG [.ref q,v])) λa f=>h { D with nx:=Pv (i+1),ct:=Pv (i+1),bk:=D.nx } a f)(u:∀σ H,Pv I.length σ H->D.nx σ H):
  ∃W:Nat->Nat->L2.St->Hp->Prop,(∃m,W 0 m σ H)/\∀i m σ H,W i m σ H->
   ((Qw P w d o I xs).stop i H/\D.nx σ H)\/((Qw P w d o I xs).go i H/\∃N:L2.St->Hp->Prop,(∀b H',N b H'->∃j,j<m/\W (i+1) j b H')/\∀x H',(Qw P w d o I xs).Ju i H x H'->g x σ H' λa f=>h { D with nx:=N,ct:=N,bk:=D.nx } a f):=by
 refine(ab (λi m σ H=>m=I.length-i/\i<=I.length/\Pv i σ H) (a8 I.length (by simp) (bZ _) h0) ?_);rintro i m σ H ⟨rfl,A,p⟩;have q:=t i σ H p
 by_cases c:i<I.length
 ·refine .inr (⟨⟨q,c⟩,ab (Pv (i+1)) (λb H' n=>⟨I.length-(i+1),by omega,rfl,c,n⟩) <| λx H' y=>?_⟩);obtain⟨T,l,k,v,e1,rfl,r,z,rfl⟩:=y;exact s i k v l T σ H e1 z r p
 ·have e:i=I.length:=by omega
  subst e;exact .inl ⟨⟨q,a0 _⟩,u σ H p⟩
def Me(C:Addr):Sp:=λvs H Q _=>∃a D st,vs=[.ref a]/\oV C H a D/\M.Draws D st/\D.length<=200/\∀H' l,H l=none->aW H H'->K8 H' l (M.dH D)->Q (.ref l) H'
theorem GI:bc ["edges","found","part","change","left"] ["edges"] (aK (top 25)):=by constructor<;>decide
theorem xi(h:D.length<=200):(M.ip D).length<=80000:=by
 have a:=rX (M.iZ D) [];have b:=yD D h D;have e:M.iZ D=J1 D D:=rfl;rw[e]at a;show(M.lr (J1 D D) []).length<=_;grind
theorem Eh(h:∀e,e∈D->wO e):∀x,x∈M.ip D->kx x.2:=BS _ _ (Lu h) (by simp)
theorem OV(F:ju K "sided_parts" "sided_parts" (top 25) f fd)(G1:Fn P w K mg base "parts" 5 ["edges"] (ye P w C))(G2:Fn P w K mg base "marks_left" 3 ["edges","part","change"] (Mi C)):
  dw P w K mg base iG 6 f fd ["edges"] (Me C):=by
 refine F.ok GI (λvs H Q E h=>?_) (λwd A dF s H vs Q E hr h=>?_)
 ·obtain⟨a,D,st,rfl,_⟩:=h;rfl
 ·obtain⟨a,D,st,rfl,hL,hD,x,k⟩:=h;have I:∀e,e∈D->wO e:=λe he=>k9 (hD.ok e he);refine(aa (aj (a_ (i:=1) GI.nd rfl (Or.inl rfl) (eC ar)) (aj (gE dW rfl (Fd (bX G1 hr rfl (af (pv 0) ar)))
   (Hl rfl (nO (c6 (i:=2) GI.nd rfl (Or.inl rfl)) (nO (c6 (i:=3) GI.nd rfl (Or.inl rfl)) Ed)))
   (aj (a_ (i:=4) GI.nd rfl (Or.inl rfl) (bX G2 (hr.mono (j:=3) (by decide)) rfl (af (pv 0) (af (pv 2) (af (pv 3) ar)))))
   (aB (fJ (kK gf iW iX fV (pv 1) (af (fX (af (pv 2) (af (pv 4) (af (a7 yI (pv 4) (pv 3)) ar)))) ar))))))
   (aB (bg (pv 1))))) ?_)
  refine⟨(by simp_all),λl hl=>?_⟩;have s0:aW H (aX H l (.aR [])):=aE hl;have Ga:aX H l (.aR []) l=some (.aR (([]:List Addr).map V.ref)):=ah;generalize aX H l (.aR [])=H0 at *;refine(aa rfl <| fh a D st rfl (hL.keep s0) hD x <| λH1 d V0 s1 hd=>?_);refine fb hd λ_ Vw zz=>ae zz λxs B L=>?_;have Qb:H d=none:=s0.free V0;have U:=s1 _ _ Ga;have dl:l≠d:=a3 U B (by intro z;cases z);refine(fh d _ xs rfl Vw B L <| λo=>Dj (λi σ H'=>aW H H'/\H' d=some (.oI o (xD P w d xs))/\(∀c m,H1 c=some (.bG m)->H' c=some (.bG m))/\
   (∃J:List Addr,H' l=some (.aR (J.map V.ref))/\Paired (Je H') J ((M.dH D).take i))/\∃r1 r2 r3,σ=[some (.ref a),some (.ref l),r1,r2,r3])
   ⟨bf (s0.trans s1) Qb,ah,λc m h=>by rw[ao (a3 h B (by intro z;cases z))];exact h,(ab [] (by rw[ao dl];exact U) <| by rw[gS];exact .nil),none,none,none,rfl⟩ ?_ ?_ ?_)
  ·rintro i σ H' ⟨_,h,_⟩;exact h
  ·rintro i kk v q T σ H' y hq hT ⟨Y,X,tp,⟨J,u,pa⟩,r1,r2,r3,rfl⟩;obtain⟨⟨g,b⟩,hx,Vo⟩:=d_ y;obtain⟨rfl,rfl⟩:=cy Vo;dsimp only at y ⊢;obtain⟨n,Jo,e1,hk,_⟩:=Pd.get L y;rw[Jo]at hq;have hq:n.2.1=q:=bN hq;subst hq;have O:=bP hx;have G:kx b:=Eh I _ O;have pk:zK g:=Ei hD (aw.2 (aa O rfl));have Z:aW H' (aX H' T (.bG [.ref n.2.1,.int b])):=aE hT;have We:aX H' T (.bG [.ref n.2.1,.int b]) T=some (.bG [.ref n.2.1,.int b]):=ah;have Yl:l≠T:=aQ u hT;generalize aX H' T (.bG [.ref n.2.1,.int b])=H2 at *;have W:fT H2 n.2.1 g:=(hk.keep tp).keep Z.gY;refine(eK T _ rfl (dU.of We) rfl <| br _ _ rfl <| bD rfl rfl ?_);refine(aa rfl <| aa rfl <| aa rfl <| sZ a n.2.1 D g b rfl (hL.keep (Y.trans Z)) I W pk G <| λH3 s3=>?_);have lm:kx (M.iz D g b):=HX I G;have S:=s3 _ _ (Z _ _ u);refine(cz rfl (.inl ⟨rfl,_,dM.of S⟩) <| aa rfl <| aa rfl <| aa rfl <| aa rfl <| bW rfl rfl (by show 3<=sizeLine;decide) <| λt ht=>?_);have s4:aW H3 (aX H3 t (.bG [.ref n.2.1,.int (M.iz D g b),.int (Builtin.bitXor (M.iz D g b) b)])):=aE ht;have N:aX H3 t (.bG [.ref n.2.1,.int (M.iz D g b),.int (Builtin.bitXor (M.iz D g b) b)]) t=some (.bG [.ref n.2.1,.int (M.iz D g b),.int (Builtin.bitXor (M.iz D g b) b)]):=ah;generalize aX H3 t (.bG [.ref n.2.1,.int (M.iz D g b),.int (Builtin.bitXor (M.iz D g b) b)])=H4 at *;rw[pA lm G]at N;have r:=(Z.trans s3).trans s4;have R:=s4 _ _ S;have p:∀o c m,H4 c=some (.bG m)->aX H4 l o c=some (.bG m):=λo c m h=>by rw[ao (a3 h R (by intro z;cases z))];exact h
   have pl:=xi x;have il:i<(M.ip D).length:=(bF.1 hx).1;have al:=ba pa;rw[fH]at al;refine(fh l _ _ rfl rfl R (sz (by grind)) ?_);refine⟨bf (Y.trans r) hl,by rw[ao (bu dl)];exact r _ _ X,λc m h=>p _ c m (r _ _ (tp c m h)),(ab (J++[t]) (by rw[ah,b9];rfl) ?_),_,_,_,rfl⟩;have Vx:(M.dH D)[i]?=some (g,M.iz D g b,M.xr (M.iz D g b) b):=by
    unfold M.dH;rw[gw,hx];rfl
   rw[b7 Vx];refine fF (Paired.fx pa λ_ _ z=>z.keep λc m h=>p _ c m (r _ _ h)) (ab n.2.1 (p _ _ _ N) ?_);exact W.keep λc m h=>p _ c m (s4 _ _ (s3 _ _ h))
  ·rintro σ H' ⟨Y,X,tp,⟨J,u,pa⟩,r1,r2,r3,rfl⟩;refine(aa rfl <| k _ _ hl Y (ab J u ?_));have e:(Jn (M.ip D)).length=(M.dH D).length:=by unfold Jn tab M.dH;simp_all
   simp_all
def zL(H:Hp)(l:Addr)(b:List Ln):Prop:=∃a:List Addr,H l=some (.aR (a.map V.ref))/\Paired (fT H) a b
theorem zL.keep{H H':Hp}{l:Addr}{xs:List Ln}(h:zL H l xs)(s:aW H H'):zL H' l xs:=by
 refine ae h λc b a=>?_;exact(ab c (s _ _ b) <| Paired.fx a λ_ _ z=>z.keep s.gY)
def yf(K:PySem.W.Frag):Sp:=λvs H Q _=>∃l g a U,vs=[.ref l,.ref g]/\K8 H l a/\(∀x,x∈a->kx x.2.1/\kx x.2.2)/\a.length<=80000/\zF K g (FQ U)/\
 ∀H' r,aW H H'->zL H' r (M.cY U a)->Q (.ref r) H'
theorem va:bc ["sided","figure","found","part","left","right"] ["sided","figure"] (aK (top 26)):=by constructor<;>decide
theorem we(U:Nat)(a:List (Ln×Int×Int)):(M.cY U a).length<=2*a.length:=by
 unfold M.cY
 induction a with
 | nil=>simp
 | cons x a b=>
  rw[gv,dC,dj];have:(M.eZ U x).length<=2:=by
   unfold M.eZ;rw[dC];split <;> split <;> simp
  omega
theorem Kc(F:ju K "borders" "borders" (top 26) f fd):dw P w K mg base iG 1 f fd ["sided","figure"] (yf K):=by
 refine F.ok va (λvs H Q E h=>?_) (λwd A dF s H vs Q E hr h=>?_)
 ·obtain⟨l,g,r,U,rfl,_⟩:=h;rfl
 ·obtain⟨l,g,r,U,rfl,⟨as,hl,pa⟩,hm,mM,hg,k⟩:=h;refine(aa (aj (a_ (i:=2) va.nd rfl (Or.inl rfl) (eC ar)) (aj (gE dW rfl (eI (pv 0))
   (Hl rfl (nO (c6 (i:=3) va.nd rfl (Or.inl rfl)) (nO (c6 (i:=4) va.nd rfl (Or.inl rfl)) (nO (c6 (i:=5) va.nd rfl (Or.inl rfl)) Ed))))
   (aj (eR (PW.pt (yu (fW (aT aS (pv 1) (pv 4) (λ_ _=>rfl))) (tR (mn (fW (aT aS (pv 1) (pv 5) (λ_ _=>rfl)))))))
    (aB (fJ (kK gf iW iX fV (pv 2) (af (pv 3) ar)))) cv)
   (aB (eR (PW.pt (yu (fW (aT aS (pv 1) (pv 5) (λ_ _=>rfl))) (tR (mn (fW (aT aS (pv 1) (pv 4) (λ_ _=>rfl)))))))
    (aB (fJ (kK gf iW iX fV (pv 2) (af (fX (af (aT aS (pv 3) aq (λ_ _=>rfl)) (af (aT aS (pv 3) aq (λ_ _=>rfl)) ar))) ar)))) cv))))
   (aB (bg (pv 2))))) ?_)
  refine⟨(by simp_all),λL hL=>?_⟩;have s0:aW H (aX H L (.aR [])):=aE hL;refine(aa rfl <| a8 l rfl ⟨_,dM.of (s0 _ _ hl)⟩ <| eV (xs:=as.map V.ref) (λi σ H'=>aW H H'/\(∃n:List Addr,H' L=some (.aR (n.map V.ref))/\Paired (fT H') n (M.cY U (r.take i)))/\∃G D C,σ=[some (.ref l),some (.ref g),some (.ref L),G,D,C])
   (cO s0 (ab [] ah <| by rw[gS];exact .nil) ⟨none,none,none,rfl⟩) ?_ ?_ ?_)
  ·rintro i σ H' _ ⟨v,_⟩;exact dM.of (v _ _ hl)
  ·rintro i t0 σ H' QK ⟨v,⟨n,a,X⟩,G,D,C,rfl⟩;obtain⟨t,ht,rfl⟩:=d_ QK;refine ae (Pd.get pa ht) λx hx zz=>ae zz λq hq hk=>?_;have mx:=hm x (bP hx);have il:i<r.length:=(bF.1 hx).1;have bl:=we U (r.take i);rw[fH]at bl;have bz:=ba X;refine(eK t _ rfl (dU.of (v _ _ hq)) rfl <| br _ _ rfl <| br _ _ rfl <| bD rfl rfl ?_);have Us:M.cY U (r.take (i+1))=M.cY U (r.take i)++M.eZ U x:=by
    rw[b7 hx];unfold M.cY
    simp_all
   have J:∀d cs,Kp L H' d->d L=some (.aR (cs.map V.ref))->Paired (fT d) cs (M.cY U (r.take (i+1)))->
     aW H d/\(∃n:List Addr,d L=some (.aR (n.map V.ref))/\Paired (fT d) n (M.cY U (r.take (i+1))))/\∃G D C,[some (V.ref l),some (.ref g),some (.ref L),some (.ref q),some (.int x.2.1),some (.int x.2.2)]=[some (.ref l),some (.ref g),some (.ref L),G,D,C]:=
    λd cs R y T=>(cO (R.to v hL) (ab cs y T) ⟨_,_,_,rfl⟩)
   have B:∀d cs ls,Kp L H' d->d L=some (.aR (cs.map V.ref))->Paired (fT d) cs ls->ls.length<1000000->
     ls++(if (M.fS U x.2.2&&!M.fS U x.2.1)=true then [(x.1.2,x.1.1)] else [])=M.cY U (r.take (i+1))->
     ∀Z:Ends,Z.nx=(fun σ H'=>aW H H'/\(∃n:List Addr,H' L=some (.aR (n.map V.ref))/\Paired (fT H') n (M.cY U (r.take (i+1))))/\∃G D C,σ=[some (.ref l),some (.ref g),some (.ref L),G,D,C])->
     (Ot (Ox (tB (EY (sy K) (nJ 1) (nJ 5))) (Om (tB (EY (sy K) (nJ 1) (nJ 4))))) (Lk (Te K "list" yq (nJ 2) (jo (Oh (jo (EY (sy K) (nJ 3) (tC (.int 1))) (jo (EY (sy K) (nJ 3) (tC (.int 0))) mK))) mK))) Lh) Z
      [some (.ref l),some (.ref g),some (.ref L),some (.ref q),some (.int x.2.1),some (.int x.2.2)] d:=by
    intro d cs ls R y T lz S Z I;refine aF ((hk.keep v.gY).keep (R.gY a (by intro m z;cases z))) λb c Y N' Qc=>?_;refine(aa rfl <| aa rfl <| aU g _ _ _ rfl rfl (hg.sq _) (sQ U mx.2) <| aa rfl ?_);refine eL (λN=>?_) (λN=>?_)
    ·refine(aa rfl <| aa rfl <| aU g _ _ _ rfl rfl (hg.sq _) (sQ U mx.1) <| aa rfl ?_);refine eL (λW=>?_) (λW=>?_)
     ·rw[N,gR,ak W]at S;refine(cz rfl (.inl ⟨rfl,_,dM.of y⟩) <| aa rfl <| aU q _ _ _ rfl rfl (dU.of Y) (aG (j:=1) rfl) <| aa rfl <| bU q _ _ _ rfl rfl (dU.of Y) (aG (j:=0) rfl) (by show 2<=sizeLine;decide) <| λu hu=>?_);have O:aW d (aX d u (.bG [.ref c,.ref b])):=aE hu;have lu:L≠u:=aQ y hu;have tl:∀o e m,aX d u (.bG [.ref c,.ref b]) e=some (.bG m)->aX (aX d u (.bG [.ref c,.ref b])) L o e=some (.bG m):=λo e m h=>by rw[ao (a3 h (O _ _ y) (by intro z;cases z))];exact h
      refine(fh L _ _ rfl rfl (O _ _ y) (sz (by rw[aZ,ba T];omega)) ?_);rw[I];refine J _ (cs++[u]) ((R.same O).aX _) (by rw[ah,b9];rfl) ?_;rw[<-S];refine fF (Paired.fx T λ_ _ z=>z.keep λe m h=>tl _ e m (O _ _ h)) (aO c b (tl _ _ _ ah) (tl _ _ _ (O _ _ Qc)) <| tl _ _ _ (O _ _ N'))
     ·rw[N,gR,ai W,gT]at S;show Z.nx _ _;rw[I];exact J _ cs R y (by rw[<-S];exact T)
    ·rw[h_.2 N,jw,ai b',gT]at S;refine Ig ?_;show Z.nx _ _;rw[I];exact J _ cs R y (by rw[<-S];exact T)
   have p:M.cY U (r.take i)++(if (M.fS U x.2.1&&!M.fS U x.2.2)=true then [x.1] else [])++(if (M.fS U x.2.2&&!M.fS U x.2.1)=true then [(x.1.2,x.1.1)] else [])=M.cY U (r.take (i+1)):=by
    rw[Us,ia];rfl
   refine(aa rfl <| aa rfl <| aU g _ _ _ rfl rfl (hg.sq _) (sQ U mx.1) <| aa rfl ?_);refine eL (λN=>?_) (λN=>?_)
   ·refine(aa rfl <| aa rfl <| aU g _ _ _ rfl rfl (hg.sq _) (sQ U mx.2) <| aa rfl ?_);refine eL (λW=>?_) (λW=>?_)
    ·rw[ak (show(M.fS U x.2.1&&!M.fS U x.2.2)=true by simp_all)]at p;refine(cz rfl (.inl ⟨rfl,_,dM.of a⟩) <| aa rfl <| fh L _ _ rfl rfl a (sz (by grind)) ?_);have tl:∀o e m,H' e=some (.bG m)->aX H' L o e=some (.bG m):=λo e m h=>by rw[ao (a3 h a (by intro z;cases z))];exact h
     refine B _ (n++[q]) _ ((Kp.refl _ _).aX _) (by rw[ah,b9];rfl) ?_ ?_ p _ rfl
     ·exact fF (Paired.fx X λ_ _ z=>z.keep λe m h=>tl _ e m h) ((hk.keep v.gY).keep λe m h=>tl _ e m h)
     grind
    ·rw[ai (show ¬(M.fS U x.2.1&&!M.fS U x.2.2)=true by simp_all),gT]at p;exact B _ n _ (Kp.refl _ _) a X (by omega) p _ rfl
   ·rw[ai (show ¬(M.fS U x.2.1&&!M.fS U x.2.2)=true by simp_all),gT]at p;exact Ig (B _ n _ (Kp.refl _ _) a X (by omega) p _ rfl)
  ·rintro σ H' ⟨v,⟨n,a,X⟩,G,D,C,rfl⟩;refine(aa rfl <| k _ _ v (ab n a ?_));grind[List.length_map,Paired.length,List.take_length]
section
variable{prog:Program}{w:World}{A:Around}{E:Value->Shared->Prop}{s:Shared}{T:Type}[DecidableEq T]{knd:HeapKind prog w T}
theorem AM{xs:List (T×Addr×Value)}{k:T}{v:Value}(m:knd.room A)(b:knd.is s.heap k a)(y:s.heap.DictOfH knd d xs)(u:xs.length<=sizeLine)(B:∀p,atKey xs k=some p->Q p.2 { s with toks:=s.toks+knd.draws k })(z:atKey xs k=none->∀h',h'.DictOfH knd d (storedH xs k a v)->Heap.SameBut d s.heap h'->Q v { s with heap:=h',toks:=s.toks+knd.draws k }):
  wpAny (model prog w) A (dictSetDefault d (.ref a) v) Q E s:=by
 refine aN y λo es l=>dG l λep e hc c h l=>cE l λg q=>?_;have t:es.size=xs.length:=t_ h;unfold dictSetDefault
 try with_reducible refine eO ?_
 refine ag (knd.pyHash m b (ag (wpAny_dictFind_heap (s:={ s with toks:=s.toks+knd.draws k }) m b e c h g q ?_ ?_)))
 ·intro f;have i:=atKey_none_of_get f;have n:k∉xs.map (·.1):=not_mem_keys_of_get f;refine ag (lA (ag (wpAny_updateDictKeys (hz:=by omega) (s:={ s with toks:=s.toks+knd.draws k }) e c (au (z i _ ⟨_,_,ep+1,m9 _ e (Obj.isFreed_of_dict (Obj.data_mapDictKeys c _)),
   hc.mapDictKeys _,Obj.data_mapDictKeys c _,?_,?_,?_⟩ (kB ..))))))
  ·rw[storedH_new i];simp[h,entryOfKey]
  ·rw[storedH_new i];intro x hx;rcases cJ.1 hx with hx | hx
   ·exact knd.keeps (g x hx) e c (kB ..)
   ·rw[eP.1 hx];exact knd.keeps b e c (kB ..)
  ·rw[storedH_new i,b9,jY];grind
 ·intro j p r;refine ag (jW (s:={ s with toks:=s.toks+knd.draws k }) e c ?_);rw[entry_at h j,r];exact ag (lA (au (B p (atKey_of_get q r))))
theorem yS(d a:Addr)(m:(d==sysModules)=false)(v:Value):
  MeetsIn prog w (Builtin.«dict.setdefault» ⟨[.ref d,.ref a,v],[]⟩) (λA R s=>knd.room A.in1/\∃k xs,knd.is s.heap k a/\s.heap.DictOfH knd d xs/\xs.length<=sizeLine/\
   (∀p,atKey xs k=some p->R (.ok (.ret p.2)) { s with toks:=s.toks+knd.draws k })/\
   (atKey xs k=none->∀h',h'.DictOfH knd d (storedH xs k a v)->Heap.SameBut d s.heap h'->R (.ok (.ret v)) { s with heap:=h',toks:=s.toks+knd.draws k })):=
 .of_wp λA R s b=>cE b λi b=>e_ b λk xs c g h b=>cE b λo n=>by
  unfold Builtin.«dict.setdefault» Builtin.Dict.keyAndDefault;refine ag (ag (uw g.typeIs (au ?_)));show wpAny _ _ (if (d==sysModules)=true then _ else (dictSetDefault d (.ref a) v >>= _)) _ _ s;rw[ai (show ¬(d==sysModules)=true by rw[m];decide)];exact ag (AM i c g h (λp j=>au (aa rfl <| o p j)) λl h' f e=>au (aa rfl <| n l h' f e))
end
def Oi(td ty tx:TE):TE:=fun σ H Q=>td σ H λx d=>∃a,x=.ref a/\S9 d a/\ty σ d λy e=>tx σ e λz c=>∃I k b,c a=some (.dT I)/\y=.ref b/\c b=some (.bG (k.map kV))/\I.length<sizeLine/\
 (∀v,gz I k=some v->Q v c)/\(gz I k=none->Q z (aX c a (.dT (hW I k z))))
theorem J2{o e f:Expr}{jk:Pos}{td ty tx:TE}(Z:X.A.units+1<cLine)(ho:PE X o td)(he:PE X e ty)(hf:PE X f tx)(m:M2 X o "setdefault" iF e f jk):PE X (.Call (.Attribute o "setdefault" iF) [e,f] [] jk) (Oi td ty tx):=by
 intro O s σ H Q g h;refine qE m.base m.few m.line uM Au PySem.F.type_dict_setdefault (dY (ho O s σ H _ g h) λu P i=>aF i λx H1 J S i=>aH i λa ex d W=>?_);subst ex;obtain rfl:u=Value.ref a:=S;refine fb (Ii J d) λL K _=>?_;refine(cO L K ?_);rw[m.trees];refine qX rfl (qP (jX (dY (he O P σ H1 _ J W) λiv N ⟨y,H2,I2,R,V⟩=>
  jX (dY (hf O N σ H2 _ I2 V) λfv s3 i=>aF i λz H3 t C i=>aN i λI k i=>dG i λb A ey G hl i=>cE i λU T=>qB ?_))))
 subst ey;cases(show iv=Value.ref b from R);refine fb (LK t.dS A) λY E i=>ae i λxs n dd=>?_;have j:=n.val k;refine qe Au dd.typeIs PySem.F.entry_dict_setdefault (PySem.F.args_dict_setdefault_3 _ _ _) (yS (knd:=tupleKind (d9 X.prog X.w)) a b E fv)
  (⟨qI Z,e8 k xs (sM t.dS G) dd (by rw[<-ba n];exact Y) (λp hp=>?_) <| λhn h' B M=>?_⟩)
 ·rw[hp]at j;obtain⟨v,l,r⟩:∃v,gz I k=some v/\bY v p.2:=by
   cases l:gz I k with
   | none=>rw[l]at j;exact False.elim j
   | some v=>rw[l]at j;exact(ab v rfl j)
  exact(aO v H3 (t.tok _) r <| U v l)
 ·rw[hn]at j;have l:gz I k=none:=by
   cases l:gz I k with
   | none=>rfl
   | some v=>rw[l]at j;exact False.elim j
  have w:(hW I k z).length<=sizeLine:=by have:=je I k z;omega
  refine aN B λq es i=>dG i λep D h2 h3 h4 i=>cE i λ_ h5=>?_;refine(aO z _ (oO (ob:=.dT (hW I k z)) t (by rw[A];exact True.intro) M ⟨q,D⟩ (cO w E <| aa ((n.put k G C).keeps λc ys F=>?_) <| fh q es ep D h2 h3 h4 h5)) C <| T l);rw[ao (a3 F A (λz=>nomatch z))];exact F
def N0(d:Ln):Ln:=(d.2,d.1)
def JE:Sp:=λvs H Q _=>∃l a,vs=[.ref l]/\zL H l a/\a.length<=1000000/\∀H' r,aW H H'->zL H' r (a.map N0)->Q (.ref r) H'
theorem Mx:bc ["lines","line"] ["lines"] (aK (top 28)):=by constructor<;>decide
theorem OT(F:ju K "turned_round" "turned_round" (top 28) f fd):dw P w K mg base iG 1 f fd ["lines"] JE:=by
 refine F.ok Mx (λvs H Q E h=>?_) (λwd A y s H vs Q E hr h=>?_)
 ·refine bI h λl x a _=>?_;subst a;rfl
 ·obtain⟨l,x,rfl,⟨S,J,G⟩,I,k⟩:=h;refine(aa (aB (bg (A_ rfl Mx.nd (eI (pv 0)) (l' (own:=[("line",1)]) rfl) (λs H C cl R=>c6 (i:=1) Mx.nd rfl (Or.inl rfl))
   (λs H C cl R=>yx) (λs H C cl R=>fX (af (aT (r:=sy K) aS (pv 1) aq (λ_ _=>rfl)) (af (aT (r:=sy K) aS (pv 1) aq (λ_ _=>rfl)) ar)))))) ?_)
  refine(aa rfl <| a8 l rfl ⟨_,dM.of J⟩ <| λL N=>tX (xs:=S.map V.ref) (λi H'=>aW H H'/\∃m:List Addr,H' L=some (.aR (m.map V.ref))/\Paired (fT H') m ((x.take i).map N0)) (⟨aE N,ab [] ah <| by rw[gS];exact .nil⟩) ?_ ?_ ?_)
  ·rintro i H' _ ⟨g,_⟩;exact dM.of (g _ _ J)
  ·rintro i q0 H' D ⟨g,m,d,u⟩;refine ae (d_ D) λq X a=>?_;subst a;refine ae (Pd.get G X) λkk M Y=>?_;refine aF (Y.keep g.gY) λb c O h2 Z=>?_;have il:i<x.length:=(bF.1 M).1;have bl:=ba u;rw[aZ,fH]at bl;refine⟨rfl,?_⟩;unfold JA;dsimp only;rw[ak rfl];refine(aa rfl <| aU q _ _ _ rfl rfl (dU.of O) (aG (j:=1) rfl) <| aa rfl <| bU q _ _ _ rfl rfl (dU.of O) (aG (j:=0) rfl) (by show 2<=sizeLine;decide) <| λt W=>?_);have p:aW H' (aX H' t (.bG [.ref c,.ref b])):=aE W;have B:aX H' t (.bG [.ref c,.ref b]) t=some (.bG [.ref c,.ref b]):=ah;generalize aX H' t (.bG [.ref c,.ref b])=T at *;have v:=p _ _ d;have tl:∀o e n,T e=some (.bG n)->aX T L o e=some (.bG n):=λo e n h=>by rw[ao (a3 h v (by intro z;cases z))];exact h
   refine(⟨_,v,sz (by grind),bf (g.trans p) N,ab (m++[t]) (by rw[ah,b9];rfl) ?_⟩);rw[b7 M,b9];exact fF (Paired.fx u λ_ _ z=>z.keep λe n h=>tl _ e n (p _ _ h)) (aO c b (tl _ _ _ B) (tl _ _ _ (p _ _ Z)) <| tl _ _ _ (p _ _ h2))
  ·rintro H' ⟨g,m,d,u⟩;have e:(S.map V.ref).length=x.length:=by rw[aZ];exact ba G
   rw[e,dN]at u;exact k _ _ g (ab m d u)
theorem Fg(L:List Ln)(d:Ln)(v:P3):M.dt (L++[d]) v=M.dt L v++if d.1=v then [d.2] else []:=by
 unfold M.dt;rw[lN,b9];grind
theorem xj(L:List Ln)(v:P3):M.dt (L.map N0) v=M.ins L v:=by
 unfold M.dt M.ins;rw[ue,h7];rfl
theorem Bh{v:P3}(h:∀d,d∈L->d.1≠v):M.dt L v=[]:=by
 unfold M.dt;rw[uI.2 λd a=>by simp[h d a]];rfl
structure Lc(H:Hp)(d:Addr)(L:List Ln)(m:List (P3×Addr)):Prop where
 at_:H d=some (.dT (tab y6 V.ref m))
 nd:(m.map (·.1)).Nodup
 apart:(m.map (·.2)).Nodup
 out:∀x,x∈m->wx H x.2 (M.dt L x.1)
def Qy(L:List Ln)(m:List (P3×Addr)):Prop:=∀v,v∈m.map (·.1)↔∃d,d∈L/\d.1=v
def ma(H:Hp)(d:Addr)(L:List Ln):Prop:=∃m,Lc H d L m/\Qy L m
theorem ma.keep{H H':Hp}{d:Addr}{L:List Ln}(h:ma H d L)(s:aW H H'):ma H' d L:=by
 obtain⟨m,⟨g,f,e,c⟩,b⟩:=h;exact(ab m ⟨s _ _ g,f,e,λx a=>(c x a).keep s⟩ b)
def JH:Sp:=λvs H Q _=>∃l a,vs=[.ref l]/\zL H l a/\a.length<=1000000/\∀H' r,aW H H'->ma H' r a->Q (.ref r) H'
theorem MD:bc ["lines","ends","line"] ["lines"] (aK (top 29)):=by constructor<;>decide
theorem Dn{d:List (P3×Addr)}{k:P3}(b:(d.map (·.1)).Nodup)(h:M.cw d k=some a):(k,a)∈d:=(M.gB b).1 h
theorem BW{d:List (P3×Addr)}{k:P3}(b:(d.map (·.1)).Nodup)(h:M.cw d k=none):k∉d.map (·.1):=by
 intro z;refine ae (aw.1 z) λx c a=>?_;subst a;rw[(M.gB b).2 (show(x.1,x.2)∈d from c)]at h;cases h
theorem II{d:List (P3×Addr)}{k:P3}(h:k∉d.map (·.1)):M.dput d k a=d++[(k,a)]:=by
 induction d with
 | nil=>rfl
 | cons x d c=>
  obtain⟨b,v⟩:=x;rw[bw,aY,not_or]at h;show(if b=k then _ else (b,v)::M.dput d k a)=_;rw[ai (λz=>h.1 z.symm),c h.2];rfl
theorem NJ{m:List (P3×Addr)}(h:Lc H d L m)(e:Qy L m):m.length<=L.length:=by
 have:=M.fu (l:=m.map (·.1)) (m:=L.map (·.1)) h.nd λv c=>by
  refine ae ((e v).1 c) λx b a=>?_;subst a;exact aw.2 (ab x b rfl)
 simpa using this
theorem Lc.push{m:List (P3×Addr)}(h:Lc H d L m){x:Ln}{c:List Addr}(o:(x.1,a)∈m)(r:H a=some (.aR (c.map V.ref)))(v:Paired (d6 H) c (M.dt L x.1))(w:d6 H b x.2):
  Lc (aX H a (.aR ((c++[b]).map V.ref))) d (L++[x]) m:=by
 have da:d≠a:=a3 h.at_ r (by intro z;cases z);have f:∀{p:P3} {q:Addr},d6 H q p->d6 (aX H a (.aR ((c++[b]).map V.ref))) q p:=fun{p q} h=>by
  unfold d6;rw[ao (a3 h r (by intro z;cases z))];exact h
 refine⟨by rw[ao da];exact h.at_,h.nd,h.apart,λy g=>?_⟩
 ·rw[Fg]
  by_cases e:x.1=y.1
  ·have n:y.2=a:=by
    have t:=(M.gB h.nd).2 (show(y.1,y.2)∈m from g);have s:=(M.gB h.nd).2 o
    simp_all
   rw[ak e,n,<-e];exact(ab (c++[b]) ah <| fF (Paired.fx v λ_ _ z=>f z) (f w))
  ·have n:y.2≠a:=by
    intro z;refine aA (nh.1 g) λi B=>?_;refine aA (nh.1 o) λj A=>?_;have l:(m.map (·.2))[i]?=some a:=by simp_all
    have k:(m.map (·.2))[j]?=some a:=by simp_all
    have:=Po h.apart l k;grind
   rw[ai e,gT];refine ae (h.out y g) λu t s=>?_;exact(ab u (by rw[ao n];exact t) <| Paired.fx s λ_ _ z=>f z)
theorem O7(F:ju K "ends_by_begin" "ends_by_begin" (top 29) f fd):dw P w K mg base iG 1 f fd ["lines"] JH:=by
 refine F.ok MD (λvs H Q E h=>?_) (λwd A dF s H vs Q E hr h=>?_)
 ·refine bI h λl u C _=>?_;subst C;rfl
 ·obtain⟨l,u,rfl,⟨as,hl,pa⟩,mM,k⟩:=h;have hu:=tG hr;refine(aa (aj (a_ (i:=1) MD.nd rfl (Or.inl rfl) vj) (aj (gE dW rfl (eI (pv 0)) (c6 (i:=2) MD.nd rfl (Or.inl rfl))
   (aB (fJ (kK gf iW iX fV (J2 hu (pv 1) (aT aS (pv 2) aq (λ_ _=>rfl)) (eC ar) ⟨rfl,rfl,rfl,rfl⟩) (af (aT aS (pv 2) aq (λ_ _=>rfl)) ar)))))
   (aB (bg (pv 1))))) ?_)
  intro d hd;refine(aa rfl <| a8 l rfl ⟨_,dM.of (aE hd _ _ hl)⟩ <| eV (xs:=as.map V.ref) (λi σ H'=>aW H H'/\(∃m,Lc H' d (u.take i) m/\Qy (u.take i) m/\∀x,x∈m->H x.2=none)/\∃r,σ=[some (.ref l),some (.ref d),r])
   (cO (aE hd) (a8 [] ⟨ah,by simp,by simp,by simp⟩ (by intro v;simp) <| by simp) ⟨none,rfl⟩) ?_ ?_ ?_)
  ·rintro i σ H' _ ⟨N,_⟩;exact dM.of (N _ _ hl)
  ·rintro i q0 σ H' Ip ⟨N,⟨m,t,I,fresh⟩,r,rfl⟩;refine ae (d_ Ip) λq hq C=>?_;subst C;refine ae (Pd.get pa hq) λx Y hX=>?_;refine aF (hX.keep N.gY) λb c h1 h2 h3=>?_;have il:i<u.length:=(bF.1 Y).1;have ml:=NJ t I;rw[fH]at ml;refine(aa rfl <| a8 d rfl (.inr ⟨_,Rd.of t.at_⟩) <| aa rfl <| bU q _ _ _ rfl rfl (dU.of h1) (aG (j:=0) rfl) (by simp_all) <| λn Z=>?_);have S:aW H' (aX H' n (.aR [])):=aE Z;have TM:aX H' n (.aR []) n=some (.aR (([]:List Addr).map V.ref)):=ah;have nd:d≠n:=aQ t.at_ Z;have VJ:H n=none:=N.free Z;have nm:n∉m.map (·.2):=by
    intro z;refine ae (aw.1 z) λy D C=>?_;subst C;refine ae (t.out y D) λ_ g _=>?_;rw[Z]at g;cases g
   generalize aX H' n (.aR [])=L at *;have vl:=oA (g:=V.ref) kM x.1 m;have B:Lc L d (u.take i) m:=⟨S _ _ t.at_,t.nd,t.apart,λy D=>(t.out y D).keep S⟩
   have ol:∀v,(M.dt (u.take i) v).length<=i:=λv=>by
    unfold M.dt;grind
   have W:∀J T a,(∀y o,y≠d->L y=some o->J y=some o)->Lc J d (u.take i) T->Qy (u.take (i+1)) T->(∀y,y∈T->H y.2=none)->(x.1,a)∈T->∀D':Ends,D'.nx=(fun σ H'=>aW H H'/\(∃m,Lc H' d (u.take (i+1)) m/\Qy (u.take (i+1)) m/\∀x,x∈m->H x.2=none)/\∃r,σ=[some (.ref l),some (.ref d),r])->
     Rp K "list" (.ref a) J/\jo (EY (sy K) (nJ 2) (tC (.int 1))) mK [some (.ref l),some (.ref d),some (.ref q)] J λxs H3=>yq (.ref a) xs H3 λ_ H4=>D'.nx [some (.ref l),some (.ref d),some (.ref q)] H4:=by
    intro J T a kp X Xj fr hm D' Sv;refine ae (X.out _ hm) λU R pq=>?_;have qd:∀{z:Addr} {ys},L z=some (.bG ys)->J z=some (.bG ys):=fun{z ys} h=>kp _ _ (a3 h B.at_ (by intro z;cases z)) h;have ql:U.length=(M.dt (u.take i) x.1).length:=ba pq;have o1:=ol x.1;refine(⟨.inl ⟨rfl,_,dM.of R⟩,aa rfl <| aU q _ _ _ rfl rfl (dU.of (qd (S _ _ h1))) (aG (j:=1) rfl) <| fh a _ _ rfl rfl R (sz (by grind)) ?_⟩);rw[Sv];have Qc:d6 J c x.2:=qd (S _ _ h3);have ps:=X.push (x:=x) (b:=c) hm R pq Qc;rw[<-b7 Y]at ps;have e:(U++[c]).map V.ref=U.map V.ref++[V.ref c]:=by simp_all
    rw[e]at ps;have Uv:aW H J:=λy o D=>kp y o (aQ D hd) (S _ _ (N _ _ D));exact(cO (bf Uv (fr _ hm)) (a8 T ps Xj fr) ⟨_,rfl⟩)
   refine⟨_,y6 x.1,b,B.at_,rfl,S _ _ h2,?_,λv hv=>?_,λhv=>?_⟩
   ·unfold tab;rw[aZ];exact sz (by omega)
   ·rw[vl]at hv;obtain⟨a,ha,rfl⟩:∃a,M.cw m x.1=some a/\V.ref a=v:=by
     simp_all
    refine W L m a (λ_ _ _ h=>h) B (λv=>?_) fresh (Dn t.nd ha) _ rfl;rw[I v,b7 Y];constructor
    ·rintro⟨e,G,z⟩;exact(ab e (kD _ G) z)
    ·rintro⟨e,G,z⟩;rcases cJ.1 G with y | y
     ·exact(ab e y z)
     ·rw[eP.1 y]at z;rw[<-z];exact(I x.1).1 (aw.2 (aa (Dn t.nd ha) rfl))
   ·rw[vl]at hv;have O:M.cw m x.1=none:=by
     simp_all
    have nk:=BW t.nd O;have tp:=rA (g:=V.ref) kM x.1 n m t.nd;rw[II nk]at tp;rw[tp];have o0:M.dt (u.take i) x.1=[]:=Bh λe G z=>nk ((I _).2 (ab e G z));have pn:∀{z:Addr} {p:P3},d6 L z p->d6 (aX L d (.dT (tab y6 V.ref (m++[(x.1,n)])))) z p:=fun{z p} h=>by
     unfold d6;rw[ao (a3 h B.at_ (by intro z;cases z))];exact h
    have ln:∀{z:Addr} {ps:List P3},wx L z ps->wx (aX L d (.dT (tab y6 V.ref (m++[(x.1,n)])))) z ps:=by
     rintro z ps ⟨U,g1,g2⟩;exact(ab U (by rw[ao (a3 g1 B.at_ (by intro z;cases z))];exact g1) <| Paired.fx g2 λ_ _ h=>pn h)
    refine W _ (m++[(x.1,n)]) n (λy o D h=>by rw[ao D];exact h) ⟨ah,?_,?_,?_⟩ ?_ ?_ (by simp) _ rfl
    ·rw[b9];exact yP t.nd nk
    ·rw[b9];exact yP t.apart nm
    ·intro y D;rcases cJ.1 D with z | z
     ·exact ln (B.out y z)
     ·rw[eP.1 z,o0];exact ln (ab [] TM <| .nil)
    ·intro v;rw[b9,cJ,I v,b7 Y];constructor
     ·rintro(⟨e,G,z⟩ | z)
      ·exact(ab e (kD _ G) z)
      grind
     ·rintro⟨e,G,z⟩;grind
    grind
  ·rintro σ H' ⟨N,⟨m,t,I,_⟩,r,rfl⟩;have e:(as.map V.ref).length=u.length:=by rw[aZ];exact ba pa
   rw[e,dN]at t I;exact(aa rfl <| k _ _ N (ab m t I))
theorem ED{p:Int×Int}(h:dv H a p):Dp K H (.ref a) (.tuple [.int p.1,.int p.2]):=.bG (dU.of h) (.cons (.int _) (.cons (.int _) .nil))
theorem IE(p q:Int×Int):PyData.eqv (.tuple [.int p.1,.int p.2]) (.tuple [.int q.1,.int q.2])=decide (p=q):=by
 simp only[PyData.eqv,PyData.eqvAll,mX];grind
theorem ma.get{v:P3}(h:ma H d L)(j:d6 H p v)(l:M.dt L v≠[]):∃a,sX H d (.ref p) (some (.ref a))/\wx H a (M.dt L v):=by
 refine ae h λm b o=>?_;have i:v∈m.map (·.1):=by
  refine(o v).2 (d8 λf=>l (Bh λe n z=>f (ab e n z)))
 cases c:M.cw m v with
 | none=>exact absurd i (BW b.nd c)
 | some a=>
  refine(ab a ?_ <| b.out _ (Dn b.nd c));have:=sX.t (k:=y6 v) b.at_ (A1.1 j);rw[oA (g:=V.ref) kM v m,c]at this;exact this
theorem yC{ps:List P3}(h:wx H a ps)(d:ps≠[]):∃(q:Addr) (c:List Addr),H a=some (.aR (V.ref q::c.map V.ref))/\(c.length+1=ps.length)/\d6 H q (ps.headD (0,0,1)):=by
 refine ae h λg f e=>?_;cases e with
 | nil=>exact absurd rfl d
 | @cons a b l m r t=>exact(aO a l f (by rw[dj,ba t]) r)
def Mn:Sp:=λvs H Q _=>∃p o b v B,vs=[.ref p,.ref o,.ref b]/\d6 H p v/\Pk v/\ma H o B/\ma H b (B.map N0)/\M.dt B v≠[]/\M.ins B v≠[]/\(∀d,d∈B->zK d)/\∀H',aW H H'->Q (.bl (M.jq B v)) H'
theorem RC:bc ["point","onward","back"] ["point","onward","back"] (aK (top 30)):=by constructor<;>decide
theorem head_mem{l:List α}{a:α}(h:l≠[]):l.headD a∈l:=by
 cases l with
 | nil=>exact absurd rfl h
 | cons x l=>exact iU
theorem tU{B:List Ln}(h:∀d,d∈B->zK d){v p:P3}(b:p∈M.dt B v):Pk p:=by
 refine ae (aw.1 b) λd c a=>?_;subst a;exact(h d (bh.1 c).1).2
theorem Nw{B:List Ln}(h:∀d,d∈B->zK d){v p:P3}(b:p∈M.ins B v):Pk p:=by
 refine ae (aw.1 b) λd c a=>?_;subst a;exact(h d (bh.1 c).1).1
theorem O5(F:ju K "goes_through" "goes_through" (top 30) f fd)(G:Fn P w K mg base "heading" 2 ["begin","end"] u0)(hN:mg "len"=none):dw P w K mg base iG 3 f fd ["point","onward","back"] Mn:=by
 refine F.ok RC (λvs H Q E h=>?_) (λwd A J s H vs Q E D h=>?_)
 ·refine e9 h λp o b v B i=>cE i λm _=>?_;subst m;rfl
 ·refine aN h λp o i=>aA i λb i=>e_ i λv B m n Y i=>sj i λZ hb y N hB k=>?_;subst m;have O:=tG D;refine(aa (aj (eR (dE xn (df dP (by rfl) hN iR (af (mr O (pv 1) (pv 0) (λ_ _=>rfl)) ar)) aq (du _)) (aB (bg Ef)) cv)
   (aB (bg (kJ (MY D.units) (bX G D rfl (af (aT cT (mr O (pv 2) (pv 0) (λ_ _=>rfl)) aq (λ_ _=>rfl)) (af (pv 0) ar)))
    (bX G D rfl (af (pv 0) (af (aT cT (mr O (pv 1) (pv 0) (λ_ _=>rfl)) aq (λ_ _=>rfl)) ar))) (du _))))) ?_)
  refine ae (Z.get n y) λa g1 ha=>?_;have L:M.dt (B.map N0) v≠[]:=by rw[xj];exact N
  refine ae (hb.get n L) λc g2 hc=>?_;rw[xj]at hc;refine aF (yC ha y) λq qs t hl hq=>?_;refine aF (yC hc N) λr rs U _ T=>?_;have kg:=k;have el:(V.ref q::qs.map V.ref).length=(M.dt B v).length:=by simp_all
  refine(aa rfl <| aa rfl <| aO o _ rfl g1 <| aO a _ rfl (.inl (dM.of t)) <| bD rfl rfl <| aa rfl ?_);rw[el];refine eL (λu=>?_) (λu=>?_)
  ·have u:(1:Int)<((M.dt B v).length:Int):=b_ u;have:=k H (aW.refl H);unfold M.jq at this;rw[ak (by omega)]at this;exact this
  ·have u:¬(1:Int)<((M.dt B v).length:Int):=λz=>u (bE z);refine(aa rfl <| aa rfl <| aO b _ rfl g2 <| aU c _ _ _ rfl rfl (dM.of U) (aG (j:=0) rfl) <| aa rfl <| bU r p _ v rfl T n ((Nw hB (head_mem N)).mid) Y.mid <| λH1 t1 d S=>?_);have W:sX H1 o (.ref p) (some (.ref a)):=by
    refine ae ((Z.keep d).get (d _ _ n) y) λa' g Yk=>?_;rcases g1 with⟨I,C,e,x,l⟩ | ⟨I,C,bb,e,x,eb,l⟩
    ·have x:V.ref p=kV C:=x;cases C <;> cases x
    ·refine .inr (eQ I C bb ?_ x (d _ _ eb) l);rcases e with e | ⟨oo,e⟩
     ·exact .inl (d _ _ e)
     ·exact .inr ⟨oo,d _ _ e⟩
   refine(aa rfl <| aa rfl <| aa rfl <| aO o _ rfl W <| aU a _ _ _ rfl rfl (dM.of (d _ _ t)) (aG (j:=0) rfl) <| bU p q v _ rfl (d _ _ n) (d _ _ hq) Y.mid ((tU hB (head_mem y)).mid) <| λH2 t2 X R=>?_);refine(e8 _ _ (ED (S.keep X)) (ED R) rfl rfl ?_);rw[IE];have:=k H2 (d.trans X);unfold M.jq at this;grind
theorem Kp.ro(k:Kp d H H'){ps:Array Value}(a:H d=some (.lq ps)):∀c xs,H c=some (.bG xs)->H' c=some (.bG xs):=k.gY a (by intro xs z;cases z)
def IU(c:Addr)(qual:Str)(o:Obj):HO:=.oI o (.ext λh=>h.CodeRec (.ref c) qual)
theorem Qk(x:h.CodeRec (.ref c) qual)(g:h.get? c=some o):dR P w H h c (IU c qual o):=by
 refine(oX g x ⟨o,g⟩ <| λd b y k=>?_);refine aN y λf o a=>aF a λvs t e g r=>?_;cases e;exact⟨c,o,vs,t,rfl,k _ g,r⟩
def gD(pos:Pos)(qual:Str)(P:Addr)(H:Hp):Prop:=∃ps:Array Value,H P=some (.lq ps)/\TriplesOk ps.toList/\
 (codeAmong pos ps.toList=none\/∃c o,codeAmong pos ps.toList=some (.ref c)/\H c=some (IU c qual o))
theorem gD.keep{P:Addr}(h:gD pos qual P H)(s:aW H H'):gD pos qual P H':=by
 refine aH h λps e d a=>?_;refine(a8 ps (s _ _ e) d ?_);rcases a with a | ⟨c,o,a,b⟩
 ·exact .inl a
 ·exact .inr (br c o a <| s _ _ b)
def BM(mg:Str->Option Value)(base:Heap):Prop:=∃a o,mg "__builtins__"=some (.ref a)/\a≠builtinsNs/\base.get? a=some o/\o.cls=.type "module"/\o.dict=some builtinsNs/\o.data=.plain
def IB(f:Addr)(qual:Str)(params:Arguments)(body:Expr)(scope:Scope)(cl:List (Str×Addr))(pm:Value)(c:Addr)(ct:Value):HO:=.ext λh=>h.get? f=some (PySem.W.kla_obj "<lambda>" qual params body scope cl pm c ct)
theorem IA(x:h.get? f=some (PySem.W.kla_obj "<lambda>" qual params body scope cl pm c ct)):dR P w H h f (IB f qual params body scope cl pm c ct):=(cO x ⟨_,x⟩ <| λ_ _ y k=>k _ y)
section
variable{X:Cx}{O:List (Addr×Obj)}{σ:L2.St}{H:Hp}{s:Shared}{A:Around}{E:Value->Shared->Prop}{params:Arguments}{body:Expr}{scope:Scope}{pos:Pos}{cl:List (Str×Addr)}{c P:Addr}{Q:Value->Shared->Prop}
theorem Ic(I:Inv X O σ H s)(k:X.env.code=.ref c)(hC:PySem.W.codeHdIn X.K c P=true)(hB:BM X.mg X.base)(J:defaultsOf params X.env=([],[]))(K:closureFor scope X.env=pure cl)(ht:gD pos (X.env.qual++"<lambda>") P H)(hQ:∀H' s' f a i pm ct,Inv X O σ H' s'->Kp P H H'->gD pos (X.env.qual++"<lambda>") P H'->H' f=some (IB f (X.env.qual++"<lambda>") params body scope cl pm a ct)->H' a=some (IU a (X.env.qual++"<lambda>") i)->Q (.ref f) s'):
  wpAny (model X.prog X.w) A (eval (.Lambda params body scope pos) X.env) Q E s:=by
 refine aH ht λps y B cs=>?_;have x:s.heap.get? P=some (PySem.W.tabObj ps):=I.dS P _ y;have CH:=PySem.W.codeHd_of_K I.Cm hC;have hg:s.heap.Ns mainGlobals X.mg:=I.mod.glob.keeps I.bk;refine aN hB λR ob r=>sj r λb1 b2 b3 b4 b5 b6=>?_;have VW:mainGlobals≠P:=λq=>by
  refine aN hg λo es r=>aH r λep e hd _=>?_;grind
 have bs:=I.bs R ob b3;have V8:R≠P:=λq=>by simp_all
 have V9:R≠mainGlobals:=λq=>by
  refine aN I.mod.glob λo es r=>aH r λep e hd _=>?_
  simp_all
 have M:s.heap.BuiltinsAt X.mg P:=⟨R,ob,b1,b2,V9,V8,bs.1,b4,b5,b6⟩
 refine PySem.W.kla_eval J ?_;rcases cs with hn | ⟨a,i,hf,L⟩
 ·refine PySem.W.kla_makeFunction K I.ok.glob hg k CH x B hn VW M λa ct h' V hx j m p F=>?_;generalize hq:X.env.qual++"<lambda>"=qual at *;generalize Z:(X.mg "__name__").getD .none=pm;obtain⟨i,VG⟩:∃i,h'.get? a=some i:=by
   refine aN p λc2 i r=>aF r λvs t e g _=>?_
   simp_all
  have N:P<s.heap.objs.size:=bo x;have pc:P≠a:=b8 (cK N j);have pf:P≠h'.objs.size:=b8 (mT (cK N j) m);have cf:a≠h'.objs.size:=b8 m;have fr:∀b,H b≠none->b≠a/\b≠h'.objs.size:=λb hb=>by
   have:b<s.heap.objs.size:=by
    cases q:H b with
    | none=>exact absurd q hb
    | some u=>exact I.dS.lt q
   exact⟨b8 (cK this j),b8 (mT (cK this j) m)⟩
  have Wz:∀b o,s.heap.get? b=some o->b≠a/\b≠h'.objs.size:=λb o e=>
   ⟨b8 (cK (bo e) j),b8 (mT (cK (bo e) j) m)⟩
  have l:∀b o,b≠P->s.heap.get? b=some o->(h'.push (PySem.W.kla_obj "<lambda>" qual params body scope cl pm a ct)).get? b=some o:=λb o nb e=>bT _ (hx b o nb e);have hv:∀b,b≠P->b≠a->b≠h'.objs.size->aX (aX (aX H P (.lq (ps++#[rawInt pos.line,rawInt pos.col,.ref a]))) a (IU a qual i)) h'.objs.size (IB h'.objs.size qual params body scope cl pm a ct) b=H b:=λb n1 n2 n3=>by
   rw[ao n3,ao n2,ao n1]
  have D:aX (aX (aX H P (.lq (ps++#[rawInt pos.line,rawInt pos.col,.ref a]))) a (IU a qual i)) h'.objs.size (IB h'.objs.size qual params body scope cl pm a ct) P=some (.lq (ps++#[rawInt pos.line,rawInt pos.col,.ref a])):=by
   rw[ao pf,ao pc,ah]
  have w:aX (aX (aX H P (.lq (ps++#[rawInt pos.line,rawInt pos.col,.ref a]))) a (IU a qual i)) h'.objs.size (IB h'.objs.size qual params body scope cl pm a ct) a=some (IU a qual i):=by
   rw[ao cf,ah]
  have C:aX (aX (aX H P (.lq (ps++#[rawInt pos.line,rawInt pos.col,.ref a]))) a (IU a qual i)) h'.objs.size (IB h'.objs.size qual params body scope cl pm a ct) h'.objs.size=some (IB h'.objs.size qual params body scope cl pm a ct):=ah;generalize aX (aX (aX H P (.lq (ps++#[rawInt pos.line,rawInt pos.col,.ref a]))) a (IU a qual i)) h'.objs.size (IB h'.objs.size qual params body scope cl pm a ct)=H' at *;have Y:∀b,H b=none->b≠P:=λb n z=>by simp_all
  have h:∀b o,H b=some o->b≠P->H' b=some o:=λb o e nb=>by
   simp_all
  have I':Inv X O σ H' { s with heap:=h'.push (PySem.W.kla_obj "<lambda>" qual params body scope cl pm a ct),toks:=V }:=by
   refine I.un ⟨λb o e n _ _=>l b o (Y b n) e,λb o e n _ _=>⟨o.slots,l b o (Y b n) e⟩,λb o e n _=>?_,λb o e _=>?_,λb xs e=>?_,λb o u e=>?_,λb qs e=>?_⟩ λb u e=>?_
   ·have:=Wz b o e;rw[hv b (Y b n) this.1 this.2];exact n
   ·by_cases z:b=P
    ·exact⟨_,by rw[z];exact bT _ F⟩
    ·exact⟨o,l b o z e⟩
   ·exact h b _ e (a3 e y (by intro z;cases z))
   ·exact h b _ e (a3 e y (by intro z;cases z))
   ·by_cases z:b=P
    ·grind
    ·exact⟨#[],by rw[h b _ e z];simp⟩
   ·by_cases U:b=P
    ·rw[U,D]at e;cases e;rw[U];exact bT _ F
    ·by_cases T:b=a
     ·rw[T,w]at e;cases e;rw[T];exact Qk (p.push _) (bT _ VG)
     ·by_cases S:b=h'.objs.size
      ·rw[S,C]at e;cases e;rw[S];exact IA (cu _ rfl)
      ·rw[hv b U T S]at e;refine(I.dS b u e).uW (λd v hd q=>l d v ?_ q) (λd q=>?_) λd xs q=>?_
       ·grind
       ·exact h d _ q (a3 q y (by intro z;cases z))
       ·exact h d _ q (a3 q y (by intro z;cases z))
  refine hQ H' _ _ a i pm ct I' (λb o hb e=>h b o e hb) (cz D ?_ <| .inr (br a i ?_ w)) C w
  ·rw[zM];exact TriplesOk_snoc _ _ _ _ B
  ·rw[zM];exact codeAmong_snoc _ B hn
 ·refine PySem.W.kla_makeFunctionHit K I.ok.glob hg k CH x B hf M λct h' V hk G=>?_;generalize hq:X.env.qual++"<lambda>"=qual at *;generalize Z:(X.mg "__name__").getD .none=pm;have nf:H h'.objs.size=none:=I.dS.fresh G;have W:aW H (aX H h'.objs.size (IB h'.objs.size qual params body scope cl pm a ct)):=aE nf;refine hQ _ _ h'.objs.size a i pm ct (I.laid (t':=V) (h':=h'.push (PySem.W.kla_obj "<lambda>" qual params body scope cl pm a ct)) (λb u e=>bT _ (hk b u e)) G (IA (cu _ rfl))) (λb o _ e=>W b o e) ?_ ah (W _ _ L);exact gD.keep (a8 ps y B <| .inr (br a i hf L)) W
end
noncomputable def EK(X:Cx)(N:List Str)(qual:Str)(scope:Scope)(f:Addr)(a:Value)(cl:List (Str×Addr))(s:Shared)(H:Hp):Cx where
 prog:=X.prog
 w:=X.w
 K:=X.K
 mg:=X.mg
 base:=X.base
 A:=X.A.deeper (PySem.W.envX qual scope s.heap.objs.size f a cl)
 N:=N
 vb:=s
 LZ:=H
 env:=PySem.W.envX qual scope s.heap.objs.size f a cl
 dF:=X.stack
 stack:=PySem.W.envX qual scope s.heap.objs.size f a cl::X.stack
 ex:=[]
 calm:=true
 fn:=λ_=>false
 pn:=[]
 xe:=λ_ _=>False
structure Cg(X:Cx)(scope:Scope)(cl:List (Str×Addr))(p:Str)(ys:List Str)(is:List Nat):Prop where
 kind:scope.kind=.function
 co:scope.isCoroutine=false
 gen:scope.isGenerator=false
 CT:∀x∈scope.names,x.2≠.cell
 par:scope.names.lookup p=some .local
 inj:∀x y c,cl.lookup x=some c->cl.lookup y=some c->x=y
 has:∀x,scope.names.lookup x=some .free->∃c,cl.lookup x=some c
 up:∀x c,cl.lookup x=some c->X.env.cells.lookup x=some c
 free:∀(j:Nat) (y:Str) (i:Nat),ys[j]?=some y->is[j]?=some i->X.N[i]?=some y/\X.env.scope.names.lookup y=some .cell/\scope.names.lookup y=some .free
noncomputable def rQ(σ:L2.St)(x:V)(a:List Nat):L2.St:=some x::a.map λi=>(σ[i]?).join
theorem Kn{p:Str}{l:List Str}{C:List Nat}{x:V}{Q:VK}(L:Cg X scope cl p l C)(U:l.length=C.length)(T:fB (k+1) X.A)(I:Inv X O σ H s)(hf:H f=some (IB f qual params body scope cl pm c ct)){G:Obj}(hc:H c=some (IU c qual G))(rx:bY x u)(hb:∀v:Value,bindArgs (PySem.W.kla_fn "<lambda>" qual params body scope cl pm (.ref c) ct) ⟨[v],[]⟩=pure [(p,v)])(F:PE (EK X (p::l) qual scope f (.ref c) cl s H) body te)(q:te (rQ σ x C) H Q):wpAny (model X.prog X.w) X.A (call (.ref f) [u]) (EP X O σ Q) (λ_ _=>False) s:=by
 have ho:s.heap.get? f=some (PySem.W.kla_obj "<lambda>" qual params body scope cl pm c ct):=(I.dS f _ hf).1;have S:s.heap.CodeRec (.ref c) qual:=(I.dS c _ hc).2.1;have a:=I.NI;refine p7 (PySem.W.kla_callFunE T.depth ho rfl L.co L.gen rfl S ?_);rw[hb];refine au (wpAny_newFunctionEnv L.CT (λy D=>by rw[eP.1 D];exact L.par) (λt R K=>⟨?_,?_⟩) L.kind)
 ·exact(a.mod.nolimit.keeps λb o e=>(a.bs b o e).1).keeps λb o e=>K.extBut b o (b8 (bo e)) (bT _ e)
 show codeAny _ _ (.expr body (PySem.W.envX qual scope s.heap.objs.size f (.ref c) cl)) _ _;have M:∀b o,s.heap.get? b=some o->t.get? b=some o:=λb o e=>K.extBut b o (b8 (bo e)) (bT _ e);have J:Inv (EK X (p::l) qual scope f (.ref c) cl s H) [] (rQ σ x C) H { s with heap:=t,toks:=s.toks+[(p,u)].length }:=by
  have B:∀b:Addr,b∉(EK X (p::l) qual scope f (.ref c) cl s H).ex:=λb z=>absurd (show b∈([]:List Addr) from z) (by simp);refine⟨⟨a.mod,L.kind,rfl,rfl,a0 _,L.inj,λy D=>?_,λy A z=>absurd z (by show ¬false=true;decide),λ_=>T.hd,Around.frames_deeper a.frames,.inr ⟨rfl,rfl⟩,λb z=>absurd z (B b),a.bs,a.Dz,λb _ _=>B b,λb z=>absurd z (B b),a.oi,a.Gb⟩,
   rfl,a.bare,Un.kept M,(aa R <| λi y v w n h3=>?_),λy A h=>?_,a.dS.fresh (a0 _),λy A h=>I.iA y A (L.up y A h),λp hp=>absurd (show p∈([]:List (Addr×Obj)) from hp) (by simp),a.dS.kept M,?_⟩
  ·rcases D with D | D
   ·exact absurd rfl (L.CT _ (eH (show scope.names.lookup y=some .cell from D)))
   ·exact L.has y D
  ·cases i with
   | zero=>
    have w:(p::l)[0]?=some y:=w;have e1:p=y:=by simpa using w
    have N:x=v:=by simpa[rQ] using n
    subst e1 N;exact(ab u rx <| .inl ⟨L.par,by simp⟩)
   | succ j=>
    have w:(p::l)[j+1]?=some y:=w;have w:l[j]?=some y:=by simpa using w
    have n:(C.map λi=>(σ[i]?).join)[j]?=some (some v):=by simpa[rQ] using n
    rw[gw]at n;cases W:C[j]? with
    | none=>simp_all
    | some i=>
     rw[W]at n;have n:(σ[i]?).join=some v:=by simpa using n
     have n:σ[i]?=some (some v):=by
      cases z:σ[i]? with
      | none=>simp_all
      | some o=>simp_all
     refine fb (L.free j y i w W) λg1 Z Y=>?_;refine ae I.loc λm hm U=>?_;refine ae (U i y v g1 n (.inr (.inl Z))) λu' r lk=>?_;refine(ab u' r <| .inr ⟨.inr Y,?_⟩);rcases lk with⟨z,_⟩ | ⟨_,A,e,E⟩
     ·rw[show X.env.kindOf y=X.env.scope.names.lookup y from rfl,Z]at z;cases z
     ·refine aA (L.has y Y) λc2 N=>?_;have:=L.up y c2 N;rw[e]at this;cases this;refine ae E λG g d=>?_;exact(ab A N <| ab G (M _ _ g) d)
  ·refine bI (I.cell y A (L.up y A h)) λv G g d=>?_;exact(br v G (M _ _ g) d)
  ·show(rQ σ x C).length=(p::l).length;unfold rQ
   simp_all
 refine PySem.W.kla_codeExpr (d7 (F [] _ _ H Q J q) (λv s' zz=>aF zz λv' H' P rv q'=>?_) λ_ _ z=>z.elim);exact I.after ⟨v',H',P.os,P.bare,P.base,P.dS,rv,q'⟩
def Nv(pos:Pos)(qual:Str)(P:Addr)(te:TE)(a:List Nat):TK:=fun σ H R=>gD pos qual P H/\∀H' kt,Kp P H H'->gD pos qual P H'->(∀lp x Q,aW H' lp->te (rQ σ x a) lp Q->kt σ x lp Q)->R kt H'
theorem A6{P:Addr}{p:Str}{g:List Str}{d:List Nat}(a:X.env.code=.ref c)(F:PySem.W.codeHdIn X.K c P=true)(G:BM X.mg X.base)(e:defaultsOf params X.env=([],[]))(n:closureFor scope X.env=pure cl)(L:Cg X scope cl p g d)(C:g.length=d.length)(B:fB (k+3) X.A)(E:∀qual pm J ct v,bindArgs (PySem.W.kla_fn "<lambda>" qual params body scope cl pm J ct) ⟨[v],[]⟩=pure [(p,v)])(b:∀f c s H,PE (EK (Ny X) (p::g) (X.env.qual++"<lambda>") scope f (.ref c) cl s H) body te):K_ X (.Lambda params body scope pos) (Nv pos (X.env.qual++"<lambda>") P te d):=by
 intro O s σ H R I h;refine cE h λA h=>?_;refine Ic I a F G e n A λH' T f i y pm ct N z m D hc=>(⟨⟨f,rfl⟩,aO (λj x lp Q=>lp f=some (IB f (X.env.qual++"<lambda>") params body scope cl pm i ct)/\lp i=some (IU i (X.env.qual++"<lambda>") y)/\te (rQ j x d) lp Q) H' N ?_ ?_⟩)
 ·intro l t r S x u Q M w q;have K:Cg (Ny X) scope cl p g d:=⟨L.kind,L.co,L.gen,L.CT,L.par,L.inj,L.has,L.up,L.free⟩
  exact Kn K C (k:=k) B.in1.in1 M q.1 q.2.1 w (λv=>E _ _ _ _ v) (b f i t S) q.2.2
 ·exact h H' _ z m λlp x Q o q=>(cO (o _ _ D) (o _ _ hc) q)
theorem Tp{base:Heap}{N:List Str}(F:ju K x qual st f fd)(S:bc N ps (aK st))(len:∀vs H Q E,sp vs H Q E->vs.length=ps.length)
  (b:∀A a s H vs Q E,fB k (A.deeper (envOfC qual (aK st) s.heap.objs.size f fd.code))->sp vs H Q E->
   ∃t,EO (zo iG P w K mg base N qual (aK st) f fd.code A a s H E).Ly (fO st) t/\t { nx:=λ_ H'=>Q .gH H',rt:=Q } (start N vs) H):dw P w K mg base iG (k+1) f fd ps sp:=by
 refine aN F.ex λn od c=>e9 c λkV l pm o m c=>aF c λct i d lk g=>?_;subst d;refine LG lk g S len λA a s H vs Q E j e=>?_;refine ae (b A a s H vs Q E j e) λt h q=>?_;exact(ab t h.Ly q)
noncomputable def PD(s:Stmt):Option (Pos×Scope):=match s with
 | .Return (some (.Call _ _ [⟨_,.Lambda _ _ a p,_⟩] _)) _=>some (p,a)
 | _=>none
def N4:Pos×Scope:=(PD ((fO (top 31)).getLastD (.Pass ⟨0,0,0,0⟩))).getD (⟨0,0,0,0⟩,{ kind:=.function,names:=[],isGenerator:=false,isCoroutine:=false })
abbrev QE:Str:=("stretches":Str)++".<locals>."++"<lambda>"
def C5(H:Hp):V->Ln
 | .ref q=>match H q with
  | some (.bG [.ref b,.ref c])=>(tL H (.ref b),tL H (.ref c))
  | _=>((0,0,1),(0,0,1))
 | _=>((0,0,1),(0,0,1))
theorem yY{k:Ln}(h:fT H q k):C5 H (.ref q)=k:=by
 refine aF h λb c e d a=>?_;unfold C5;dsimp only;rw[e];dsimp only;rw[mw d,mw a]
def k4(t:Ln):List Int:=wI (M.place t.1)++wI (M.place t.2)
theorem Ni(t u:Ln):ltI (k4 t) (k4 u)=true↔M.C9 t u:=by
 unfold ltI k4 wI M.C9 M.lexLt;generalize M.place t.1=a;generalize M.place t.2=b;generalize M.place u.1=c;generalize M.place u.2=d;obtain⟨j,i⟩:=a;obtain⟨h,g⟩:=b;obtain⟨c1,c2⟩:=c;obtain⟨f,e⟩:=d;show PyProof.Rows.lexLt itemOrd [.inl j,.inl i,.inl h,.inl g] [.inl c1,.inl c2,.inl f,.inl e]=true↔_;rw[ly,ly,ly,ly];show(decide (j<c1)=true\/decide (c1<j)=false/\(decide (i<c2)=true\/decide (c2<i)=false/\(decide (h<f)=true\/decide (f<h)=false/\(decide (g<e)=true\/decide (e<g)=false/\PyProof.Rows.lexLt itemOrd [] []=true))))↔_;have:PyProof.Rows.lexLt itemOrd [] []=false:=rfl;grind
theorem Bw{H:Hp}:∀{a:List Addr},(∀q,q∈a->∃p,fT H q p)->Paired (fT H) a (a.map λq=>C5 H (.ref q))
 | [],_=>.nil
 | q::a,h=>by
  obtain⟨p,b⟩:=h q (by simp);rw[bw,yY b];exact .cons b (Bw λc d=>h c (by simp[d]))
theorem Eo{H:Hp}:∀{b:List Addr} {ps:List Ln},Paired (fT H) b ps->b.map (λq=>C5 H (.ref q))=ps
 | _,_,.nil=>rfl
 | _,_,.cons a t=>by rw[bw,yY a,Eo t]
def Li(K:PySem.W.Frag):TE:=EY (Lq K) (uU oB [] E0 (jo (EY (sy K) (nJ 0) (tC (.int 0))) mK)) (uU oB [] E0 (jo (EY (sy K) (nJ 0) (tC (.int 1))) mK))
theorem Kr{k:Ln}{Q:VK}(h:fT H q k)(m:zK k)(o:∀H' b,aW H H'->H' b=some (.bG ((k4 k).map V.int))->Q (.ref b) H'):Li K (some (.ref q)::σ) H Q:=by
 refine aF h λb c g s r=>?_;obtain⟨⟨⟨y,x,w⟩,v⟩,⟨c1,c2,u⟩,t⟩:=m;refine(aa rfl <| aU q _ _ _ rfl rfl (dU.of g) (aG (j:=0) rfl) ⟨b,k.1,rfl,s,v,y.small (by decide),x.small (by decide),w.small (by decide),λB l a e=>?_⟩);refine(aa rfl <| aU q _ _ _ rfl rfl (dU.of (a _ _ g)) (aG (j:=1) rfl) ⟨c,k.2,rfl,a _ _ r,t,c1.small (by decide),c2.small (by decide),u.small (by decide),λA i f d=>?_⟩);refine⟨l,i,_,_,rfl,rfl,dU.of (f _ _ e),dU.of d,by simp[R1],(by show 4<=sizeLine;decide),λz=>?_,λ_ p n=>?_⟩
 ·exact absurd z (by simp[R1])
 ·exact o _ p ((a.trans f).trans (aE n)) ah
def DX(P1:Addr):Sp:=λvs H Q _=>∃l B D st U,vs=[.ref l]/\zL H l B/\M.Cn B st U true/\M.Draws D st/\(∀d,d∈B->zK d)/\B.length<=160000/\gD N4.1 QE P1 H/\
 ∀H' r,Kp P1 H H'->gD N4.1 QE P1 H'->zL H' r ((Ql55.stretches st U).map M.cU)->Q (.ref r) H'
theorem u_:bc ["lines","onward","back","found","line","end"] ["lines"] (aK (top 31)):=by constructor<;>decide
section
variable{s:Ql55.Both}{U:Nat}{B:List Ln}{Y:Bool}
theorem FE{x y w:Ql55.At×Ql55.At}(a:M.bK s U Y x)(g:M.cZ s U Y y w)(e:y.2=x.2):y=x:=M.vp (v:=y.2) g.2.2.2.1 g.1 a rfl e.symm
theorem BJ(c:M.Cn B s U Y){x:Ql55.At×Ql55.At}(b:M.bK s U Y x):(M.dt B (M.tl x.1)≠[]/\M.ins B (M.tl x.1)≠[])/\(M.dt B (M.tl x.2)≠[]/\M.ins B (M.tl x.2)≠[]):=by
 have o:∀{z:Ql55.At},(∃a,M.bK s U Y (z,a))->M.dt B (M.tl z)≠[]:=λ⟨a,h⟩ n=>by
  have:=c.eD.2 (ab a h rfl)
  simp_all
 have i:∀{z:Ql55.At},(∃a,M.bK s U Y (a,z))->M.ins B (M.tl z)≠[]:=λ⟨a,h⟩ n=>by
  have:=c.yR.2 (ab a h rfl)
  simp_all
 refine ae (M.xI b) λe g e1=>?_;refine ae (M.xk b) λf d j=>?_;exact(cO ⟨o ⟨x.2,b⟩,i ⟨e.1,by rw[<-e1];exact g⟩⟩ (o ⟨f.2,by rw[<-j];exact d⟩) <| i ⟨x.1,b⟩)
end
theorem Nl{b:Value}{a:List Env}{E:XK}:Cg (zo iG P w K mg base ["lines","onward","back","found","line","end"] "stretches" (aK (top 31)) f b A a s H E).Ly N4.2 [] "stretch" [] []:=by
 refine⟨rfl,rfl,rfl,by decide,by decide,λx y c h _=>(nomatch h),λx h=>?_,λx c h=>(nomatch h),λj y i h=>(by simp at h)⟩;have:∀z,z∈N4.2.names->z.2≠.free:=by decide
 exact absurd rfl (this _ (eH h))
theorem MZ(F:ju K "stretches" "stretches" (top 31) f fd)(Sn:fd.code=.ref c1)(hC:PySem.W.codeHdIn K c1 P1=true)(hB:BM mg base)(G1:Fn P w K mg base "ends_by_begin" 1 ["lines"] JH)(G2:Fn P w K mg base "turned_round" 1 ["lines"] JE)(G3:Fn P w K mg base "goes_through" 3 ["point","onward","back"] Mn)(G4:Fn P w K mg base "place" 1 ["point"] oB)(hS:mg "sorted"=none):
  dw P w K mg base iG 5 f fd ["lines"] (DX P1):=by
 refine Tp F u_ (λvs H Q E h=>?_) (λA dF s H vs Q E hr h=>?_)
 ·obtain⟨l,B,D,st,U,rfl,_⟩:=h;rfl
 ·obtain⟨l,B,D,st,U,rfl,hl,Hs,hD,v,mM,Kx,k⟩:=h;have hu:=tG hr;have Io:=hr.mono (j:=1) (by decide);refine(aa (aj (a_ (i:=1) u_.nd rfl (Or.inl rfl) (bX G1 Io rfl (af (pv 0) ar)))
   (aj (a_ (i:=2) u_.nd rfl (Or.inl rfl) (bX G1 Io rfl (af (bX G2 Io rfl (af (pv 0) ar)) ar)))
   (aj (a_ (i:=3) u_.nd rfl (Or.inl rfl) (eC ar))
   (aj (gE dW rfl (eI (pv 0)) (c6 (i:=4) u_.nd rfl (Or.inl rfl))
    (aB (eR (mn (fW (bX G3 (hr.mono (j:=3) (by decide)) rfl (af (aT aS (pv 4) aq (λ_ _=>rfl)) (af (pv 1) (af (pv 2) ar))))))
     (aj (a_ (i:=5) u_.nd rfl (Or.inl rfl) (aT aS (pv 4) aq (λ_ _=>rfl)))
     (aj (rD dW (fW (bX G3 (hr.mono (j:=3) (by decide)) rfl (af (pv 5) (af (pv 1) (af (pv 2) ar)))))
      (aB (a_ (i:=5) u_.nd rfl (Or.inl rfl) (aT cT (mr hu (pv 1) (pv 5) (λ_ _=>rfl)) aq (λ_ _=>rfl)))))
     (aB (fJ (kK gf iW iX fV (pv 3) (af (fX (af (aT aS (pv 4) aq (λ_ _=>rfl)) (af (pv 5) ar))) ar)))))) cv)))
   (aB (bg (A9 (te:=nJ 3) (wk:=Nv N4.1 QE P1 (Li K) []) rfl rfl hS (pv 3) (A6 (k:=1) Sn hC hB rfl rfl Nl rfl hr (λ_ _ _ _ _=>rfl) (λf c s H=>
    a7 J8 (bX G4 ?_ rfl (af (aT (r:=sy K) aS (pv 0) aq (λ_ _=>rfl)) ar)) (bX G4 ?_ rfl (af (aT (r:=sy K) aS (pv 0) aq (λ_ _=>rfl)) ar))))))))))) ?_)
  ·exact(hr.in1.in1).deeper _
  ·exact(hr.in1.in1).deeper _
  refine(aa rfl <| eK l B rfl hl (by omega) <| λH1 o s1 ho=>?_);refine(aa rfl <| eK l B rfl (hl.keep s1) (by omega) <| λH2 l2 s2 Sk=>?_);refine(eK l2 (B.map N0) rfl Sk (by grind) <| λH3 b s3 hb=>?_);refine⟨(by simp_all),λL0 Jq=>?_⟩;have T:aW H H3:=(s1.trans s2).trans s3;have VJ:H L0=none:=T.free Jq;have TJ:=ho.keep (s2.trans s3);refine ae hl λas Ga pa=>?_;have N7:=T _ _ Ga;refine(aa rfl <| a8 l rfl ⟨_,dM.of (aE Jq _ _ N7)⟩ <| eV (xs:=as.map V.ref) (λi σ H'=>aW H3 H'/\(∃I:List Addr,H' L0=some (.aR (I.map V.ref))/\Paired (fT H') I (((B.take i).filter λd=>!M.jq B d.1).map λd=>(d.1,M.wL st U d)))/\
   ∃r1 r2,σ=[some (.ref l),some (.ref o),some (.ref b),some (.ref L0),r1,r2]) (cO (aE Jq) (ab [] ah <| by rw[gS];exact .nil) ⟨none,none,rfl⟩) ?_ ?_ ?_)
  ·rintro i σ H' _ ⟨C,_⟩;exact dM.of (C _ _ N7)
  ·rintro i q0 σ H' Ip ⟨C,⟨I,G,N⟩,r1,r2,rfl⟩;obtain⟨q,hq,rfl⟩:=d_ Ip;refine ae (Pd.get pa hq) λd n hK=>?_;have TQ:=bP n;obtain⟨x,hx,rfl⟩:=(Hs.mem d).1 TQ;have il:i<B.length:=(bF.1 n).1;refine aF ((hK.keep T.gY).keep C.gY) λb1 Xq h1 h2 h3=>?_;have hh:=BJ Hs hx;have UR:=v _ TQ;have bl:I.length<=i:=by
    rw[ba N,aZ];grind
   have tk:((B.take (i+1)).filter λd=>!M.jq B d.1)=((B.take i).filter λd=>!M.jq B d.1)++[M.cU x].filter λd=>!M.jq B d.1:=by rw[b7 n,lN]
   refine(aa rfl <| aU q _ _ _ rfl rfl (dU.of h1) (aG (j:=0) rfl) <| aa rfl <| aa rfl ⟨b1,o,b,_,B,rfl,h2,UR.1,TJ.keep C,hb.keep C,hh.1.1,hh.1.2,v,λH5 L=>(aa rfl ?_)⟩);refine eL (λg0=>?_) (λg0=>?_)
   ·have f1:([M.cU x].filter λd=>!M.jq B d.1)=[M.cU x]:=by simp_all
    refine ae (M.l6 (s:=st) (U:=U) (Y:=true) (l:=M.B0 st U true) (λd n=>M.nT.2 n) hx) λr lk stop=>?_;have rl:r.length<=(Ql55.rims st U).length:=by
     have:=M.fu (l:=x::r) (m:=Ql55.rims st U) lk.nodup.1 λd n=>M.fo.2 (lk.dir d n);grind
    have Oa:M.wL st U (M.cU x)=M.tl (M.aR x r).2:=by
     unfold M.wL;rw[M.tN,M.kO _ lk stop rl]
    have V':=hb.keep (C.trans L);have TH:=TJ.keep (C.trans L);refine(aa rfl <| aU q _ _ _ rfl rfl (dU.of (L _ _ h1)) (aG (j:=1) rfl) <| ab (λm σ H6=>aW H5 H6/\∃R r' e,M.lh st U true R r'/\M.aR R r'=M.aR x r/\r'.length=m/\d6 H6 e (M.tl R.2)/\
     σ=[some (.ref l),some (.ref o),some (.ref b),some (.ref L0),some (.ref q),some (.ref e)]) (ab r.length (aW.refl _) <| fh x r Xq lk rfl rfl (L _ _ h3) rfl) ?_)
    rintro m σ H6 ⟨s6,R,r',e,W,el,rfl,he,rfl⟩;have X:=W.head;have Z:=BJ Hs X;have UW:=v _ ((Hs.mem _).2 (ab R X rfl));refine(aa rfl <| aa rfl <| aa rfl ⟨e,o,b,_,B,rfl,he,UW.2,TH.keep s6,V'.keep s6,Z.2.1,Z.2.2,v,λO s7=>(aa rfl ?_)⟩);have gi:=M.BK hD Hs (z:=R.2) (.inr ⟨R.1,X⟩);refine eL (λg1=>?_) (λg1=>?_)
    ·refine bI (gi.1 g1) λy z gy ey=>?_;have:=FE X gy ey;subst this;cases r' with
     | nil=>
      exfalso;refine stop ⟨z,?_⟩;rw[<-el];exact gy
     | cons y' Th=>
      have:z=y':=gy.uniq W.1;subst this;have nx:=M.FJ Hs gy;refine ae ((TH.keep (s6.trans s7)).get (s7 _ _ he) Z.2.1) λa g ha=>?_;refine aF (yC ha Z.2.1) λe' qs Wd _ TN=>?_;rw[nx.1]at TN;exact(aa (fun σ' H' h=>(aa (ky _) h)) <| aa rfl <| aa rfl <| aO o _ rfl g <| bU a _ _ _ rfl rfl (dM.of Wd) (aG (j:=0) rfl) (s6.trans s7) <| fh z Th e' W.2 el rfl TN rfl)
    ·cases r' with
     | cons y' Th=>exact absurd (gi.2 (br R y' W.1 rfl)) g1
     | nil=>
      have el:R=M.aR x r:=el;have RS:=s6.trans s7;have TZ:=RS _ _ (L _ _ G);refine(cz rfl (.inl ⟨rfl,_,dM.of TZ⟩) <| aa rfl <| aU q _ _ _ rfl rfl (dU.of (RS _ _ (L _ _ h1))) (aG (j:=0) rfl) <| cz rfl (by show 2<=sizeLine;decide) <| λt ht=>?_);have J:aW O (aX O t (.bG [.ref b1,.ref e])):=aE ht;have Vr:aX O t (.bG [.ref b1,.ref e]) t=some (.bG [.ref b1,.ref e]):=ah;generalize aX O t (.bG [.ref b1,.ref e])=H8 at *;have TY:=J _ _ TZ;have Ry:aW H' H8:=(L.trans RS).trans J;have S:∀o c ys,H8 c=some (.bG ys)->aX H8 L0 o c=some (.bG ys):=λo c ys h=>by rw[ao (a3 h TY (by intro z;cases z))];exact h
      refine⟨L0,_,_,rfl,rfl,TY,sz (by grind),bf (C.trans Ry) Jq,(ab (I++[t]) (by rw[ah,b9];rfl) ?_),_,_,rfl⟩;rw[tk,f1,b9];refine fF (Paired.fx N λ_ _ z=>z.keep λc ys h=>S _ c ys (Ry _ _ h)) ?_;show fT _ t ((M.cU x).1,M.wL st U (M.cU x));rw[Oa,<-el];exact(aO b1 e (S _ _ _ Vr) (S _ _ _ (Ry _ _ h2)) <| S _ _ _ (J _ _ (s7 _ _ he)))
   ·have f1:([M.cU x].filter λd=>!M.jq B d.1)=[]:=by simp_all
    refine(cO (C.trans L) (ab I (L _ _ G) ?_) ⟨_,_,rfl⟩);rw[tk,f1,gT];exact Paired.fx N λ_ _ z=>z.keep L.gY
  ·rintro σ H' ⟨C,⟨I,G,N⟩,r1,r2,rfl⟩;have el:(as.map V.ref).length=B.length:=by rw[aZ];exact ba pa
   rw[el,dN]at N;have N:Paired (fT H') I (M.pM st U B):=N;have Tf:=T.trans C;have P':=Kx.keep Tf;refine ae (id P') λR0 Jp _=>?_;have bl:I.length<=B.length:=by
    rw[ba N];unfold M.pM;rw[aZ];exact jB _ _
   refine(cz rfl P' <| λO kt k7 Sf Qa=>(ab L0 rfl <| .inl (cz (dM.of (k7 _ _ (a3 G Jp (by intro z;cases z)) G)) (by grind) <| ab (λy=>k4 (C5 O y)) (λH8 y J hy=>?_) <| λH8 L1 ys J Wn TM hp Ye=>?_)))
   ·obtain⟨q,hq,rfl⟩:=aw.1 hy;refine ae (mv N q hq) λd n hK=>?_;have Wq:=hK.keep (k7.ro Jp);have UT:zK d:=by
     obtain⟨d0,Qb,rfl⟩:=aw.1 n;have TU:=(bh.1 Qb).1;obtain⟨x,hx,rfl⟩:=(Hs.mem d0).1 TU;refine⟨(v _ TU).1,?_⟩;refine ae (M.l6 (s:=st) (U:=U) (Y:=true) (l:=M.B0 st U true) (λd n=>M.nT.2 n) hx) λr lk stop=>?_;have rl:r.length<=(Ql55.rims st U).length:=by
      have:=M.fu (l:=x::r) (m:=Ql55.rims st U) lk.nodup.1 λd n=>M.fo.2 (lk.dir d n);grind
     show Pk (M.wL st U (M.cU x));unfold M.wL;rw[M.tN,M.kO _ lk stop rl];exact(v _ ((Hs.mem _).2 (aa (lk.dir _ (M.gh r x)) rfl))).2
    refine Qa H8 (.ref q) _ J (Kr (Wq.keep J.gY) UT λH9 bb s9 Yj=>⟨bb,rfl,s9,?_,by unfold k4 wI;simp⟩);grind[yY]
   ·obtain⟨QS,p1,rfl⟩:=jc hp I rfl;have Tn:Paired (fT O) I (M.pM st U B):=Paired.fx N λ_ _ z=>z.keep (k7.ro Jp);have mem:∀q,q∈QS->∃p,fT O q p:=λq hq=>by
     refine ae (mv Tn q (p1.mem_iff.1 hq)) λy _ h=>?_;exact⟨y,h⟩
    have pm:(QS.map λq=>C5 O (.ref q)).Perm (M.pM st U B):=by
     rw[<-Eo Tn];exact p1.map _
    have pw:(QS.map λq=>C5 O (.ref q)).Pairwise λa b=>¬M.C9 b a:=by
     grind[List.pairwise_map,Ni]
    have e1:=M.yc hD Hs pm pw;refine k H8 L1 (λc u nc h=>J _ _ (k7 c u nc (Tf _ _ h))) (Sf.keep J) (ab QS Wn ?_);rw[<-e1];exact Paired.fx (Bw mem) λ_ _ z=>z.keep J.gY
section
open PySem.SeqAt
open PySem.AutoSeq1 (wpAny_loadPart')
open PySem.MeetsSeq PySem.MeetsSeq2 PySem.MeetsSeq3
theorem GX(A:Around)(s:Shared)(a:Int)(t:Tok)(c:Int)(u:Tok)(prog:Program)(w:World)(E:Value->Shared->Prop)(Q:Value->Shared->Prop)(h:Q (.bool (decide (c<a))) s):
  wpAny (model prog w) A (richCompare .Gt (.int a t) (.int c u)) Q E s:=(PyProof.Rows.gt_int h:wpAny (model prog w) A (compareOp .Gt (.int a t) (.int c u)) Q E s)
theorem wD(l b:Addr)(items jj:Array Value)(n n2:Nat)(dd SO:Option Addr)(sl Rz:Array (Option Value))(ns ms:List Int)(hi:IntsAre items.toList ns)(hj:IntsAre jj.toList ms):
  Meets (Builtin.«tuple.__gt__» ⟨[.ref l,.ref b],[]⟩)
   (λ_ R s=>s.heap.get? l=some { cls:=.type "tuple",dict:=dd,data:=.seq items n,slots:=sl }/\s.heap.get? b=some { cls:=.type "tuple",dict:=SO,data:=.seq jj n2,slots:=Rz }/\
    R (.ok (.ret (.bool (HT.lexLt ms ns)))) s):=
 .of_wp λprog w A R s h=>by
  obtain⟨hp,g,d,tk,os⟩:=s;refine fb h λhl hb h=>?_;have f2:=AutoSeq1.sub_tuple_tuple;have z1:items.size=ns.length:=by rw[<-hi.length];simp
  have z2:jj.size=ms.length:=by rw[<-hj.length];simp
  wp_walk using wpAny_loadPart' hl,wpAny_loadPart' hb,wpAny_forIn_list _ (λrest b s'=>b.1=none/\s'=⟨hp,g,d,tk,os⟩/\∃vs ws Fi Fm,rest=vs.zip ws/\
   IntsAre vs Fi/\IntsAre ws Fm/\Fi.length+jj.size=Fm.length+items.size/\R (.ok (.ret (.bool (HT.lexLt Fm Fi)))) ⟨hp,g,d,tk,os⟩) _
  case turn=>
   rintro⟨y,x⟩ rest b s' ⟨NC,rfl,vs,ws,Fi,Fm,hz,NA,Kv,mM,hR⟩;cases NA with
   | nil=>simp_all
   | cons a t PY=>
    cases Kv with
    | nil=>simp_all
    | cons c u PX=>
     rw[qR]at hz;injection hz with Sd LC;injection Sd with hy hx;subst hy hx;rw[HT.mD]at hR;simp only[dj]at mM;refine ae (HT.BU A.in1 ⟨hp,g,d,tk,os⟩ a t c u) λe he Iq=>?_;refine ag (he prog w _ _ ?_);cases e with
     | true=>
      rw[ak (Iq.1 rfl).symm]at hR
      wp_walk
      grind
     | false=>
      rw[ai (λq=>absurd (Iq.2 q.symm) b')]at hR;have Sg:=GX A.in1 ⟨hp,g,d,tk,os⟩ a t c u prog w
      wp_walk using Sg
      simp_all
  case fin=>
   rintro⟨b1,b2⟩ s' ⟨NC,rfl,vs,ws,Fi,Fm,hz,NA,Kv,mM,hR⟩;simp only at NC;subst NC;have hv:HT.lexLt Fm Fi=decide (jj.size<items.size):=by
    cases NA with
    | nil=>
     cases Kv with
     | nil=>
      grind[List.length_nil,HT.kY,decide_eq_false]
     | cons c u hw=>
      grind[List.length_nil,List.length_cons,HT.nZ,decide_eq_false]
    | cons a t hv=>
     cases Kv with
     | nil=>
      grind[List.length_nil,List.length_cons,HT.nY,decide_eq_true]
     | cons c u hw=>
      simp_all
   rw[hv]at hR
   wp_walk
   exact(aa rfl <| by simpa[Builtin.Tuple.tupleCompareSizes] using hR)
  grind
theorem Df{prog:Program}{l:Addr}{c a:Array Value}{d:List Int}(t:IsTup s.heap l c)(y:IsTup s.heap b a)(v:IntsAre c.toList ns)(u:IntsAre a.toList d)(r:A.units<cLine)(h:Q (.bool (HT.lexLt d ns)) s):wpAny (model prog w) A (richCompare .Gt (.ref l) (.ref b)) Q E s:=by
 obtain⟨⟨cls,dd,o,sl⟩,k,hc,n,m⟩:=id t;obtain⟨⟨p,j,data2,i⟩,e,g,q,f⟩:=id y;simp only at hc m g f;subst hc m g f;exact richCompare_meets_room (op:=.Gt) (aa k rfl) (aa e rfl) PySem.F.slot_tuple_gt PySem.F.entry_tuple_gt (PySem.F.args_tuple_gt_2 _ _) (wD l b c a n q dd j sl i ns d v u)
  (cO k e <| show Value.bool (HT.lexLt d ns)≠Value.notImplemented/\Q (.bool (HT.lexLt d ns)) s from⟨(λx=>nomatch x),h⟩) r
end
theorem NB(p q:Int×Int):HT.lexLt (wI p) (wI q)=M.gN p q:=by
 unfold wI M.gN;rw[HT.mD,HT.mD,HT.kY];rw[i6];split
 ·rename_i h;split
  ·simp_all
  ·simp[h]
 simp_all
section
variable{X:Cx}{O:List (Addr×Obj)}{σ:L2.St}{H:Hp}{s:Shared}{A:Around}{E:Value->Shared->Prop}
theorem yz{p:Int×Int}(I:Inv X O σ H s)(h:dv H a p):∃b:List Value,IsTup s.heap a b.toArray/\IntsAre b.toArray.toList (wI p):=by
 refine cE (show dR X.prog X.w H s.heap a (.bG ((wI p).map V.int)) from I.dS a _ h) λ_ c=>ae c λb r t=>?_;exact(ab b t <| intsAre_of r)
theorem LF{p q:Int×Int}(g:A.units<cLine)(I:Inv X O σ H s)(j:dv H a p)(i:dv H b q)(h:Q (.bool (M.gN q p)) s):wpAny (model X.prog X.w) A (richCompare .Gt (.ref a) (.ref b)) Q E s:=by
 refine ae (yz I j) λl d f=>?_;refine ae (yz I i) λk c e=>?_;refine Df d c f e g ?_;rw[NB];exact h
theorem Py{p q:Int×Int}(g:A.units<cLine)(I:Inv X O σ H s)(j:dv H a p)(i:dv H b q)(h:Q (.bool (M.gN p q)) s):wpAny (model X.prog X.w) A (richCompare .Lt (.ref a) (.ref b)) Q E s:=by
 refine ae (yz I j) λl d f=>?_;refine ae (yz I i) λk c e=>?_;have:=HT.vC (prog:=X.prog) (w:=X.w) (A:=A) (E:=E) (Q:=Q) d c f e g (by rw[NB];exact h);exact this
end
def Ru(K:PySem.W.Frag)(ta b:TE):TE:=fun σ H Q=>ta σ H λx a=>∃k,Qr K x a k/\if k=true then Q x a else b σ a Q
theorem MT{a b:Expr}{f:TE}(q:PE X a ta)(p:PE X (.BoolOp .Or [b] pos) f):PE X (.BoolOp .Or [a,b] pos) (Ru X.K ta f):=by
 intro O s σ H Q I h;refine BoolOp_or (dY (q O s σ H _ I h) λv n d=>aF d λx l t g d=>ae d λk tv i=>?_);refine dY (L6 O n σ l x v (λo e=>o=k/\e=l) t g (a8 k tv rfl rfl)) λc m d=>aH d λe j e1 r=>?_;subst e1 r;cases c with
 | true=>exact(aO x e j g i)
 | false=>exact p O m σ e Q j i
def y9(it a:Addr)(i:Nat):HO:=.ext λh=>h.IsListIter it a i
theorem LB(x:h.IsListIter it a i):dR P w H h it (y9 it a i):=
 (cO x (let ⟨o,e,_⟩:=x;⟨o,e⟩) <| λ_ _ b k=>ae b λo e r=>(ab o (k _ e) r))
abbrev Il(X:Cx):Cx:={ X with A:=X.A.in1,xe:=λ_ _=>False }
theorem Gk(I:Inv X O σ H s):Inv (Il X) O σ H s:=
 ⟨⟨I.ok.mod,I.ok.kind,I.ok.glob,I.ok.blt,I.ok.above,I.ok.inj,I.ok.has,I.ok.K2,I.ok.hd,I.ok.frames,I.ok.Ll,I.ok.LH,I.ok.bs,I.ok.Dz,I.ok.yM,I.ok.zh,I.ok.oi,I.ok.Gb⟩,I.os,I.bare,I.base,I.loc,I.cell,I.free,I.iA,I.pin,I.dS,I.len⟩
theorem HD(I:Inv (Il X) O σ H s):Inv X O σ H s:=
 ⟨⟨I.ok.mod,I.ok.kind,I.ok.glob,I.ok.blt,I.ok.above,I.ok.inj,I.ok.has,I.ok.K2,I.ok.hd,I.ok.frames,I.ok.Ll,I.ok.LH,I.ok.bs,I.ok.Dz,I.ok.yM,I.ok.zh,I.ok.oi,I.ok.Gb⟩,I.os,I.bare,I.base,I.loc,I.cell,I.free,I.iA,I.pin,I.dS,I.len⟩
theorem Et{x:V}{Q:Option Value->Shared->Prop}(I:Inv X O σ H s)(d:H it=some (y9 it a j))(n:dM X.K H a xs)(l:xs[j]?=some x)(h:∀u c,Inv X O σ (aX H it (y9 it a (j+1))) c->bY x u->Q (some u) c):wpAny (model X.prog X.w) A (pyNext (.ref it)) Q E s:=by
 have st:s.heap.IsListIter it a j:=(I.dS it _ d).1;refine aH (I.list n) λk g p r=>?_;refine ae (g.get l) λu m i=>?_;refine wpAny_pyNext_list_item st p.isList (x:=u) (by simpa using m) λh' b f=>?_;exact h u _ (oO (t':=s.toks) I (by rw[d];exact True.intro) f (let ⟨o,e,_⟩:=b;⟨o,e⟩) (LB b)) i
noncomputable def KJ(H:Hp)(a:Addr):Hp:=λb=>if b=a then none else H b
theorem pQ(h:b≠a):KJ H a b=H b:=by unfold KJ;rw[ai h]
theorem BF{a:Heap->Prop}{t':Nat}(I:Inv X O σ H s)(l:H it=some (.ext a))(h0:X.vb.heap.objs.size<=it)(d:Heap.ExtBut it s.heap h'):
  Inv X O σ (KJ H it) { s with heap:=h',toks:=t' }:=by
 have g:∀b,H b=none->b≠it:=λb n z=>by simp_all
 have st:∀b o,H b=some o->(∀a,o≠.ext a)->KJ H it b=some o:=λb o e z=>by rw[pQ (a3 e l (z a))];exact e
 refine I.step (g':=s.gens) (d':=s.drawn) (ch:=[it]) (λb f=>?_) (λb o _ _ hc e _=>d b o (by simpa using hc) e) (λb o _ _ hc e _=>⟨o.slots,d b o (by simpa using hc) e⟩) (λb o _ _ n=>by rw[pQ (g b n)];exact n)
  (λb o hc e=>⟨o,d b o (by simpa using hc) e⟩) (λb xs e=>st b _ e (by intro a z;cases z)) (λb o u e=>st b _ e (by intro a z;cases z)) (λb ps e=>⟨#[],by simp_all⟩) (λm k=>?_) (λb u e=>?_) I.bare
 ·have e:b=it:=by simpa using f
  subst e;refine(oX (.inr h0) (λz=>?_) (λx c e z=>?_) <| λp i z=>?_)
  ·have:=I.free
   simp_all
  ·have:=I.iA x c e
   simp_all
  ·have:=(I.pin p i).2.1
   simp_all
 ·refine aN k λo es h=>ae h λep j r=>?_;exact⟨o,es,ep,d _ o (g _ I.free) j,r⟩
 ·have f:b≠it:=λz=>by
   unfold KJ at e
   simp_all
  rw[pQ f]at e;refine(I.dS b u e).uW (λc v hc q=>d c v ?_ q) (λc q=>st c _ q (by intro a z;cases z)) λc xs q=>st c _ q (by intro a z;cases z);grind
section
variable{X:Cx}{O:List (Addr×Obj)}{σ:L2.St}{fv:Value}{kt:L2.St->V->Hp->VK->Prop}{a S it q:Addr}{xs:List V}{Hb:Hp}{ks:V->Int×Int}{R:Result->Shared->Prop}
theorem Fo(hk:Jf (Il X) (.ref q) kt)(hc:X.calm=true)(hu:X.A.units+1<cLine)(hs:dM X.K Hb a xs)(ni:Hb it=none)(nS:Hb S=none)(h0:X.vb.heap.objs.size<=it)(Qa:∀H' y,aW Hb H'->y∈xs->kt σ y H' λr lp=>∃b,r=.ref b/\aW H' lp/\dv lp b (ks y))(hR:∀s' H' y u,Inv X O σ H' s'->aW Hb H'->y∈xs->(∀z,z∈xs->¬M.lexLt (ks y) (ks z))->bY y u->R (.ok (.ret u)) s'):
  ∀k j s H g b,xs.length-j=k->j<=xs.length->Inv X O σ H s->aW Hb H->H it=some (y9 it a j)->H S=some (.aR [g,.ref b])->dv H b (ks g)->g∈xs->(∀z,z∈xs.take j->¬M.lexLt (ks g) (ks z))->
   codeAny (model X.prog X.w) X.A (.builtin "max.loop" ⟨[.ref it,.ref q,.ref S],[]⟩) R s:=by
 have l:(toString "max"++toString ".loop":String)="max.loop":=by decide
 intro k
 induction k with
 | zero=>
  intro j s H g b VR hj I N E w W hy d;have ej:j=xs.length:=by omega
  subst ej;rw[dN]at d;refine cE (I.nV w) λz C=>aF C λD n r _ e=>?_
  match D,r with
  | [ub,wb],.cons rb (.cons r2 .nil)=>
  have st:s.heap.IsListIter it a xs.length:=(I.dS it _ E).1;refine aH (I.list (N.seq hs)) λt Z p hz=>?_;have hl:=Z.length;have P:S≠it:=a3 w E (by intro z;cases z);refine i5 qu ?_;rw[kC i8 _];show wpAny _ X.A.in1 (seqItems? (.ref S) >>= _) _ _ s;refine ag (i3 e rfl ?_);show wpAny _ X.A.in1 (tryCatch (pyNext (.ref it)) _ >>= _) _ _ s;refine ag (iP (wpAny_pyNext_list_end (show X.A.in1.handled=none from I.ok.hd hc) st p.isList (by simp;omega) λh' eb=>?_));have I1:=BF (t':=s.toks) I E h0 eb;have J:KJ H it S=some (.aR [g,.ref b]):=by rw[pQ P];exact w
  have e1:=eb S _ P e;show wpAny _ X.A.in1 (updateSeq S (λ_=>#[]) >>= _) _ _ _;refine ag (jy e1 rfl (ag (gI (au ?_))));have B:=I1.sH (t':=s.toks) (ys:=[]) (its':=[]) (f:=λ_=>#[]) J e1 rfl .nil (bZ _);refine hR _ _ g ub B (bf (λc o h=>?_) nS) hy d rb;rw[pQ (aQ h ni)];exact N c o h
 | succ k ih=>
  intro j s H g b VR hj I N E w W hy d;refine cE (I.nV w) λz C=>aF C λD n r _ e=>?_
  match D,r with
  | [ub,wb],.cons rb (.cons r2 .nil)=>
  obtain rfl:wb=Value.ref b:=r2;obtain⟨x,hx⟩:∃x,xs[j]?=some x:=⟨_,cQ (by omega)⟩
  have Q:=bP hx;have P:S≠it:=a3 w E (by intro z;cases z);have bi:b≠it:=a3 W E (by intro z;cases z);have bS:b≠S:=a3 W w (by intro z;cases z);refine i5 qu ?_;rw[kC i8 _];show wpAny _ X.A.in1 (seqItems? (.ref S) >>= _) _ _ s;refine ag (i3 e rfl ?_);show wpAny _ X.A.in1 (tryCatch (pyNext (.ref it)) _ >>= _) _ _ s;refine ag (iP (Et I E (N.seq hs) hx λu s1 I1 ru=>?_));have L:aW Hb (aX H it (y9 it a (j+1))):=bf N ni;have VV:aX H it (y9 it a (j+1)) it=some (y9 it a (j+1)):=ah;have J:aX H it (y9 it a (j+1)) S=some (.aR [g,.ref b]):=by rw[ao P];exact w
  have Wa:dv (aX H it (y9 it a (j+1))) b (ks g):=by unfold dv;rw[ao bi];exact W
  generalize aX H it (y9 it a (j+1))=H1 at *;show wpAny _ X.A.in1 (tryCatch (holding [u] (call (.ref q) [u])) _ >>= _) _ _ s1;refine ag (iP (eO (d7 (hk O s1 σ H1 x u _ (Gk I1) ru (Qa H1 x L Q)) (λv s2 he=>?_) λ_ _ z=>z.elim)));refine aF he λv' H2 B Z C=>aH C λA Y V G=>?_;subst Y;obtain rfl:v=Value.ref A:=Z;have B:=HD B;have T:=V _ _ VV;have m:=V _ _ J;have U:=Wa.keep V;have K:=L.trans V;have Se:X.A.in1.units<cLine:=show X.A.units+1<cLine from hu;show wpAny _ X.A.in1 (tryCatch (holding [u,.ref A] (richCompare .Gt (.ref A) (.ref b) >>= _)) _ >>= _) _ _ s2;refine ag (iP (eO (ag (LF Se B G U (ag (eO (gU (ag (gI (au ?_))))))))));refine cE (B.nV m) λz2 C=>aF C λVj n2 r3 _ e2=>?_;have tk:=b7 hx;cases F:M.gN (ks g) (ks x) with
  | true=>
   have QO:=M.iy.1 F;simp only[dh];refine ag (jy e2 rfl (ag (gI ?_)));rw[l];have I3:=B.sH (t':=s2.toks) (ys:=[x,.ref A]) (its':=[u,.ref A]) (f:=λ_=>#[u,.ref A]) m e2 rfl (.cons ru (.cons rfl .nil)) (by omega);have Xt:A≠S:=a3 G m (by intro z;cases z);refine au ⟨gJ i8 _,ih (j+1) _ _ x A (by omega) (by omega) I3 (bf K nS) (by rw[ao (bu P)];exact T) ah (by unfold dv;rw[ao Xt];exact G) Q ?_⟩;intro y i;rw[tk]at i;rcases cJ.1 i with h | h
   ·intro hl;have hm:=d y h;unfold M.lexLt at *;omega
   ·rw[eP.1 h];unfold M.lexLt;omega
  | false=>
   simp only[fc,cx];refine ag (gI ?_);rw[l];refine au ⟨gJ i8 _,ih (j+1) _ _ g b (by omega) (by omega) B K T m U hy ?_⟩;intro y i;rw[tk]at i;rcases cJ.1 i with h | h
   ·exact d y h
   ·rw[eP.1 h];intro hl;rw[M.iy.2 hl]at F;cases F
theorem CY(W:Jf (Il X) (.ref q) kt)(hc:X.calm=true)(hu:X.A.units+1<cLine)(V:dM X.K Hb a xs)(L:Hb it=none)(N:Hb S=none)(h0:X.vb.heap.objs.size<=it)(m:∀H' y,aW Hb H'->y∈xs->kt σ y H' λr lp=>∃b,r=.ref b/\aW H' lp/\dv lp b (ks y))(hR:∀J H' y u,Inv X O σ H' J->aW Hb H'->y∈xs->(∀z,z∈xs->¬M.lexLt (ks y) (ks z))->bY y u->R (.ok (.ret u)) J)(hn:xs≠[])(I:Inv X O σ H s)(F:aW Hb H)(Y:H it=some (y9 it a 0))(C:H S=some (.aR [])):codeAny (model X.prog X.w) X.A (.builtin "max.loop" ⟨[.ref it,.ref q,.ref S],[]⟩) R s:=by
 have d:(toString "max"++toString ".loop":String)="max.loop":=by decide
 obtain⟨x,c,D⟩:∃x c,xs=x::c:=by
  cases xs with
  | nil=>exact absurd rfl hn
  | cons x c=>exact⟨x,c,rfl⟩
 have U:xs[0]?=some x:=by rw[D];rfl
 have l:=bP U;refine cE (I.nV C) λz i=>aF i λits n r _ e=>?_;have T:S≠it:=a3 C Y (by intro z;cases z);cases r;refine i5 qu ?_;rw[kC i8 _];show wpAny _ X.A.in1 (seqItems? (.ref S) >>= _) _ _ s;refine ag (i3 e rfl ?_);show wpAny _ X.A.in1 (tryCatch (pyNext (.ref it)) _ >>= _) _ _ s;refine ag (iP (Et I Y (F.seq V) U λu G I1 K=>?_));have j:aW Hb (aX H it (y9 it a (0+1))):=bf F L;have A:aX H it (y9 it a (0+1)) it=some (y9 it a (0+1)):=ah;have B:aX H it (y9 it a (0+1)) S=some (.aR []):=by rw[ao T];exact C
 generalize aX H it (y9 it a (0+1))=H1 at *;show wpAny _ X.A.in1 (tryCatch (holding [u] (call (.ref q) [u])) _ >>= _) _ _ G;refine ag (iP (eO (d7 (W O G σ H1 x u _ (Gk I1) K (m H1 x j l)) (λv s2 he=>?_) λ_ _ z=>z.elim)));refine aF he λv' H2 p rv i=>aH i λh t w o=>?_;subst t;obtain rfl:v=Value.ref h:=rv;have p:=HD p;have g:=w _ _ B;refine cE (p.nV g) λz2 i=>aF i λP n2 r3 _ Z=>?_;show wpAny _ X.A.in1 (updateSeq S (λ_=>#[u,.ref h]) >>= _) _ _ _;refine ag (jy Z rfl ?_);rw[d];have I3:=p.sH (t':=s2.toks) (ys:=[x,.ref h]) (its':=[u,.ref h]) (f:=λ_=>#[u,.ref h]) g Z rfl (.cons K (.cons rfl .nil)) (by show 2<=sizeLine;decide);have E:h≠S:=a3 o g (by intro z;cases z);refine au ⟨gJ i8 _,Fo W hc hu V L N h0 m hR _ 1 _ _ x h rfl (by rw[D];simp) I3 (bf (j.trans w) N) (by rw[ao (bu T)];exact w _ _ A) ah (by unfold dv;rw[ao E];exact o) l ?_⟩;intro y k;rw[D]at k;have:y=x:=by simpa using k
 rw[this];unfold M.lexLt;omega
end
def Oo(K:PySem.W.Frag)(te:TE)(d:TK):TE:=fun σ H Q=>te σ H λx e=>d σ e λkt c=>∃a xs,x=.ref a/\dM K c a xs/\xs≠[]/\∃ks:V->Int×Int,
 (∀H' y,aW c H'->y∈xs->kt σ y H' λr lp=>∃b,r=.ref b/\aW H' lp/\dv lp b (ks y))/\∀H' y,aW c H'->y∈xs->(∀z,z∈xs->¬M.lexLt (ks y) (ks z))->Q y H'
theorem FX(a v:Value):argsOk "max" ⟨[a],[(Str.ofString "key",v)]⟩:=by unfold argsOk;kernel_rfl
theorem J4{e Y:Expr}{wk:TK}{p kp:Pos}(hc:X.calm=true)(hu:X.A.units+1<cLine)(hg:Gl X "max")(hm:X.mg "max"=none)(he:PE X e te)(hk:K_ X Y wk)(j:starEach [e] X.env=[(false,eval e X.env)]:=by rfl):
  PE X (.Call (.Name "max" p) [e] [⟨some "key",Y,kp⟩] pos) (Oo X.K te wk):=by
 intro O s σ H Q I h;have l:(toString "max"++toString ".loop":String)="max.loop":=by decide
 refine lI (sI I hg hm (u:=.builtin "max") (by decide) ?_);have h':jo te mK σ H (λvs U=>match vs with
  | [x]=>wk σ U λkt g=>∃a xs,x=.ref a/\dM X.K g a xs/\xs≠[]/\∃ks:V->Int×Int,
   (∀H' y,aW g H'->y∈xs->kt σ y H' λr lp=>∃b,r=.ref b/\aW H' lp/\dv lp b (ks y))/\∀H' y,aW g H'->y∈xs->(∀z,z∈xs->¬M.lexLt (ks y) (ks z))->Q y H'
  | _=>False):=h
 refine callWith_kw (dY ((show PA X [e] (jo te mK) from af he ar j) pos O s σ H _ I h') λus s1 w=>aF w λvs U I1 C D=>?_) (by rw[j];rfl) (by rw[j];rfl)
 match vs,C,D with
 | [x],.cons (b:=u) rx .nil,D=>
 refine kws_cons (dY (hk O s1 σ U _ I1 D) λfv c ⟨⟨q,ef⟩,kt,g,t,kr,a,xs,ex,Z,hn,ks,P,hQ⟩=>kws_nil ?_);subst ef ex;obtain rfl:u=Value.ref a:=rx;have K:Jf (Il X) (.ref q) kt:=λO s σ H x u Q I r k=>wpAny_of_in1 (d7 (kr O s σ H x u Q (Le (HD I)) r k) (λv i w=>aF w λv' H' J W q=>(aO v' H' (Gk (Lx J)) W q)) λ_ _ z=>z);show wpAny (model X.prog X.w) X.A (call (.builtin "max") [.ref a] [(Str.ofString "key",Value.ref q)]) _ _ c;refine p7 (codeAny_call_builtin F.plain_max F.entry_max ?_);simp only[checkBuiltinCall,F.kind_max];have d:wpAny (model X.prog X.w) X.A.in1 (Builtin.«max» ⟨[.ref a],[(Str.ofString "key",Value.ref q)]⟩)
   (λd i=>match d with
    | .done f=>(match (Except.ok f:Result) with | .ok (.ret v)=>EP X O σ Q v i | .ok _=>False | .error e=>X.xe e i)
    | .again c'=>c'.quiet=true/\codeAny (model X.prog X.w) X.A c' (λr i=>match r with | .ok (.ret v)=>EP X O σ Q v i | .ok _=>False | .error e=>X.xe e i) i) X.xe c:=by
  show wpAny _ X.A.in1 (Builtin.Builtins.bindParams "max" ["key","default"] 0 ⟨[],[(Str.ofString "key",Value.ref q)]⟩ >>= _) _ _ c;refine ag (p_ (show Builtin.Builtins.bindParams "max" ["key","default"] 0 ⟨[],[(Str.ofString "key",Value.ref q)]⟩=pure [some (.ref q),none] from rfl) (ag (au ?_)));refine aH (t.list Z) λL W pl hz=>?_;refine ag (uc pl.isList ?_);have N:(c.heap.push { cls:=.type "list_iterator",data:=.fields #[.ref a,.int 0 0] }).IsListIter c.heap.objs.size a 0:=(cz (cu _ rfl) rfl rfl)
  have I3:=t.laid (t':=c.toks) (a:=c.heap.objs.size) (o:=y9 c.heap.objs.size a 0) (h':=c.heap.push { cls:=.type "list_iterator",data:=.fields #[.ref a,.int 0 0] }) (λb o e=>bT _ e) (a0 _) (LB N);have E:g c.heap.objs.size=none:=t.fresh;refine ag (mR ?_ (bZ _));have I4:=I3.HR (ys:=[]) (its:=[]) (t':=c.toks) .nil (bZ _);have G:=I3.fresh;have R:=aE (o:=.aR []) G _ _ (ah (H:=g) (a:=c.heap.objs.size) (o:=y9 c.heap.objs.size a 0));have B:aW g _:=(aE E).trans (aE (o:=.aR []) G);have T:=ah (H:=aX g c.heap.objs.size (y9 c.heap.objs.size a 0)) (a:=(c.heap.push { cls:=.type "list_iterator",data:=.fields #[.ref a,.int 0 0] }).objs.size) (o:=.aR []);rw[l];refine au ⟨gJ i8 _,CY (Hb:=g) K hc hu Z E ((aE E).free G) t.sz P (λi H' y u I' sm hy n ru=>?_) hn I4 B R T⟩;exact(aO y H' I' ru <| hQ H' y sm hy n)
 cases m:Manifest.signature? "max" with
 | none=>exact au d
 | some A=>
  have S:Bind.checkArgs "max" A ⟨[.ref a],[(Str.ofString "key",Value.ref q)]⟩=pure ():=by
   have:=FX (.ref a) (.ref q);simpa only[argsOk,m] using this
  simp only[S];exact au d
noncomputable def R7(s:Stmt):Option (Pos×Scope):=match s with
 | .Return (some (.Tuple [_,.Call _ _ [⟨_,.Lambda _ _ a p,_⟩] _] _ _)) _=>some (p,a)
 | _=>none
def CJ:Pos×Scope:=(R7 ((fO (top 32)).getLastD (.Pass ⟨0,0,0,0⟩))).getD (⟨0,0,0,0⟩,{ kind:=.function,names:=[],isGenerator:=false,isCoroutine:=false })
abbrev E8:Str:=("next_line":Str)++".<locals>."++"<lambda>"
theorem ma.Vb(h:ma H d L)(k:Kp p H H'){ps:Array Value}(a:H p=some (.lq ps)):ma H' d L:=by
 obtain⟨m,⟨b,j,i,g⟩,f⟩:=h;refine(ab m ⟨k _ _ (a3 b a (by intro z;cases z)) b,j,i,λx e=>?_⟩ f);refine ae (g x e) λn c l=>?_;exact(ab n (k _ _ (a3 c a (by intro z;cases z)) c) <| Paired.fx l λ_ _ z=>k.ro a _ _ z)
def Mg(P2:Addr):Sp:=λvs H Q _=>∃q o S D st U Y t,vs=[.ref q,.ref o]/\fT H q (M.cU t)/\M.bH st U Y t/\ma H o S/\M.wN S st U Y/\M.Draws D st/\(∀d,d∈S->zK d)/\S.length<=160000/\gD CJ.1 E8 P2 H/\
 ∀H' r a,Kp P2 H H'->gD CJ.1 E8 P2 H'->M.hU st U Y t a->fT H' r (M.cU a)->Q (.ref r) H'
theorem GJ:bc ["line","onward","end","back","right","point"] ["line","onward"] (aK (top 32)):=by constructor<;>decide
def Lj:TE:=uU u0 [] E0 (jo (nJ 1) (jo (nJ 0) mK))
theorem Nm{k:Value}{a:List Env}{E:XK}:Cg (zo iG P w K mg base ["line","onward","end","back","right","point"] "next_line" (aK (top 32)) f k A a s H E).Ly CJ.2 [("end",s.heap.objs.size+2)] "point" ["end"] [2]:=by
 have lk:∀x c,List.lookup x [(("end":Str),s.heap.objs.size+2)]=some c->x="end"/\c=s.heap.objs.size+2:=by
  grind
 refine⟨rfl,rfl,rfl,by decide,by decide,λx y c b d=>(lk x c b).1.trans (lk y c d).1.symm,λx h=>?_,λx c h=>?_,λj y i b d=>?_⟩
 ·have:∀z,z∈CJ.2.names->z.2=.free->z.1="end":=by decide
  have e:=this _ (eH h) rfl;dsimp only at e;rw[e];exact⟨_,rfl⟩
 ·obtain⟨rfl,rfl⟩:=lk x c h;rfl
 ·match j,b,d with
  | 0,b,d=>
   have e1:y="end":=(bN b).symm;have g:i=2:=(bN d).symm;subst e1 g;exact(cO rfl rfl <| by decide)
  | j+1,b,d=>simp at b
theorem OX(F:ju K "next_line" "next_line" (top 32) f fd)(Sn:fd.code=.ref c2)(hC:PySem.W.codeHdIn K c2 P2=true)(hB:BM mg base)(G:Fn P w K mg base "heading" 2 ["begin","end"] u0)(hM:mg "max"=none):dw P w K mg base iG 6 f fd ["line","onward"] (Mg P2):=by
 refine Tp F GJ (λvs H Q E h=>?_) (λA dF s H vs Q E hr h=>?_)
 ·obtain⟨q,o,S,D,st,U,Y,t,rfl,_⟩:=h;rfl
 ·obtain⟨q,o,S,D,st,U,Y,t,rfl,hq,ht,ho,HL,hD,hS,mM,Kx,k⟩:=h;have hu:=tG hr;have QM:=hr.mono (j:=2) (by decide);refine(aa (aj (a_ (i:=2) GJ.nd rfl (Or.inr rfl) (aT aS (pv 0) aq (λ_ _=>rfl)))
   (aj (a_ (i:=3) GJ.nd rfl (Or.inr rfl) (bX G QM rfl (af (pv 2) (af (aT aS (pv 0) aq (λ_ _=>rfl)) ar))))
   (aj (Hh (i:=4) rfl GJ.nd rfl rfl (JC rfl rfl rfl rfl) (eI (mr hu (pv 1) (pv 2) (λ_ _=>rfl))) (l' (own:=[("point",5)]) rfl) (λs H C cl fp=>c6 (i:=5) GJ.nd rfl (Or.inl rfl))
    (λs H C cl fp=>yw (dE (r:=ON K) (MX hr.L4) (bX G QM rfl (af (pv 2) (af (pv 5) ar))) (pv 3) (du _))) (λs H C cl fp=>pv 5))
   (aB (bg (fX (af (pv 2) (af (J4 (wk:=Nv CJ.1 E8 P2 Lj [2]) rfl hu rfl hM (MT (pv 4) (CK (mr hu (pv 1) (pv 2) (λ_ _=>rfl))))
    (A6 (k:=2) Sn hC hB rfl rfl Nm rfl hr (λ_ _ _ _ _=>rfl) (λf c s H=>bX G ?_ rfl (af (pv 1) (af (pv 0) ar))))) ar)))))))) ?_)
  ·exact(hr.in1.in1).deeper _
  refine aF hq λb c h1 h2 h3=>?_;have W:=hS _ ((HL.mem _).2 (ab t ht rfl));have no:M.dt S (M.tl t.2)≠[]:=by
   obtain⟨u,N⟩:=M.vv ht;intro z;have m:=HL.eD.2 (ab u.2 (by rw[<-N.2.2.1];exact N.2.1:M.bH st U Y (t.2,u.2)) rfl)
   simp_all
  refine(aa rfl <| aU q _ _ _ rfl rfl (dU.of h1) (aG (j:=1) rfl) <| aa rfl <| aa rfl <| aU q _ _ _ rfl rfl (dU.of h1) (aG (j:=0) rfl) <| bU c b _ _ rfl h3 h2 W.2.mid W.1.mid <| λH1 bk s1 V6=>?_);refine ae ((ho.keep s1).get (s1 _ _ h3) no) λa g1 ha=>?_;refine ae ha λas hl pa=>?_;have ol:(M.dt S (M.cU t).2).length<=S.length:=by
   unfold M.dt;rw[aZ];exact jB _ _
  refine(aa rfl <| aa rfl <| aO o _ rfl g1 <| a8 a rfl ⟨_,dM.of hl⟩ <| λL hL=>tX (xs:=as.map V.ref) (λi H'=>aW H1 H'/\∃R:List Addr,H' L=some (.aR (R.map V.ref))/\
   Paired (d6 H') R (((M.dt S (M.cU t).2).take i).filter λp=>M.gN (M.bQ (M.cU t).2 p) (M.bQ (M.cU t).2 (M.cU t).1))) (⟨aE hL,ab [] ah <| by rw[gS];exact .nil⟩) ?_ ?_ ?_)
  ·rintro i H' _ ⟨g,_⟩;exact dM.of (g _ _ hl)
  ·rintro i x0 H' Im ⟨g,R,Z,O⟩;obtain⟨x,hx,rfl⟩:=d_ Im;refine ae (Pd.get pa hx) λp v hP=>?_;have US:=tU hS (bP v);have il:i<(M.dt S (M.cU t).2).length:=(bF.1 v).1;have bl:R.length<=i:=by
    rw[ba O];grind
   refine(⟨rfl,aa rfl <| aa rfl <| bU c x _ p rfl (g _ _ (s1 _ _ h3)) (g _ _ hP) W.2.mid US.mid <| λH3 h T hh=>?_⟩);have tk:((M.dt S (M.cU t).2).take (i+1)).filter (λp=>M.gN (M.bQ (M.cU t).2 p) (M.bQ (M.cU t).2 (M.cU t).1))=((M.dt S (M.cU t).2).take i).filter (λp=>M.gN (M.bQ (M.cU t).2 p) (M.bQ (M.cU t).2 (M.cU t).1))++[p].filter (λp=>M.gN (M.bQ (M.cU t).2 p) (M.bQ (M.cU t).2 (M.cU t).1)):=by
    grind[b7,List.filter_append]
   refine(aa rfl <| aU h bk _ _ rfl rfl (dU.of (Hj hh)) (dU.of (Hj (T _ _ (g _ _ V6)))) <| aa rfl ?_);rw[NB];have LD:=T _ _ Z;refine eL (λt1=>?_) (λt1=>?_)
   ·have l1:([p].filter λp=>M.gN (M.bQ (M.cU t).2 p) (M.bQ (M.cU t).2 (M.cU t).1))=[p]:=by simp_all
    have tl:∀(o:HO) e ys,H3 e=some (.bG ys)->aX H3 L o e=some (.bG ys):=λo e ys h=>by rw[ao (a3 h LD (by intro z;cases z))];exact h
    refine(aa rfl ⟨_,LD,sz (by grind),bf (g.trans T) hL,ab (R++[x]) (by rw[ah,b9];rfl) ?_⟩);rw[tk,l1];exact fF (Paired.fx O λ_ _ z=>tl _ _ _ (T _ _ z)) (tl _ _ _ (T _ _ (g _ _ hP)))
   ·have l1:([p].filter λp=>M.gN (M.bQ (M.cU t).2 p) (M.bQ (M.cU t).2 (M.cU t).1))=[]:=by simp_all
    refine(⟨g.trans T,ab R LD ?_⟩);rw[tk,l1,gT];exact Paired.fx O λ_ _ z=>z.keep T
  ·rintro H5 ⟨g,R,Z,O⟩;have el:(as.map V.ref).length=(M.dt S (M.cU t).2).length:=by rw[aZ];exact ba pa
   rw[el,dN]at O;have s5:aW H H5:=s1.trans g;have B:=Kx.keep s5;refine ae (id B) λR0 Jp _=>?_;have done:∀(σ:L2.St) (n:Hp) (kt:L2.St->V->Hp->VK->Prop) (a:Addr) (cs:List Addr),σ[2]?=some (some (.ref c))->Kp P2 H5 n->gD CJ.1 E8 P2 n->(∀lp x Q,aW n lp->Lj (rQ σ x [2]) lp Q->kt σ x lp Q)->H5 a=some (.aR (cs.map V.ref))->Paired (d6 H5) cs (M.l8 S (M.cU t))->
     dM K n a (cs.map V.ref)/\cs.map V.ref≠[]/\∃ks:V->Int×Int,(∀H' y,aW n H'->y∈cs.map V.ref->kt σ y H' λr lp=>∃b,r=.ref b/\aW H' lp/\dv lp b (ks y))/\
      ∀H' y,aW n H'->y∈cs.map V.ref->(∀z,z∈cs.map V.ref->¬M.lexLt (ks y) (ks z))->2<=sizeLine/\∀p,H' p=none->Q (.ref p) (aX H' p (.bG [.ref c,y])):=by
    intro σ n kt a cs hσ k7 d J ha pc;have X:Paired (d6 n) cs (M.l8 S (M.cU t)):=Paired.fx pc λ_ _ z=>k7.ro Jp _ _ z;have c7:d6 n c (M.tl t.2):=k7.ro Jp _ _ (s5 _ _ h3);have sub:∀p,p∈M.l8 S (M.cU t)->Pk p:=λp v=>by
     unfold M.l8 at v;dsimp only at v;split at v
     ·exact tU hS v
     ·exact tU hS (bh.1 v).1
    refine(cO (dM.of (k7 _ _ (a3 ha Jp (by intro z;cases z)) ha)) (λz=>?_) <| ab (λy=>M.bQ (M.tl t.2) (tL n y)) (λH' y s' hy=>?_) <| λH' y s' hy Sj=>⟨by decide,λr hr=>?_⟩)
    ·have z:cs=[]:=List.map_eq_nil_iff.1 z;rw[z]at pc;have:=ba pc;exact M.K1 HL ht (List.eq_nil_of_length_eq_zero this.symm)
    ·obtain⟨x,hx,rfl⟩:=aw.1 hy;refine ae (mv X x hx) λp v hP=>?_;refine J H' (.ref x) _ s' (ab (.ref c) ?_ <| aa rfl <| bU c x _ p rfl (s' _ _ c7) (s' _ _ hP) W.2.mid ((sub p v).mid) <| λH3 bb T hb=>(a8 bb rfl T ?_))
     ·show[(σ[2]?).join][0]?=_;rw[hσ];rfl
     grind[mw]
    ·obtain⟨x,hx,rfl⟩:=aw.1 hy;refine ae (mv X x hx) λm hm Wl=>?_;refine ae (M.Kf hD HL ht hm λp v=>by
      obtain⟨i,hi⟩:=nh.1 v;have pl:=ba X;obtain⟨x',Tu⟩:∃x',cs[i]?=some x':=⟨_,cQ (by rw[pl];exact(bF.1 hi).1)⟩
      refine ae (Pd.get X Tu) λp' Sh Ss=>?_;rw[hi]at Sh;cases Sh;have:=Sj (.ref x') (aw.2 (ab x' (bP Tu) rfl));grind[mw]) λu N eu=>?_
     have sr:aW H' (aX H' r (.bG [.ref c,.ref x])):=aE hr;refine k _ r u (λe o ne h=>sr _ _ (s' _ _ (k7 e o ne (s5 _ _ h)))) ((d.keep s').keep sr) N ?_;rw[eu];exact(aO c x ah (sr _ _ (s' _ _ c7)) <| sr _ _ (s' _ _ Wl))
   refine(aa rfl <| aa rfl <| ab (!(R.map V.ref).isEmpty) (.inl (aa (dM.of Z) rfl)) ?_);refine eL (λt1=>?_) (λt1=>?_)
   ·refine⟨B,λn kt k7 d J=>?_⟩;have ce:M.l8 S (M.cU t)=(M.dt S (M.cU t).2).filter λp=>M.gN (M.bQ (M.cU t).2 p) (M.bQ (M.cU t).2 (M.cU t).1):=by
     unfold M.l8;dsimp only;rw[ai];intro z;have z:=List.isEmpty_iff.1 z;rw[z]at O;cases O;simp at t1
    refine fb (done _ n kt L R rfl k7 d J Z (by rw[ce];exact O)) λd1 d2 zz=>ae zz λks d3 d4=>?_;exact(eK L _ rfl d1 d2 <| ab ks d3 d4)
   ·have Wb:R=[]:=by
     simp_all
    have ce:M.l8 S (M.cU t)=M.dt S (M.cU t).2:=by
     unfold M.l8;dsimp only;rw[ak];rw[Wb]at O;have:=ba O;grind
    have g5:=g1;have Wx:sX H5 o (.ref c) (some (.ref a)):=by
     rcases g1 with⟨I,kk,e,ey,l⟩ | ⟨I,kk,bb,e,ey,eb,l⟩
     ·have ey:V.ref c=kV kk:=ey;cases kk <;> cases ey
     ·refine .inr (eQ I kk bb ?_ ey (g _ _ eb) l);rcases e with e | ⟨oo,e⟩
      ·exact .inl (g _ _ e)
      ·exact .inr ⟨oo,g _ _ e⟩
    refine(aa rfl <| aa rfl <| eK o _ rfl Wx B <| λn kt k7 d J=>?_);refine fb (done _ n kt a as rfl k7 d J (g _ _ hl) (by rw[ce];exact Paired.fx pa λ_ _ z=>z.keep g)) λd1 d2 zz=>ae zz λks d3 d4=>?_;exact(eK a _ rfl d1 d2 <| ab ks d3 d4)
theorem LL{p:P3}(h:d6 H a p):Dp K H (.ref a) (.tuple [.int p.1,.int p.2.1,.int p.2.2]):=.bG (dU.of h) (.cons (.int _) (.cons (.int _) (.cons (.int _) .nil)))
abbrev QI(k:Ln):PyData:=.tuple [.tuple [.int k.1.1,.int k.1.2.1,.int k.1.2.2],.tuple [.int k.2.1,.int k.2.2.1,.int k.2.2.2]]
theorem LM{k:Ln}(h:fT H a k):Dp K H (.ref a) (QI k):=by
 refine aF h λb c f e d=>?_;exact .bG (dU.of f) (.cons (LL e) (.cons (LL d) .nil))
theorem NG(k l:Ln):PyData.eqv (QI k) (QI l)=decide (k=l):=by
 simp only[QI,PyData.eqv,PyData.eqvAll,mX];grind
theorem C2:∀l v,M.aR t (l++[v])=v:=λl v=>M.lst_snoc l t v
theorem w_{s:Ql55.Both}{U:Nat}{Y:Bool}:∀{pre:List (Ql55.At×Ql55.At)} {t v:Ql55.At×Ql55.At} {rest:List (Ql55.At×Ql55.At)},M.zH s U Y t (pre++v::rest)->M.hU s U Y (M.aR t pre) v
 | [],_,_,_,h=>h.1
 | _::pre,_,_,_,h=>w_ (pre:=pre) h.2
def Mj(P2:Addr):Sp:=λvs H Q _=>∃q o S D st U Y t,vs=[.ref q,.ref o]/\fT H q (M.cU t)/\M.bH st U Y t/\ma H o S/\M.wN S st U Y/\M.Draws D st/\(∀d,d∈S->zK d)/\S.length<=160000/\gD CJ.1 E8 P2 H/\
 ∀H' r l,Kp P2 H H'->gD CJ.1 E8 P2 H'->M.Jj st U Y t l->zL H' r ((t::l).map M.cU)->(t::l).length<=S.length->Q (.ref r) H'
theorem JT:bc ["line","onward","loop","after"] ["line","onward"] (aK (top 33)):=by constructor<;>decide
theorem KR{st:Ql55.Both}{U:Nat}{Y:Bool}{S:List Ln}(g:M.wN S st U Y){l:List (Ql55.At×Ql55.At)}(C:M.Jj st U Y t l):(t::l).length<=S.length:=by
 have:=M.fu (l:=(t::l).map M.cU) (m:=S) (M.g_ C.nodup λa _ b _ e=>M.iY e) λd f=>by
  obtain⟨u,c,rfl⟩:=aw.1 f;exact(g.mem _).2 (ab u (C.F'.lines C.line u c) rfl)
 simp_all
theorem O1(F:ju K "loop_from" "loop_from" (top 33) f fd)(G:Fn P w K mg base "next_line" 6 ["line","onward"] (Mg P2)):dw P w K mg base iG 7 f fd ["line","onward"] (Mj P2):=by
 refine F.ok JT (λvs H Q E h=>?_) (λwd A dF s H vs Q E hr h=>?_)
 ·obtain⟨q,o,S,D,st,U,Y,t,rfl,_⟩:=h;rfl
 ·obtain⟨q,o,S,D,st,U,Y,t,rfl,hq,ht,ho,HL,hD,hS,W,Kx,k⟩:=h;refine(aa (aj (a_ (i:=2) JT.nd rfl (Or.inl rfl) (eC (af (pv 0) ar)))
   (aj (a_ (i:=3) JT.nd rfl (Or.inl rfl) (bX G hr rfl (af (pv 0) (af (pv 1) ar))))
   (aj (rD dW (dE (Hz hr.units) (pv 3) (pv 0) (du _))
    (aj (fJ (kK gf iW iX fV (pv 2) (af (pv 3) ar)))
    (aB (a_ (i:=3) JT.nd rfl (Or.inl rfl) (bX G hr rfl (af (pv 3) (af (pv 1) ar)))))))
   (aB (bg (pv 2)))))) ?_)
  obtain⟨l,C⟩:=M.NN (s:=st) (U:=U) (Y:=Y) (S:=S.map M.Ro) (λu hu=>aw.2 (aa ((HL.mem _).2 (ab u hu rfl)) <| M.tN u)) ht;have cl:=KR HL C;refine ae (id Kx) λR0 p _=>?_;refine(cz rfl (by show 1<=sizeLine;decide) <| λL hL=>?_);have d:aW H (aX H L (.aR [.ref q])):=aE hL;have Z:aX H L (.aR [.ref q]) L=some (.aR (([q]:List Addr).map V.ref)):=ah;generalize aX H L (.aR [.ref q])=H0 at *;refine(aa rfl <| aa rfl ⟨q,o,S,D,st,U,Y,t,rfl,hq.keep d.gY,ht,ho.keep d,HL,hD,hS,W,Kx.keep d,λH1 r u k1 O N Io=>?_⟩);have P0:=d _ _ p;have kb:Kp P2 H H1:=λc o nc h=>k1 c o nc (d _ _ h);refine(ab (λm σ H'=>(∀c o,c≠P2->c≠L->H0 c=some o->H' c=some o)/\(∃ps,H' P2=some (.lq ps))/\gD CJ.1 E8 P2 H'/\∃pre rest u a b,l=pre++rest/\rest.length=m/\M.hU st U Y (M.aR t pre) u/\
   fT H' a (M.cU u)/\H' L=some (.aR (b.map V.ref))/\Paired (fT H') b ((t::pre).map M.cU)/\σ=[some (.ref q),some (.ref o),some (.ref L),some (.ref a)]) (⟨l.length,λc o I _ h=>k1 c o I h,let ⟨ps,h,_⟩:=id O;⟨ps,h⟩,O,sZ [] l u r [q] rfl rfl N Io (k1 _ _ (a3 Z P0 (by intro z;cases z)) Z) (.cons ((hq.keep d.gY).keep (k1.ro P0)) .nil) rfl⟩) ?_)
  rintro m σ H' ⟨kp,⟨QF,N_⟩,R,pre,rest,u,a,b,el,rfl,N,Tx,g,pa,rfl⟩;have n:∀c j,H0 c=some (.bG j)->H' c=some (.bG j):=λc j h=>kp c _ (a3 h P0 (by intro z;cases z)) (a3 h Z (by intro z;cases z)) h;have Jo:=(hq.keep d.gY).keep n;have Yf:=ho.keep d;have Yg:ma H' o S:=by
   obtain⟨mm,⟨B,g2,y,g4⟩,g5⟩:=ho;refine(ab mm ⟨kp _ _ (a3 B p (by intro z;cases z)) (aQ B hL) (d _ _ B),g2,y,λx hx=>?_⟩ g5);refine ae (g4 x hx) λqs g6 g7=>?_;exact(ab qs (kp _ _ (a3 g6 p (by intro z;cases z)) (aQ g6 hL) (d _ _ g6)) <| Paired.fx g7 λ_ _ z=>n _ _ (d _ _ z))
  refine(aa rfl <| aa rfl <| e8 _ _ (LM Tx) (LM Jo) rfl rfl <| aa rfl ?_);rw[NG];have al:b.length=pre.length+1:=by rw[ba pa,aZ,dj]
  have ll:l.length=pre.length+rest.length:=by simp_all
  rw[dj]at cl;cases rest with
  | nil=>
   rw[gT]at el;subst el;have:u=t:=M.my N C.back;subst this;rw[bE rfl];refine Ig (aa rfl ?_);refine k H' L l (λc o nc h=>?_) R C (ab b g pa) (by omega);exact kp c o nc (aQ h hL) (d _ _ h)
  | cons v rest=>
   have hv:M.hU st U Y (M.aR t pre) v:=w_ (by rw[<-el];exact C.F');have:u=v:=M.my N hv;subst this;have ne:u≠t:=by
    intro z;have hn:=(cR.1 C.nodup).1
    simp_all
   rw[di (λz=>ne (M.iY z))];refine PK (ab (fun σ' H'=>_) (fun σ' H' h=>(aa (ky _) h)) ?_);refine(cz rfl (.inl ⟨rfl,_,dM.of g⟩) <| aa rfl <| fh L _ _ rfl rfl g (sz (by grind)) ?_);have PL:P2≠L:=a3 N_ g (by intro z;cases z);have tl:∀o e j,H' e=some (.bG j)->aX H' L o e=some (.bG j):=λo e j h=>by rw[ao (a3 h g (by intro z;cases z))];exact h
   have Si:ma (aX H' L (.aR (b.map V.ref++[.ref a]))) o S:=by
    obtain⟨mm,⟨B,g2,y,g4⟩,g5⟩:=ho;have kq:∀c o,c≠P2->c≠L->H0 c=some o->aX H' L (.aR (b.map V.ref++[.ref a])) c=some o:=λc o I X h=>by rw[ao X];exact kp c o I X h
    refine(ab mm ⟨kq _ _ (a3 B p (by intro z;cases z)) (aQ B hL) (d _ _ B),g2,y,λx hx=>?_⟩ g5);refine ae (g4 x hx) λqs g6 g7=>?_;exact(ab qs (kq _ _ (a3 g6 p (by intro z;cases z)) (aQ g6 hL) (d _ _ g6)) <| Paired.fx g7 λ_ _ z=>tl _ _ _ (n _ _ (d _ _ z)))
   have Kw:gD CJ.1 E8 P2 (aX H' L (.aR (b.map V.ref++[.ref a]))):=by
    refine aH R λps B g2 y=>?_;refine(a8 ps (by rw[ao PL];exact B) g2 ?_);rcases y with y | ⟨cc,oo,y,g4⟩
    ·exact .inl y
    ·exact .inr (br cc oo y <| by rw[ao (a3 g4 g (by intro z;cases z))];exact g4)
   have T_:aX H' L (.aR (b.map V.ref++[.ref a])) P2=some (.lq QF):=by rw[ao PL];exact N_
   have T1:aX H' L (.aR (b.map V.ref++[.ref a])) L=some (.aR ((b++[a]).map V.ref)):=by rw[ah,b9];rfl
   have R9:∀c o,c≠P2->c≠L->H0 c=some o->aX H' L (.aR (b.map V.ref++[.ref a])) c=some o:=λc o I X h=>by rw[ao X];exact kp c o I X h
   have T:fT (aX H' L (.aR (b.map V.ref++[.ref a]))) a (M.cU u):=Tx.keep λe j h=>tl _ e j h;have U0:Paired (fT (aX H' L (.aR (b.map V.ref++[.ref a])))) (b++[a]) ((t::(pre++[u])).map M.cU):=by
    rw[<-iT,b9];exact fF (Paired.fx pa λ_ _ z=>z.keep λe j h=>tl _ e j h) T
   generalize aX H' L (.aR (b.map V.ref++[.ref a]))=H2 at *;refine(aa rfl <| aa rfl ⟨a,o,S,D,st,U,Y,u,rfl,T,N.2.1,Si,HL,hD,hS,W,Kw,λH3 r3 u3 k3 J N3 QL=>?_⟩);refine(oX (λc o I X h=>k3 c o I (R9 c o I X h)) (let ⟨ps,h,_⟩:=id J;⟨ps,h⟩) J <| sZ (pre++[u]) rest u3 r3 (b++[a]) (by simp_all) rfl (by rw[C2];exact N3) QL (k3 _ _ (a3 T1 T_ (by intro z;cases z)) T1) (Paired.fx U0 λ_ _ z=>z.keep (k3.ro T_)) rfl)
theorem Bd.Nd{a b:Int}(h:Bd k a)(g:Bd l b)(c:k+l+1<=60000000):IntMulOk a b:=Wk.yQ (k:=k+l+1) (h.mono (by omega)) (g.mono (by omega)) (by omega) c
theorem DL:∀(a:List Ln),(∀d,d∈a->zK d)->∀(z:Int×Int) (k:Nat),Bd k z.1->Bd k z.2->Bd (k+128*a.length) (a.foldl M.cA z).1/\Bd (k+128*a.length) (a.foldl M.cA z).2
 | [],_,_,_,c,b=>⟨c,b⟩
 | d::a,h,z,k,c,b=>by
  obtain⟨⟨⟨q,p,g⟩,_⟩,⟨o,n,f⟩,_⟩:=h d (by simp);have j:Bd (k+127) (z.1*d.1.2.2*d.2.2.2):=((c.mul g).mul f).mono (by omega);have i:Bd (k+127) ((d.1.1*d.2.2.1-d.2.1*d.1.2.1)*z.2):=(((q.mul n).sub (o.mul p)).mul b).mono (by omega);have e1:Bd (k+128) (M.cA z d).1:=j.add i;have m:Bd (k+128) (M.cA z d).2:=((b.mul g).mul f).mono (by omega);have:=DL a (λe l=>h e (by simp[l])) (M.cA z d) (k+128) e1 m;grind
def Md:Sp:=λvs H Q _=>∃l a,vs=[.ref l]/\zL H l a/\(∀d,d∈a->zK d)/\a.length<=160000/\Q (.bl (decide (0<(M.DM a).1))) H
theorem AN:bc ["loop","over","under","line","p","q"] ["loop"] (aK (top 34)):=by constructor<;>decide
theorem OU(F:ju K "turns_left" "turns_left" (top 34) f fd):dw P w K mg base iG 1 f fd ["loop"] Md:=by
 refine F.ok AN (λvs H Q E h=>?_) (λwd A x s H vs Q E hr h=>?_)
 ·refine bI h λl a g _=>?_;subst g;rfl
 ·obtain⟨l,a,rfl,⟨S,I,D⟩,J,G,k⟩:=h;refine(aa (aj (a_ (i:=1) AN.nd rfl (Or.inl rfl) aq) (aj (a_ (i:=2) AN.nd rfl (Or.inl rfl) aq)
   (aj (gE dW rfl (eI (pv 0)) (c6 (i:=3) AN.nd rfl (Or.inl rfl))
    (aj (a_ (i:=4) AN.nd rfl (Or.inl rfl) (aT aS (pv 3) aq (λ_ _=>rfl)))
    (aj (a_ (i:=5) AN.nd rfl (Or.inl rfl) (aT aS (pv 3) aq (λ_ _=>rfl)))
    (aj (a_ (i:=1) AN.nd rfl (Or.inl rfl) (a7 iJ (a7 bB (a7 bB (pv 1) (aT aS (pv 4) aq (λ_ _=>rfl))) (aT aS (pv 5) aq (λ_ _=>rfl)))
     (a7 bB (a7 fM (a7 bB (aT aS (pv 4) aq (λ_ _=>rfl)) (aT aS (pv 5) aq (λ_ _=>rfl))) (a7 bB (aT aS (pv 5) aq (λ_ _=>rfl)) (aT aS (pv 4) aq (λ_ _=>rfl)))) (pv 2))))
    (aB (a_ (i:=2) AN.nd rfl (Or.inl rfl) (a7 bB (a7 bB (pv 2) (aT aS (pv 4) aq (λ_ _=>rfl))) (aT aS (pv 5) aq (λ_ _=>rfl)))))))))
   (aB (bg (kJ xn (pv 1) aq (du _))))))) ?_)
  refine(aa rfl <| a8 l rfl ⟨_,dM.of I⟩ <| eV (xs:=S.map V.ref) (λi σ H'=>H'=H/\∃v u t,σ=[some (.ref l),some (.int ((a.take i).foldl M.cA (0,1)).1),some (.int ((a.take i).foldl M.cA (0,1)).2),v,u,t]) ⟨rfl,none,none,none,rfl⟩ ?_ ?_ ?_)
  ·rintro i σ H' _ ⟨rfl,_⟩;exact dM.of I
  ·rintro i q0 σ H' y ⟨rfl,v,u,t,rfl⟩;refine ae (d_ y) λq Z g=>?_;subst g;refine ae (Pd.get D Z) λd B W=>aF W λb c L o m=>?_;have il:i<a.length:=(bF.1 B).1;obtain⟨⟨⟨U,T,p⟩,_⟩,⟨R,O,N⟩,_⟩:=J d (bP B);have X:=DL (a.take i) (λe he=>J e (ng he)) (0,1) 2 (by show(0:Nat)<4;decide) (by show(1:Nat)<4;decide);have Y:(a.take (i+1)).foldl M.cA (0,1)=M.cA ((a.take i).foldl M.cA (0,1)) d:=by rw[b7 B,List.foldl_append];rfl
   have lt:(a.take i).length<=160000:=by grind
   generalize (a.take i).foldl M.cA (0,1)=z at *;generalize (a.take i).length=n at *;refine cE X λC r=>?_;refine(aa rfl <| aU q _ _ _ rfl rfl (dU.of L) (aG (j:=0) rfl) <| aa rfl <| aU q _ _ _ rfl rfl (dU.of L) (aG (j:=1) rfl) <| aa rfl <| aa rfl <| aU b _ _ _ rfl rfl (dU.of o) (aG (j:=2) rfl) <| bW rfl rfl (C.Nd p (by omega)) <| aa rfl <| aU c _ _ _ rfl rfl (dU.of m) (aG (j:=2) rfl) <| bW rfl rfl ((C.mul p).Nd N (by omega)) <| aa rfl <| aU b _ _ _ rfl rfl (dU.of o) (aG (j:=0) rfl) <| aa rfl <| aU c _ _ _ rfl rfl (dU.of m) (aG (j:=1) rfl) <| bW rfl rfl (U.Nd O (by decide)) <| aa rfl <| aU c _ _ _ rfl rfl (dU.of m) (aG (j:=0) rfl) <| aa rfl <| aU b _ _ _ rfl rfl (dU.of o) (aG (j:=1) rfl) <| bW rfl rfl (R.Nd T (by decide)) <| bD rfl rfl <| aa rfl <| bW rfl rfl (((U.mul O).sub (R.mul T)).Nd r (by omega)) <| bD rfl rfl <| aa rfl <| aa rfl <| aU b _ _ _ rfl rfl (dU.of o) (aG (j:=2) rfl) <| bW rfl rfl (r.Nd p (by omega)) <| aa rfl <| aU c _ _ _ rfl rfl (dU.of m) (aG (j:=2) rfl) <| e8 _ _ rfl rfl ((r.mul p).Nd N (by omega)) rfl ⟨some (.ref q),some (.ref b),some (.ref c),?_⟩);rw[Y];rfl
  ·rintro σ H' ⟨rfl,v,u,t,rfl⟩;have el:(S.map V.ref).length=a.length:=by rw[aZ];exact ba D
   rw[el,dN];exact(aa rfl <| bD rfl rfl k)
def Pl:HO->Prop
 | .ext _=>False
 | .lq _=>False
 | _=>True
def Kt(H H':Hp):Prop:=∀c o,Pl o->H c=some o->H' c=some o
theorem Kp.kt(k:Kp d H H'){u:HO}(e:H d=some u)(b:¬Pl u):Kt H H':=λc o a h=>k c o (a3 h e λz=>b (by rw[<-z];exact a)) h
theorem Kt.gY(k:Kt H H'):∀c a,H c=some (.bG a)->H' c=some (.bG a):=λc a h=>k c _ trivial h
theorem ma.kt(h:ma H d L)(k:Kt H H'):ma H' d L:=by
 obtain⟨m,⟨g,f,e,c⟩,b⟩:=h;refine(ab m ⟨k _ _ trivial g,f,e,λx a=>?_⟩ b);refine ae (c x a) λl j i=>?_;exact(ab l (k _ _ trivial j) <| Paired.fx i λ_ _ z=>k.gY _ _ z)
theorem zL.kt{l:Addr}{xs:List Ln}(h:zL H l xs)(k:Kt H H'):zL H' l xs:=by
 refine ae h λc b a=>?_;exact(ab c (k _ _ trivial b) <| Paired.fx a λ_ _ z=>z.keep k.gY)
theorem lj.kp(h:lj P w H d I)(k:Kp p H H'){ps:Array Value}(a:H p=some (.lq ps)):lj P w H' d I:=by
 refine fb h λz c b=>ae b λxs e r=>?_;exact(cO z c <| ab xs (k _ _ (a3 e a (by intro z;cases z)) e) <| KL.keep r (k.ro a))
def GK(I:List (Ln×V))(l:List Ln):Prop:=(∀k,(gz I k).isSome=true↔k∈l)/\I.length<=l.length
theorem GK.put{l:List Ln}(h:GK I l)(k:Ln)(v:V):GK (hW I k v) (l++[k]):=by
 refine⟨λj=>?_,?_⟩
 ·rw[Gf,cJ,eP]
  by_cases e:j=k
  ·simp[e]
  ·rw[ai e,h.1 j];simp[e]
 ·have:=je I k v;have:=h.2;grind
section
variable{s:Ql55.Both}{U:Nat}{Y:Bool}
theorem AX:∀{l:List (Ql55.At×Ql55.At)} {t v:Ql55.At×Ql55.At},M.zH s U Y t l->v∈t::l->v=M.aR t l\/∃w,w∈l/\M.hU s U Y v w
 | [],t,v,_,h=>.inl (show v=t by simpa using h)
 | y::l,t,v,p,h=>by
  rcases aY.1 h with e | h
  ·rw[e];exact .inr (ab y (by simp) p.1)
  ·rcases AX p.2 h with e | ⟨w,hw,N⟩
   ·exact .inl e
   ·exact .inr (ab w (by simp[hw]) N)
theorem IL{l:List (Ql55.At×Ql55.At)}(C:M.Jj s U Y t l){v a:Ql55.At×Ql55.At}(b:v∈t::l)(N:M.hU s U Y v a):a∈t::l:=by
 rcases AX C.F' b with e | ⟨w,hw,c⟩
 ·subst e;rw[M.my N C.back];simp
 ·rw[M.my N c];simp[hw]
theorem vg{T:Ql55.At×Ql55.At->Prop}(cl:∀v b,T v->M.hU s U Y v b->T b):∀{l:List (Ql55.At×Ql55.At)} {t u:Ql55.At×Ql55.At},M.zH s U Y t l->u∈t::l->T u->T (M.aR t l)
 | [],t,u,_,h,a=>by
  have:u=t:=by simpa using h
  rw[this]at a;exact a
 | y::l,t,u,p,h,a=>by
  rcases aY.1 h with e | h
  ·rw[e]at a;exact vg cl (l:=l) (t:=y) (u:=y) p.2 (by simp) (cl _ _ a p.1)
  ·exact vg cl (l:=l) (t:=y) p.2 h a
end
abbrev QU:=List ((Ql55.At×Ql55.At)×List (Ql55.At×Ql55.At))
noncomputable def all2(R:QU):List (Ql55.At×Ql55.At):=R.flatMap λc=>c.1::c.2
theorem nU{R:QU}:t∈all2 R↔∃c,c∈R/\t∈c.1::c.2:=bV
theorem xY(R:QU)(c:(Ql55.At×Ql55.At)×List (Ql55.At×Ql55.At)):all2 (R++[c])=all2 R++(c.1::c.2):=by
 unfold all2
 simp_all
theorem wo:∀{R:QU},(all2 R).Nodup->R.Pairwise λc d=>∀t,t∈c.1::c.2->t∉d.1::d.2
 | [],_=>.nil
 | c::R,h=>by
  have h:((c.1::c.2)++all2 R).Nodup:=h;refine fb (jY.1 h) λ_ g f=>?_;refine .cons (λd e t b a=>?_) (wo g);exact f t b t (nU.2 (ab d e a)) rfl
def Ms(P2:Addr):Sp:=λvs H Q _=>∃l S D st U Y,vs=[.ref l]/\zL H l S/\M.wN S st U Y/\M.Draws D st/\(∀d,d∈S->zK d)/\S.length<=160000/\gD CJ.1 E8 P2 H/\
 ∀H' R,Kp P2 H H'->gD CJ.1 E8 P2 H'->M.pV st U Y R->Q (.int ((R.filter M.dI).length:Nat)) H'
theorem AO:bc ["lines","onward","gone","count","line","loop","passed"] ["lines"] (aK (top 35)):=by constructor<;>decide
theorem Pf(F:ju K "count_bounded" "count_bounded" (top 35) f fd)(G1:Fn P w K mg base "ends_by_begin" 1 ["lines"] JH)(G2:Fn P w K mg base "loop_from" 7 ["line","onward"] (Mj P2))(G3:Fn P w K mg base "turns_left" 1 ["loop"] Md):
  dw P w K mg base iG 8 f fd ["lines"] (Ms P2):=by
 refine F.ok AO (λvs H Q E h=>?_) (λwd A dF s H vs Q E hr h=>?_)
 ·refine e9 h λl S D st U zz=>ae zz λY n _=>?_;subst n;rfl
 ·refine e9 h λl S D st U zz=>aH zz λY n hl zz=>sj zz λHL hD hS mM Kx k=>?_;subst n;have B:=PZ hr;have Io:=hr.mono (j:=1) (by decide);refine(aa (aj (a_ (i:=1) AO.nd rfl (Or.inl rfl) (bX G1 Io rfl (af (pv 0) ar)))
   (aj (a_ (i:=2) AO.nd rfl (Or.inl rfl) Bb)
   (aj (a_ (i:=3) AO.nd rfl (Or.inl rfl) aq)
   (aj (gE dW rfl (eI (pv 0)) (c6 (i:=4) AO.nd rfl (Or.inl rfl))
    (aB (eR (Hg (CM B (pv 4) (pv 2)))
     (aj (a_ (i:=5) AO.nd rfl (Or.inl rfl) (bX G2 hr rfl (af (pv 4) (af (pv 1) ar))))
     (aj (gE dW rfl (eI (pv 5)) (c6 (i:=6) AO.nd rfl (Or.inl rfl)) (aB (A2 B (pv 2) (pv 6) Ef rfl)))
     (aB (eR (fW (bX G3 Io rfl (af (pv 5) ar))) (aB (yy (i:=3) AO.nd rfl (Or.inl rfl) aq Ik)) cv)))) cv)))
   (aB (bg (pv 3))))))) ?_)
  refine(aa rfl <| eK l S rfl hl (by omega) <| λH1 o s1 ho=>?_);intro g hg VY;refine ae (id Kx) λR0 Jp _=>?_;have VX:H g=none:=s1.free hg;have sg:aW H1 (aX H1 g (xD P w g [])):=aE hg;refine ae hl λas Ga pa=>?_;refine(aa rfl <| a8 l rfl ⟨_,dM.of (sg _ _ (s1 _ _ Ga))⟩ <| eV (xs:=as.map V.ref) (λi σ H'=>Kp P2 H H'/\gD CJ.1 E8 P2 H'/\ma H' o S/\∃R I,lj P w H' g I/\GK I ((all2 R).map M.cU)/\(∀c,c∈R->M.Jj st U Y c.1 c.2)/\(all2 R).Nodup/\
   (∀d,d∈S.take i->d∈(all2 R).map M.cU)/\∃W r2 r3,σ=[some (.ref l),some (.ref o),some (.ref g),some (.int ((R.filter M.dI).length:Nat)),W,r2,r3])
   (oX (λc u _ h=>sg _ _ (s1 _ _ h)) ((Kx.keep s1).keep sg) (ho.keep sg) ⟨[],[],VY,⟨λk=>by simp[all2,Gg],a0 _⟩,by simp,by simp[all2],by simp,⟨none,none,none,rfl⟩⟩) ?_ ?_ ?_)
  ·rintro i σ H' _ ⟨kp,_⟩;exact dM.of (kp _ _ (a3 Ga Jp (by intro z;cases z)) Ga)
  ·rintro i q0 σ H' Ip ⟨kp,p,Z,R,I,QP,gk,y,nd,SU,W,r2,r3,rfl⟩;refine ae (d_ Ip) λq hq n=>?_;subst n;refine ae (Pd.get pa hq) λd hd hK=>?_;refine ae ((HL.mem d).1 (bP hd)) λt ht n=>?_;subst n;have Jo:=hK.keep (kp.ro Jp);have U_:∀u,u∈all2 R->M.bH st U Y u:=λu B=>by
    refine ae (nU.1 B) λc hc Vq=>?_;exact(y c hc).F'.lines (y c hc).line u Vq
   have al:(all2 R).length<=S.length:=by
    have:=M.fu (l:=(all2 R).map M.cU) (m:=S) (M.g_ nd λa _ b _ e=>M.iY e) λd hd=>by
     refine ae (aw.1 hd) λu B n=>?_;subst n;exact(HL.mem _).2 (ab u (U_ u B) rfl)
    simp_all
   refine(aa rfl <| aa rfl <| aU g I q (M.cU t) rfl QP rfl Jo <| aa rfl ?_);refine eL (λt1=>?_) (λt1=>?_)
   ·have nt:t∉all2 R:=by
     intro z;have:=(gk.1 (M.cU t)).2 (aw.2 (ab t z rfl))
     simp_all
    refine(aa rfl <| aa rfl ⟨q,o,S,D,st,U,Y,t,rfl,Jo,ht,Z,HL,hD,hS,mM,p,λH2 r cl k2 Kw C QM VN=>?_⟩);refine ae (id p) λQF N_ _=>?_;have Qd:=QP.kp k2 N_;have Si:=Z.Vb k2 N_;have R9:Kp P2 H H2:=kp.trans k2;refine ae (id Kw) λTi TV _=>?_;refine ae QM λbs N' pb=>?_;refine fb (id Qd) λ_ _ zz=>ae zz λXX G _=>?_;have gb:r≠g:=a3 N' G (by intro z;cases z);have gP:P2≠g:=a3 TV G (by intro z;cases z);refine(aa rfl <| a8 r rfl ⟨_,dM.of N'⟩ <| eV (xs:=bs.map V.ref) (λj σ O=>Kp g H2 O/\(∃I,lj P w O g I/\GK I ((all2 R).map M.cU++((t::cl).map M.cU).take j))/\∃W,σ=[some (.ref l),some (.ref o),some (.ref g),some (.int ((R.filter M.dI).length:Nat)),some (.ref q),some (.ref r),W])
     (cO (Kp.refl _ _) (ab I Qd <| by simp_all) ⟨r3,rfl⟩) ?_ ?_ ?_)
    ·rintro j σ O _ ⟨X,_⟩;exact dM.of (X _ _ gb N')
    ·rintro j x0 σ O Im ⟨X,⟨R8,J,L⟩,W,rfl⟩;refine ae (d_ Im) λx hx n=>?_;subst n;refine ae (Pd.get pb hx) λdd TR hX=>?_;have jl:j<((t::cl).map M.cU).length:=(bF.1 TR).1;rw[aZ]at jl;have kl:=L.2;rw[dC,aZ,fH,aZ]at kl;refine(aa rfl <| aa rfl <| bU g R8 x dd rfl J rfl (hX.keep (X.gY G (by intro xs z;cases z))) (sz (by omega)) <| λxs Vn=>(cO (X.aX _) (aa Vn ?_) ⟨_,rfl⟩));rw[b7 TR,<-ia];exact L.put dd _
    ·rintro σ O ⟨X,⟨R8,J,L⟩,W,rfl⟩;have el:(bs.map V.ref).length=((t::cl).map M.cU).length:=by rw[aZ];exact ba pb
     rw[el,dN]at L;have Tr:Kt H2 O:=X.kt G (λz=>z);have N7:zL O r ((t::cl).map M.cU):=zL.kt (ab bs N' pb) Tr;have SW:∀u,u∈t::cl->M.bH st U Y u:=C.F'.lines C.line;have UU:∀d,d∈(t::cl).map M.cU->zK d:=λd hd=>by
      refine ae (aw.1 hd) λu B n=>?_;subst n;exact hS _ ((HL.mem _).2 (ab u (SW u B) rfl))
     have Xo:∀u,u∈all2 R->∀v,v∈t::cl->u≠v:=by
      rintro u B v hv rfl;have cls:∀v v',v∈all2 R->M.hU st U Y v v'->v'∈all2 R:=λv v' h N=>by
       refine ae (nU.1 h) λc hc Vp=>?_;exact nU.2 (ab c hc <| IL (y c hc) Vp N)
      exact nt (cls _ _ (vg (T:=λv=>v∈all2 R) cls C.F' hv B) C.back)
     have e2:(all2 (R++[(t,cl)])).map M.cU=(all2 R).map M.cU++(t::cl).map M.cU:=by rw[xY,b9]
     have fin:∀z W,z=(((R++[(t,cl)]).filter M.dI).length:Nat)->Kp P2 H O/\gD CJ.1 E8 P2 O/\ma O o S/\∃R I,lj P w O g I/\GK I ((all2 R).map M.cU)/\(∀c,c∈R->M.Jj st U Y c.1 c.2)/\(all2 R).Nodup/\
       (∀d,d∈S.take (i+1)->d∈(all2 R).map M.cU)/\∃s1 s2 s3,[some (V.ref l),some (.ref o),some (.ref g),some (.int z),some (.ref q),some (.ref r),W]=[some (.ref l),some (.ref o),some (.ref g),some (.int ((R.filter M.dI).length:Nat)),s1,s2,s3]:=by
      rintro z W rfl;refine(oX (λc u nc h=>X c u (aQ h VX) (R9 c u nc h)) ?_ (Si.kt Tr) ⟨R++[(t,cl)],R8,J,by rw[e2];exact L,λc hc=>?_,?_,λd hd2=>?_,⟨_,_,_,rfl⟩⟩)
      ·refine aH Kw λps g1 g2 g3=>?_;refine(a8 ps (X _ _ gP g1) g2 ?_);rcases g3 with g3 | ⟨cc,oo,g3,g4⟩
       ·exact .inl g3
       ·exact .inr (br cc oo g3 <| X _ _ (a3 g4 G (by intro z;cases z)) g4)
      ·grind
      ·rw[xY];exact jY.2 (cO nd C.nodup Xo)
      ·rw[e2];rw[b7 hd]at hd2;grind
     refine(aa rfl <| e8 r _ rfl N7 UU (by grind) <| aa rfl ?_);have ti:decide (0<(M.DM ((t::cl).map M.cU)).1)=M.dI (t,cl):=by
      unfold M.dI;exact decide_eq_decide.2 (M.Gj (t::cl))
     rw[ti];refine eL (λt2=>?_) (λt2=>?_)
     ·refine(aa rfl <| bD rfl rfl <| fin _ _ ?_);rw[lN,h9,ak t2,dC];rfl
     ·refine fin _ _ ?_;rw[lN,h9,ai t2,dC];rfl
   ·have X0:M.cU t∈(all2 R).map M.cU:=by
     refine(gk.1 _).1 ?_;grind
    refine(oX kp p Z ⟨R,I,QP,gk,y,nd,λd N9=>?_,⟨_,_,_,rfl⟩⟩);rw[b7 hd]at N9;grind
  ·rintro σ H' ⟨kp,p,Z,R,I,QP,gk,y,nd,SU,W,r2,r3,rfl⟩;have el:(as.map V.ref).length=S.length:=by rw[aZ];exact ba pa
   rw[el,dN]at SU;refine(aa rfl <| k H' R kp p ⟨y,wo nd,λt ht=>?_⟩);refine ae (aw.1 (SU _ ((HL.mem _).2 (ab t ht rfl)))) λu B e=>?_;rw[<-M.iY e];exact nU.1 B
def xG(it a:Addr)(i:Nat):HO:=.ext λh=>h.IsTupleIter it a i
theorem Ih(x:h.IsTupleIter it a i):dR P w H h it (xG it a i):=
 (cO x (let ⟨o,e,_⟩:=x;⟨o,e⟩) <| λ_ _ ⟨o,e,r⟩ k=>(ab o (k _ e) r))
theorem BD{x:V}{Q:Option Value->Shared->Prop}(I:Inv X O σ H s)(f:H it=some (xG it a j))(n:dU X.K H a xs)(l:xs[j]?=some x)(h:∀u d,Inv X O σ (aX H it (xG it a (j+1))) d->bY x u->Q (some u) d):wpAny (model X.prog X.w) A (pyNext (.ref it)) Q E s:=by
 have st:s.heap.IsTupleIter it a j:=(I.dS it _ f).1;refine aH (I.tuple n) λc i p r=>?_;refine ae (i.get l) λu m k=>?_;refine wpAny_pyNext_tuple_item st (show s.heap.IsTuple a c.toArray from p) (x:=u) (by simpa using m) λh' b g=>?_;exact h u _ (oO (t':=s.toks) I (by rw[f];exact True.intro) g (let ⟨o,e,_⟩:=b;⟨o,e⟩) (Ih b)) k
def SQ{f:String->Builtin}(_:@Eq Builtin Builtin.max (f "max")):=f
def U4:=SQ rfl
def SR{f:String->CmpOp->Builtin}(_:@Eq Builtin Builtin.«max.loop» (f "max" .Gt)):=f
def U5:=SR rfl
theorem LN{n m:String}{op:CmpOp}{lx:Int×Int->Int×Int->Bool}(k1:builtinKind n=none)(k2:plainId n=true)(k3:entryFor table n=some (U4 n))(k4:∀a b,argsOk n ⟨[a,b],[]⟩)(C:plainId m=true)(k6:entryFor table m=some (U5 n op))(g:toString n++toString ".loop"=m)(k7:∀{O:List (Addr×Obj)} {σ:L2.St} {H:Hp} {s:Shared} {A:Around} {E:Value->Shared->Prop} {a b:Addr} {p q:Int×Int} {Q:Value->Shared->Prop},A.units<cLine->Inv X O σ H s->dv H a p->dv H b q->Q (.bool (lx p q)) s->wpAny (model X.prog X.w) A (richCompare op (.ref a) (.ref b)) Q E s)(hc:X.calm=true)(hu:X.A.units+1<cLine):se X (.builtin n) (λvs H Q=>∃a b p q,vs=[.ref a,.ref b]/\dv H a p/\dv H b q/\∀H',aW H H'->Q (.ref (if lx q p=true then b else a)) H'):=by
 intro O s σ H vs us Q I r h;obtain⟨a,b,p,q,rfl,ha,hb,hQ⟩:=h;cases r;rename_i r1 r;cases r;rename_i r2 r;cases r;cases r1;cases r2;refine call_function_tree k1 k2 k3 (k4 _ _) ?_;show wpAny _ X.A.in1 (Builtin.Builtins.bindParams n ["key","default"] 0 ⟨[],[]⟩ >>= _) _ _ s;refine ag (p_ (show Builtin.Builtins.bindParams n ["key","default"] 0 ⟨[],[]⟩=pure [none,none] from rfl) ?_);show wpAny _ X.A.in1 (newTuple [.ref a,.ref b] >>= _) _ _ s;refine ag (t7 ?_ (by show 2<=sizeLine;decide));have I1:=I.laid (t':=s.toks) (a:=s.heap.objs.size) (o:=.bG [.ref a,.ref b]) (h':=s.heap.push { cls:=.type "tuple",data:=.seq [Value.ref a,.ref b].toArray }) (λc o e=>bT _ e) (a0 _)
  (⟨by show 2<=sizeLine;decide,ab [.ref a,.ref b] (.cons rfl (.cons rfl .nil)) <| IsTup.new _ _⟩)
 have nt:H s.heap.objs.size=none:=I.fresh;have s1:aW H (aX H s.heap.objs.size (.bG [.ref a,.ref b])):=aE nt;have y:aX H s.heap.objs.size (.bG [.ref a,.ref b]) s.heap.objs.size=some (.bG [.ref a,.ref b]):=ah;generalize aX H s.heap.objs.size (.bG [.ref a,.ref b])=k at *;generalize s.heap.objs.size=T at *;generalize Ym:({ s with heap:=s.heap.push { cls:=.type "tuple",data:=.seq [Value.ref a,.ref b].toArray } }:Shared)=d at *;refine aH (I1.tuple (dU.of y)) λL rv pt hz=>?_;refine ag (wpAny_pyIter_tuple (show d.heap.IsTuple T L.toArray from pt) ?_);have Vv:(d.heap.push { cls:=.type "tuple_iterator",data:=.fields #[.ref T,.int 0 0] }).IsTupleIter d.heap.objs.size T 0:=(cz (cu _ rfl) rfl rfl)
 have I2:=I1.laid (t':=d.toks) (a:=d.heap.objs.size) (o:=xG d.heap.objs.size T 0) (h':=d.heap.push { cls:=.type "tuple_iterator",data:=.fields #[.ref T,.int 0 0] }) (λb o e=>bT _ e) (a0 _) (Ih Vv);have ni:k d.heap.objs.size=none:=I1.fresh;have h0:X.vb.heap.objs.size<=d.heap.objs.size:=I1.sz;have s2:aW k (aX k d.heap.objs.size (xG d.heap.objs.size T 0)):=aE ni;have R:aX k d.heap.objs.size (xG d.heap.objs.size T 0) d.heap.objs.size=some (xG d.heap.objs.size T 0):=ah;refine ag (mR ?_ (bZ _));have I3:=I2.HR (ys:=[]) (its:=[]) (t':=d.toks) .nil (bZ _);have nS:=I2.fresh;generalize aX k d.heap.objs.size (xG d.heap.objs.size T 0)=H2 at *;rw[g];refine au ⟨gJ C _,?_⟩;generalize hit:d.heap.objs.size=it at *;generalize Yc:(d.heap.push { cls:=.type "tuple_iterator",data:=.fields #[.ref T,.int 0 0] }).objs.size=S at *;have s3:aW H2 (aX H2 S (.aR [])):=aE nS;have F:aX H2 S (.aR []) S=some (.aR []):=ah;have w:k S=none:=s2.free nS;generalize aX H2 S (.aR [])=H3 at *;have sb:aW k H3:=s2.trans s3;have P:=s3 _ _ R;generalize ({ d with heap:=(d.heap.push { cls:=.type "tuple_iterator",data:=.fields #[.ref T,.int 0 0] }).push { cls:=.type "list",data:=.seq ([]:List Value).toArray } }:Shared)=sB at *;clear s2 s3 R;have J:S≠it:=a3 F P (by intro z;cases z);refine cE (I3.nV F) λz u=>aF u λVk n1 rr _ e1=>?_;cases rr;refine i5 k6 ?_;rw[kC C _];show wpAny _ X.A.in1 (seqItems? (.ref S) >>= _) _ _ sB;refine ag (i3 e1 rfl ?_);show wpAny _ X.A.in1 (tryCatch (pyNext (.ref it)) _ >>= _) _ _ sB;refine ag (iP (BD I3 P (dU.of (sb _ _ y)) (x:=.ref a) rfl λv sC I4 UD=>?_));obtain rfl:v=Value.ref a:=UD;have RI:aW k (aX H3 it (xG it T (0+1))):=bf sb ni;have VU:aX H3 it (xG it T (0+1)) it=some (xG it T (0+1)):=ah;have W:aX H3 it (xG it T (0+1)) S=some (.aR []):=by rw[ao J];exact F
 generalize aX H3 it (xG it T (0+1))=H4 at *;refine cE (I4.nV W) λz4 u=>aF u λVi n4 X5 _ e4=>?_;show wpAny _ X.A.in1 (updateSeq S (λ_=>#[.ref a,.ref a]) >>= _) _ _ sC;refine ag (jy e4 rfl ?_);rw[g];have I5:=I4.sH (t':=sC.toks) (ys:=[.ref a,.ref a]) (its':=[.ref a,.ref a]) (f:=λ_=>#[.ref a,.ref a]) W e4 rfl (.cons rfl (.cons rfl .nil)) (by omega);refine au ⟨gJ C _,?_⟩;have K:aW k (aX H4 S (.aR [.ref a,.ref a])):=bf RI w;have V:aX H4 S (.aR [.ref a,.ref a]) S=some (.aR [.ref a,.ref a]):=ah;have VT:aX H4 S (.aR [.ref a,.ref a]) it=some (xG it T (0+1)):=by rw[ao (bu J)];exact VU
 generalize aX H4 S (.aR [.ref a,.ref a])=H5 at *;generalize ({ sC with heap:=sC.heap.update S (Obj.mapSeq λ_=>#[.ref a,.ref a]) }:Shared)=sD at *;have Y:∀c j t,Inv X O σ t j->aW k t->t it=some (xG it T (0+1+1))->t S=some (.aR [.ref c,.ref c])->Q (.ref c) (aX (KJ t it) S (.aR []))->
   codeAny (model X.prog X.w) X.A (.builtin m ⟨[.ref it,.none,.ref S],[]⟩) (λr s'=>match r with | .ok (.ret v)=>EP X O σ Q v s' | .ok _=>False | .error e=>X.xe e s') j:=by
  intro c j t Z Ux M U hq;refine cE (Z.nV U) λzE u=>aF u λVf nE rE _ eE=>?_;rcases rE with _ | ⟨B,_ | ⟨_,⟨⟩⟩⟩
  have st:j.heap.IsTupleIter it T (0+1+1):=(Z.dS it _ M).1;refine aH (Z.tuple (dU.of (Ux _ _ y))) λi UE UQ Tt=>?_;have hl:=UE.length;refine i5 k6 ?_;rw[kC C _];show wpAny _ X.A.in1 (seqItems? (.ref S) >>= _) _ _ j;refine ag (i3 eE rfl ?_);show wpAny _ X.A.in1 (tryCatch (pyNext (.ref it)) _ >>= _) _ _ j;refine ag (iP (wpAny_pyNext_tuple_end (show X.A.in1.handled=none from Z.ok.hd hc) st (show j.heap.IsTuple T i.toArray from UQ) (by simp at hl ⊢;omega) λh' eb=>?_));have IF:=BF (t':=j.toks) Z M h0 eb;have Wf:KJ t it S=some (.aR [.ref c,.ref c]):=by rw[pQ J];exact U
  have eF:=eb S _ J eE;show wpAny _ X.A.in1 (updateSeq S (λ_=>#[]) >>= _) _ _ _;refine ag (jy eF rfl (ag (gI (au ?_))));exact(aO (.ref c) _ (IF.sH (t':=j.toks) (ys:=[]) (its':=[]) (f:=λ_=>#[]) Wf eF rfl .nil (bZ _)) B hq)
 have qq:∀t,aW k t->Q (.ref (if lx q p=true then b else a)) (aX (KJ t it) S (.aR [])):=λt sm=>by
  refine hQ _ (s1.trans (bf (λc o h=>?_) w));rw[pQ (aQ h ni)];exact sm c o h
 refine cE (I5.nV V) λz5 u=>aF u λVh n5 UG _ e5=>?_;rcases UG with _ | ⟨B,_ | ⟨UB,⟨⟩⟩⟩
 cases B;cases UB;refine i5 k6 ?_;rw[kC C _];show wpAny _ X.A.in1 (seqItems? (.ref S) >>= _) _ _ sD;refine ag (i3 e5 rfl ?_);show wpAny _ X.A.in1 (tryCatch (pyNext (.ref it)) _ >>= _) _ _ sD;refine ag (iP (BD I5 VT (dU.of (K _ _ y)) (x:=.ref b) rfl λv j I6 UC=>?_));obtain rfl:v=Value.ref b:=UC;have l:aW k (aX H5 it (xG it T (0+1+1))):=bf K ni;have N:aX H5 it (xG it T (0+1+1)) it=some (xG it T (0+1+1)):=ah;have D:aX H5 it (xG it T (0+1+1)) S=some (.aR [.ref a,.ref a]):=by rw[ao J];exact V
 generalize aX H5 it (xG it T (0+1+1))=H6 at *;have Se:X.A.in1.units<cLine:=show X.A.units+1<cLine from hu;show wpAny _ X.A.in1 (tryCatch (holding [.ref b,.ref b] (richCompare op (.ref b) (.ref a) >>= _)) _ >>= _) _ _ j;refine ag (iP (eO (ag (k7 Se I6 (l _ _ (s1 _ _ hb)) (l _ _ (s1 _ _ ha)) (ag (eO (gU (ag (gI (au ?_))))))))));refine cE (I6.nV D) λz6 u=>aF u λVg n6 X4 _ e6=>?_;cases Yi:lx q p with
 | true=>
  simp only[dh];refine ag (jy e6 rfl (ag (gI ?_)));rw[g];have I7:=I6.sH (t':=j.toks) (ys:=[.ref b,.ref b]) (its':=[.ref b,.ref b]) (f:=λ_=>#[.ref b,.ref b]) D e6 rfl (.cons rfl (.cons rfl .nil)) (by omega);refine au ⟨gJ C _,Y b _ _ I7 (bf l w) (by rw[ao (bu J)];exact N) ah ?_⟩;have:=qq (aX H6 S (.aR [.ref b,.ref b])) (bf l w)
  simp_all
 | false=>
  simp only[fc,cx];refine ag (gI ?_);rw[g];refine au ⟨gJ C _,Y a _ _ I6 l N D ?_⟩
  simp_all
theorem KZ(hc:X.calm=true)(c:X.A.units+1<cLine):se X (.builtin "max") (λvs H Q=>∃a b p q,vs=[.ref a,.ref b]/\dv H a p/\dv H b q/\∀H',aW H H'->Q (.ref (if M.gN p q=true then b else a)) H'):=
 LN (lx:=λp q=>M.gN q p) F.kind_max F.plain_max F.entry_max (λa b=>by unfold argsOk;kernel_rfl) i8 qu (by decide) LF hc c
theorem KY(hc:X.calm=true)(c:X.A.units+1<cLine):se X (.builtin "min") (λvs H Q=>∃a b p q,vs=[.ref a,.ref b]/\dv H a p/\dv H b q/\∀H',aW H H'->Q (.ref (if M.gN q p=true then b else a)) H'):=
 LN F.kind_min F.plain_min F.entry_min (λa b=>by unfold argsOk;kernel_rfl) F.plain_min_loop F.entry_min_loop (by decide) Py hc c
theorem fw(f:Str)(v:V){fs:List (Str×V)}(h:fs.length<=n):(dZ f v fs).length<=n+1:=fG (n0 f v fs) (Nat.succ_le_succ h)
abbrev RK:Stmt:=inClass (top 7) 0
theorem MC:bc ["self","corner","other","mark","a","b"] ["self","corner","other","mark"] (aK RK):=by constructor<;>decide
def zj(c d:Int×Int)(m:Int):M.aJ:=M.QH (M.IV c d) (M.IW c d) m
def JG(C:Addr):Sp:=λvs H Q _=>∃p dx a b c d m,vs=[.ref p,.ref a,.ref b,.int m]/\H p=some (.ins C dx [])/\dv H a c/\dv H b d/\
 ∀H',(∀x o,x≠p->H x=some o->H' x=some o)->H' p=some (.ins C dx (jr (zj c d m)))->Q .gH H'
theorem MN{p q:Int×Int}(d:dv H a p)(c:dv H b q):dv H (if M.gN q p=true then b else a) (M.IV p q):=by
 have e:M.IV p q=if M.gN q p=true then q else p:=rfl
 rw[e];split <;> assumption
theorem MO{p q:Int×Int}(d:dv H a p)(c:dv H b q):dv H (if M.gN p q=true then b else a) (M.IW p q):=by
 have e:M.IW p q=if M.gN p q=true then q else p:=rfl
 rw[e];split <;> assumption
theorem su{x:Addr}{o u:HO}(h:x≠p)(e:H x=some o):aX H p u x=some o:=by rw[ao h];exact e
theorem O6(F:ju K "__init__" "Edge.__init__" RK f fd)(T:ET K C)(O:mg "min"=none)(R:mg "max"=none):dw P w K mg base iG 1 f fd ["self","corner","other","mark"] (JG C):=by
 refine F.ok MC (λvs H Q E h=>?_) (λS A D s H vs Q E L h=>?_)
 ·obtain⟨p,dx,a,b,c,d,m,rfl,_⟩:=h;rfl
 ·obtain⟨p,dx,a,b,c,d,m,rfl,N,y,v,k⟩:=h;have G:=tG L;refine(aa (aj (a_ (i:=4) MC.nd rfl (Or.inl rfl) (df (KY rfl G) (by rfl) O PyProof.Rows.boot_min (af (pv 1) (af (pv 2) ar))))
   (aj (a_ (i:=5) MC.nd rfl (Or.inl rfl) (df (KZ rfl G) (by rfl) R PyProof.Rows.boot_max (af (pv 1) (af (pv 2) ar))))
   (aj (ji (pv 0) (aT aS (pv 4) aq (λ_ _=>rfl)) rfl)
   (aj (ji (pv 0) (aT aS (pv 4) aq (λ_ _=>rfl)) rfl)
   (aj (ji (pv 0) (aT aS (pv 5) aq (λ_ _=>rfl)) rfl)
   (aj (ji (pv 0) (aT aS (pv 5) aq (λ_ _=>rfl)) rfl)
   (aj (ji (pv 0) (a7 fM (aT aS (pv 5) aq (λ_ _=>rfl)) (aT aS (pv 4) aq (λ_ _=>rfl))) rfl)
   (aj (ji (pv 0) (a7 fM (aT aS (pv 5) aq (λ_ _=>rfl)) (aT aS (pv 4) aq (λ_ _=>rfl))) rfl)
   (aB (ji (pv 0) (pv 3) rfl)))))))))) ?_)
  refine(aa rfl <| aa rfl ⟨a,b,c,d,rfl,y,v,λV B=>?_⟩);refine(aa rfl <| aa rfl ⟨a,b,c,d,rfl,B _ _ y,B _ _ v,λU I=>?_⟩);have g:=B.trans I;have r:=MN (g _ _ y) (g _ _ v);have q:=MO (g _ _ y) (g _ _ v);have n:=g _ _ N;generalize (if M.gN d c=true then b else a)=u at *;generalize (if M.gN c d=true then b else a)=t at *;have l:u≠p:=a3 r n (by intro z;cases z);have e:t≠p:=a3 q n (by intro z;cases z);refine(aa rfl <| aU u _ _ _ rfl rfl (dU.of r) (aG (j:=0) rfl) <| aa rfl <| bU p C dx _ rfl n T.cl T.ax (by decide) ?_);refine(aa rfl <| aU u _ _ _ rfl rfl (dU.of (su l r)) (aG (j:=1) rfl) <| aa rfl <| bU p C dx _ rfl ah T.cl T.ay (fe (fw _ _ (a0 0)) (by decide)) ?_);refine(aa rfl <| aU t _ _ _ rfl rfl (dU.of (su e (su e q))) (aG (j:=0) rfl) <| aa rfl <| bU p C dx _ rfl ah T.cl T.bx (fe (fw _ _ (fw _ _ (a0 0))) (by decide)) ?_);refine(aa rfl <| aU t _ _ _ rfl rfl (dU.of (su e (su e (su e q)))) (aG (j:=1) rfl) <| aa rfl <| bU p C dx _ rfl ah T.cl T.bz (fe (fw _ _ (fw _ _ (fw _ _ (a0 0)))) (by decide)) ?_);refine(aa rfl <| aU t _ _ _ rfl rfl (dU.of (su e (su e (su e (su e q))))) (aG (j:=0) rfl) <| aa rfl <| aU u _ _ _ rfl rfl (dU.of (su l (su l (su l (su l r))))) (aG (j:=0) rfl) <| bD rfl rfl <| aa rfl <| bU p C dx _ rfl ah T.cl T.dx (fe (fw _ _ (fw _ _ (fw _ _ (fw _ _ (a0 0))))) (by decide)) ?_);refine(aa rfl <| aU t _ _ _ rfl rfl (dU.of (su e (su e (su e (su e (su e q)))))) (aG (j:=1) rfl) <| aa rfl <| aU u _ _ _ rfl rfl (dU.of (su l (su l (su l (su l (su l r)))))) (aG (j:=1) rfl) <| bD rfl rfl <| aa rfl <| bU p C dx _ rfl ah T.cl T.dy (fe (fw _ _ (fw _ _ (fw _ _ (fw _ _ (fw _ _ (a0 0)))))) (by decide)) ?_);refine(aa rfl <| aa rfl <| bU p C dx _ rfl ah T.cl T.mark (fe (fw _ _ (fw _ _ (fw _ _ (fw _ _ (fw _ _ (fw _ _ (a0 0))))))) (by decide)) ?_);refine k _ (λx o J h=>?_) ah
  repeat rw[ao J]
  exact g _ _ h
structure Od(P:Program)(w:World)(K:PySem.W.Frag)(mg:Str->Option Value)(base:Heap)(x:Str)(C:Addr)(k:Nat)(ps:List Str)(sp:Sp):Prop where
 ex:∃f fd,Mk K C f/\dw P w K mg base iG k f fd ps sp/\mg x=some (.ref C)/\Binds K fd ps []
theorem OP{e:Expr}{es:List Expr}{t:TA}{p:Pos}(F:Od X.prog X.w X.K X.mg X.base x C k ps sp)(c:fB (k+1) X.A)(g:Gl X x)(j:PA X (e::es) t)(b:(x==("__debug__":Str))=false:=by decide)(h:starEach (e::es) X.env=(false,eval e X.env)::starEach es X.env:=by rfl)(a:(backTo pos (starEach es X.env)).any (·.1)=false:=by rfl):PE X (.Call (.Name x p) (e::es) [] pos) (DR C sp [] E0 t):=by
 refine e_ F.ex λf fd M F d i=>?_;exact J5 M F c g d i .nil xh j b h a
noncomputable def flat(cs:List (Int×Int)):List Int:=cs.flatMap λc=>[c.1,c.2]
theorem l3:∀cs:List (Int×Int),(flat cs).length=2*cs.length
 | []=>rfl
 | c::cs=>by
  show([c.1,c.2]++flat cs).length=_;rw[dC,l3 cs,dj];simp;omega
theorem BO:∀(cs:List (Int×Int)) (i:Nat) {c:Int×Int},cs[i]?=some c->(flat cs)[2*i]?=some c.1/\(flat cs)[2*i+1]?=some c.2
 | [],i,c,h=>by simp at h
 | d::cs,0,c,h=>by
  have:d=c:=by simpa using h
  subst this;exact⟨rfl,rfl⟩
 | d::cs,i+1,c,h=>by
  have:=BO cs i (c:=c) (by simpa using h);exact this
theorem RU(n:Nat)(h:n<=1000000):T' 0 ((2*n:Nat):Int) 2 n:=by
 have e:Builtin.Range.rangeSize 0 ((2*n:Nat):Int) 2=n:=by
  unfold Builtin.Range.rangeSize;grind
 refine(oX (by decide) (by decide) ?_ e);have g:∀i:Int,-100000000<=i->i<=100000000->Builtin.Range.rangeFitsLong i=true:=by
  intro i b a;unfold Builtin.Range.rangeFitsLong;grind
 unfold Builtin.Range.small;grind
theorem Fw{lo c:Int}{g:TG}{o:TT}{vs:List Nat}{s:Hp}{D:Addr}{r:Hp->Prop}(Pv:Nat->Hp->Prop)(h0:Pv 0 (aX s D (.aR [])))
  (v:∀i H,i<n->Pv i H->g (.int (lo+(i:Nat)*c)) (gX σ vs) H λa l=>gX a vs=gX σ vs/\o a l λb j=>
   if b=true then te a j λy h=>∃d,h D=some (.aR d)/\d.length<sizeLine/\Pv (i+1) (aX h D (.aR (d++[y]))) else Pv (i+1) j) (u:∀H,Pv n H->r H) :
  ∃W:Nat->Nat->Hp->Prop,(∃m,W 0 m (aX s D (.aR [])))/\∀i m H,W i m H->
   ((Qv lo c n).stop i H/\r H)\/((Qv lo c n).go i H/\∃k:Hp->Prop,(∀H',k H'->∃q,q<m/\W (i+1) q H')/\∀x H',(Qv lo c n).Ju i H x H'->g x (gX σ vs) H' λa l=>gX a vs=gX σ vs/\o a l λb j=>
    if b=true then te a j λy h=>∃d,h D=some (.aR d)/\d.length<sizeLine/\k (aX h D (.aR (d++[y]))) else k j):=by
 refine(ab (λi m H=>m=n-i/\i<=n/\Pv i H) (a8 n (by simp) (bZ _) h0) ?_);rintro i m H ⟨rfl,w,p⟩
 by_cases f:i<n
 ·refine .inr (⟨f,ab (Pv (i+1)) (λH' t=>⟨n-(i+1),by omega,rfl,f,t⟩) <| λx H' y=>?_⟩);obtain⟨e,y⟩:=y
  simp_all
 ·have e:i=n:=by omega
  subst e;exact .inl ⟨a0 _,u H p⟩
noncomputable def o6(cs:List (Int×Int)):List ((Int×Int)×(Int×Int)):=(cs.getLastD (0,0)::cs.dropLast).zip cs
def rC(cs:List (Int×Int))(m:Int):List M.aJ:=((o6 cs).filter λe=>e.1 !=e.2).map λe=>zj e.1 e.2 m
theorem zA{xs:List α}{z:Int}{v:α}(e:z=(j:Int))(h:xs[j]?=some v):wA xs z=some v:=by rw[e];exact aG h
theorem E9{cs:List (Int×Int)}{c:Int×Int}(h:cs[i]?=some c):∃d,(o6 cs)[i]?=some (d,c)/\wA cs ((i:Int)-1)=some d:=by
 have b:i<cs.length:=(bF.1 h).1;have a:cs≠[]:=λz=>by rw[z]at b;simp at b
 cases i with
 | zero=>
  refine(ab (cs.getLastD (0,0)) ?_ ?_)
  ·unfold o6;rw[uN];exact⟨rfl,h⟩
  ·have e:cs=cs.dropLast++[cs.getLastD (0,0)]:=by
    rw[Al,Av a];exact(As a).symm
   grind[IZ]
 | succ j=>
  obtain⟨d,f⟩:∃d,cs[j]?=some d:=⟨_,cQ (by omega)⟩
  refine(ab d ?_ <| zA (j:=j) (by omega) f);unfold o6;rw[uN,List.getElem?_cons_succ];grind
def Mf(K:PySem.W.Frag)(C:Addr):Sp:=λvs H Q _=>∃r cs m,vs=[.ref r,.int m]/\dM K H r ((flat cs).map V.int)/\cs.length<=1000000/\∀H' l,aW H H'->H l=none->oV C H' l (rC cs m)->Q (.ref l) H'
theorem E5:bc ["ring","mark","points","k"] ["ring","mark"] (aK (top 8)):=by constructor<;>decide
theorem OW(F:ju K "ring_edges" "ring_edges" (top 8) f fd)(G:Od P w K mg base "Edge" C 1 ["self","corner","other","mark"] (JG C))(hR:mg "range"=none)(hN:mg "len"=none):dw P w K mg base iG 3 f fd ["ring","mark"] (Mf K C):=by
 refine F.ok E5 (λvs H Q E h=>?_) (λwd A dF s H vs Q E hr h=>?_)
 ·obtain⟨r,cs,m,rfl,_⟩:=h;rfl
 ·obtain⟨r,cs,m,rfl,u,M,k⟩:=h;refine(aa (aj (a_ (i:=2) E5.nd rfl (Or.inr rfl) (A_ rfl E5.nd (E_ rfl hR (af aq (af (df dP (by rfl) hN iR (af (pv 0) ar)) (af aq ar)))) (l' (own:=[("k",3)]) rfl)
    (λs H C cl W=>c6 (i:=3) E5.nd rfl (Or.inl rfl)) (λs H C cl W=>yx)
    (λs H C cl W=>fX (af (aT (r:=CI K) cT (pv 0) (pv 3) (λ_ _=>rfl)) (af (aT (r:=CI K) cT (pv 0) (a7 iJ (pv 3) aq) (λ_ _=>rfl)) ar)))))
   (aB (bg (A_ rfl E5.nd (Fc rfl hR (af (df dP (by rfl) hN iR (af (pv 2) ar)) ar)) (l' (own:=[("k",3)]) rfl)
    (λs H C cl W=>c6 (i:=3) E5.nd rfl (Or.inl rfl))
    (λs H C cl W=>yw (dE (r:=OM K) (Hz hr.units) (aT (r:=CI K) cT (pv 2) (a7 fM (pv 3) aq) (λ_ _=>rfl)) (aT (r:=CI K) cT (pv 2) (pv 3) (λ_ _=>rfl)) (du _)))
    (λs H C' cl W=>OP (C:=C) (sp:=JG C) G hr rfl (af (aT (r:=CI K) cT (pv 2) (a7 fM (pv 3) aq) (λ_ _=>rfl)) (af (aT (r:=CI K) cT (pv 2) (pv 3) (λ_ _=>rfl)) (af (pv 1) ar)))))))) ?_)
  have fl:=l3 cs;have el:(((flat cs).map V.int).length:Int)=((2*cs.length:Nat):Int):=by simp_all
  refine(aa rfl <| aO r _ rfl (.inl u) ⟨0,_,2,cs.length,rfl,by rw[el];exact RU _ M,λL hL=>Fw (λi H'=>aW H H'/\∃l:List Addr,H' L=some (.aR (l.map V.ref))/\Paired (dv H') l (cs.take i)) (⟨aE hL,ab [] ah <| by rw[gS];exact .nil⟩) ?_ ?_⟩)
  ·rintro i H' Z ⟨a,l,g,q⟩;obtain⟨c,hc⟩:∃c,cs[i]?=some c:=⟨_,cQ Z⟩
   obtain⟨g1,g2⟩:=BO cs i hc;have bl:=ba q;rw[fH]at bl;refine⟨rfl,?_⟩;unfold JA;dsimp only;rw[ak rfl];refine(aa rfl <| aa rfl <| aU r _ _ _ rfl rfl (a.seq u) (at_of (j:=2*i) (v:=.int c.1) (by omega) (by rw[gw,g1];rfl)) <| aa rfl <| aa rfl <| bD rfl rfl <| bU r _ _ _ rfl rfl (a.seq u) (at_of (j:=2*i+1) (v:=.int c.2) (by omega) (by simp_all)) (by show 2<=sizeLine;decide) <| λt ht=>?_);have s4:aW H' (aX H' t (.bG [.int c.1,.int c.2])):=aE ht;have Vs:aX H' t (.bG [.int c.1,.int c.2]) t=some (.bG [.int c.1,.int c.2]):=ah;generalize aX H' t (.bG [.int c.1,.int c.2])=H4 at *;have N:=s4 _ _ g;have tl:∀o e ys,H4 e=some (.bG ys)->aX H4 L o e=some (.bG ys):=λo e ys h=>by rw[ao (a3 h N (by intro z;cases z))];exact h
   refine(⟨_,N,sz (by grind),bf (a.trans s4) hL,ab (l++[t]) (by rw[ah,b9];rfl) ?_⟩);rw[b7 hc];exact fF (Paired.fx q λ_ _ z=>tl _ _ _ (s4 _ _ z)) (tl _ _ _ Vs)
  ·rintro H1 ⟨s1,l,b,q⟩;rw[dN]at q;have bl:=ba q;have pl:(o6 cs).length=cs.length:=by
    unfold o6;grind
   refine(aa rfl <| aO L _ rfl (.inl (dM.of b)) ⟨_,rfl,by omega,by grind,λXw D=>Ib (n:=(((l.map V.ref).length:Int)).toNat) (λi H'=>aW H1 H'/\∃es:List Addr,H' Xw=some (.aR (es.map V.ref))/\Paired (kv C H') es ((((o6 cs).take i).filter λe=>e.1 !=e.2).map λe=>zj e.1 e.2 m)) (⟨aE D,ab [] ah <| by rw[gS];exact .nil⟩) ?_ ?_⟩)
   ·rintro i H' Z ⟨a,es,g,pe⟩;have Z:i<cs.length:=by simp_all
    obtain⟨c,hc⟩:∃c,cs[i]?=some c:=⟨_,cQ Z⟩
    refine ae (E9 hc) λd hd O=>?_;obtain⟨x,hx⟩:∃x,l[i]?=some x:=⟨_,cQ (by omega)⟩
    refine ae (Pd.get q hx) λc' S hX=>?_;rw[hc]at S;cases S;obtain⟨y,Y,hY⟩:∃y,wA (l.map V.ref) ((0+(i:Int))-1)=some (.ref y)/\dv H1 y d:=by
     rw[show(0+(i:Int))-1=(i:Int)-1 by omega];refine dG (zB O) λj j1 j2 j3 j4 j5=>?_;obtain⟨y,Y⟩:∃y,l[j]?=some y:=⟨_,cQ (by omega)⟩
     refine ae (Pd.get q Y) λd' R hY=>?_;rw[j2]at R;cases R;refine(ab y ?_ hY);unfold wA at O ⊢;rw[aZ,bl];cases hn:Ie cs.length ((i:Int)-1) with
     | none=>simp_all
     | some j'=>
      have:=(y8 hn).1
      simp_all
    have I:wA (l.map V.ref) (0+(i:Int))=some (.ref x):=zA (j:=i) (by omega) (by rw[gw,hx];rfl);have U:=a _ _ hX;have T:=a _ _ hY;have X7:es.length<=i:=by
     rw[ba pe,aZ];grind
    have tk:((o6 cs).take (i+1)).filter (λe=>e.1 !=e.2)=((o6 cs).take i).filter (λe=>e.1 !=e.2)++[(d,c)].filter (λe=>e.1 !=e.2):=by rw[b7 hd,lN]
    refine(⟨rfl,aa rfl <| aa rfl <| bD rfl rfl <| aU L _ _ _ rfl rfl (dM.of (a _ _ b)) Y <| aa rfl <| aa rfl <| aU L _ _ _ rfl rfl (dM.of (a _ _ b)) I <| e8 _ _ (ED T) (ED U) rfl rfl <| aa rfl ?_⟩);rw[IE];refine eL (λt1=>?_) (λt1=>?_)
    ·have ne:d≠c:=by
      simp_all
     have l1:([(d,c)].filter λe=>e.1 !=e.2)=[(d,c)]:=by simp_all
     refine(aa rfl <| aa rfl <| bD rfl rfl <| aU L _ _ _ rfl rfl (dM.of (a _ _ b)) Y <| aa rfl <| aa rfl <| aU L _ _ _ rfl rfl (dM.of (a _ _ b)) I <| aa rfl <| λp dx np U3 U2=>?_);have s5:aW H' (aX (aX H' dx (.own p)) p (.ins C dx [])):=λe o h=>by rw[ao (aQ h np),ao (aQ h U3)];exact h
     refine⟨p,dx,y,x,d,c,m,rfl,ah,s5 _ _ T,s5 _ _ U,λH6 k6 J=>⟨rfl,?_⟩⟩;have X:aW H' H6:=λe o h=>k6 e o (aQ h np) (s5 _ _ h);have B:=X _ _ g;refine(⟨_,B,sz (by grind),bf (a.trans X) D,ab (es++[p]) (by rw[ah,b9];rfl) ?_⟩);rw[tk,l1,b9];refine fF (Paired.fx pe λe0 e1 z=>?_) ⟨dx,by rw[ao (a3 J B (by intro z;cases z))];exact J⟩;obtain⟨SN,z⟩:=z;exact⟨SN,by rw[ao (a3 (X _ _ z) B (by intro z;cases z))];exact X _ _ z⟩
    grind
   ·rintro H' ⟨a,es,g,pe⟩;rw[aZ,bl,lK,<-pl,dN]at pe;exact k H' _ (s1.trans a) (s1.free D) (ab es g pe)
theorem w6(cs:List (Int×Int))(m:Int):(rC cs m).Perm ((Ql55.edgesOf cs).map (M.pe m)):=by
 have e:∀L:List ((Int×Int)×(Int×Int)),L.map (M.pe m)=L.map λe=>zj e.1 e.2 m:=λL=>rfl;rw[e];unfold rC Ql55.edgesOf;refine List.Perm.map _ (List.Perm.filter _ ?_);unfold o6;cases cs with
 | nil=>exact .nil
 | cons a t=>
  have c:(a::t)=(a::t).dropLast++[(a::t).getLastD (0,0)]:=by
   rw[Al,Av (List.cons_ne_nil a t)];exact(As (List.cons_ne_nil a t)).symm
  show(((a::t).getLastD (0,0),a)::(a::t).dropLast.zip t).Perm ((a::t).zip (t++[a]));have b:(a::t).zip (t++[a])=(a::t).dropLast.zip t++[((a::t).getLastD (0,0),a)]:=by
   conv=>lhs;rw[c]
   rw[List.zip_append (by simp)];rfl
  rw[b];exact(List.perm_append_singleton _ _).symm
theorem vW(d:Ql55.Drawing)(r:Ql55.Ring):Ql55.edges (d++[r])=Ql55.edges d++Ql55.edgesOf r:=by
 unfold Ql55.edges
 simp_all
theorem kI(d:Ql55.Drawing)(r:Ql55.Ring):Ql55.points (d++[r])=Ql55.points d+r.length:=by
 unfold Ql55.points;simp
theorem u4{d:Ql55.Drawing}(h:M.wu d)(b:r.all Ql55.rightCorner=true):M.wu (d++[r]):=by
 intro q a c hc;rcases cJ.1 a with z | z
 ·exact h q z c hc
 simp_all
theorem KO{s:Ql55.Both}(h:M.Draws D s)(b:r.all Ql55.rightCorner=true):M.Draws (D++rC r 1) { s with a:=s.a++[r] }:=by
 refine⟨?_,u4 h.sa b,h.sb⟩;show(D++rC r 1).Perm ((Ql55.edges (s.a++[r])).map (M.pe 1)++(Ql55.edges s.b).map (M.pe 2));rw[vW,b9];refine(List.Perm.append h.perm (w6 r 1)).trans ?_;rw[ia,ia];exact List.Perm.append_left _ zW
theorem KN{s:Ql55.Both}(h:M.Draws D s)(a:r.all Ql55.rightCorner=true):M.Draws (D++rC r 2) { s with b:=s.b++[r] }:=by
 refine⟨?_,h.sa,u4 h.sb a⟩;show(D++rC r 2).Perm ((Ql55.edges s.a).map (M.pe 1)++(Ql55.edges (s.b++[r])).map (M.pe 2));rw[vW,b9,<-ia];exact List.Perm.append h.perm (w6 r 2)
theorem KP:M.Draws [] Ql55.empty:=⟨.nil,λ_ h=>(nomatch h),λ_ h=>(nomatch h)⟩
theorem xN:∀d:Ql55.Drawing,(Ql55.edges d).length<=Ql55.points d
 | []=>a0 0
 | r::d=>by
  have h:=xN d;have e1:Ql55.edges (r::d)=Ql55.edgesOf r++Ql55.edges d:=rfl;have b:Ql55.points (r::d)=r.length+Ql55.points d:=by unfold Ql55.points;simp
  have a:(Ql55.edgesOf r).length<=r.length:=by
   unfold Ql55.edgesOf;refine fG (jB _ _) ?_;rw[List.length_zip];omega
  grind
theorem xO{s:Ql55.Both}(h:M.Draws D s):D.length<=Ql55.points s.a+Ql55.points s.b:=by
 have:=h.perm.length_eq;grind[List.length_append,List.length_map,xN]
theorem RA:bc ["how"] ["how"] (aK (top 50)):=by constructor<;>decide
theorem Mz:bc ["ring","number"] ["ring"] (aK (top 51)):=by constructor<;>decide
theorem RB:bc ["x","y","w"] ["x","y","w"] (aK (top 52)):=by constructor<;>decide
structure Jg(K:PySem.W.Frag)(mg:Str->Option Value)(g:Addr)(fs:List Addr):Prop where
 at_:mg "FIGURES"=some (.ref g)
 bG:zF K g (fs.map V.ref)
 len:fs.length=6
 row:∀i f,fs[i]?=some f->zF K f (FQ i)
theorem yE(h:X.mg x=some (.ref a))(b:Gl X x)(c:(x==("__debug__":Str))=false:=by decide):PE X (.Name x pos) (tC (.ref a)):=Ee b h rfl c
def Gw:Sp:=λvs H Q _=>∃h:Int,vs=[.int h]/\Q (.bl (Ql55.isHow h)) H
def Mm:Sp:=λvs H Q _=>∃x y w:Int,vs=[.int x,.int y,.int w]/\Q (.bl (Ql55.rightPoint ⟨x,y,w⟩)) H
noncomputable def HH(z:Int):Bool:=decide ((if z<0 then -z else z)<=16384)
def kX(a:List Int):Bool:=decide (3<=a.length/2/\a.length/2<=64)&&a.all HH
def Ml(K:PySem.W.Frag):Sp:=λvs H Q _=>∃r a,vs=[.ref r]/\dM K H r (a.map V.int)/\a.length<=1000000/\∀H',aW H H'->Q (.bl (kX a)) H'
theorem O3(F:ju K "is_figure" "is_figure" (top 50) f fd)(G:Jg K mg g fs)(b:mg "len"=none):dw P w K mg base iG 1 f fd ["how"] Gw:=by
 refine F.ok RA (λvs H Q E h=>?_) (λd A a s H vs Q E i h=>?_)
 ·obtain⟨z,rfl,_⟩:=h;rfl
 ·obtain⟨z,rfl,k⟩:=h;refine(aa (aB (bg (Bc rF xm aq (pv 0) (df dP (by rfl) b iR (af (yE G.at_ rfl) ar))))) ?_);refine(aa rfl <| bD rfl rfl <| aa rfl ?_);have e:((fs.map V.ref).length:Int)=6:=by rw[aZ,G.len];rfl
  unfold Ql55.isHow at k;refine eL (λc=>?_) (λc=>?_)
  ·refine(aO g _ rfl (.inr (G.bG.sq H)) <| bD rfl rfl ?_);rw[e];grind
  simp_all
theorem O4(F:ju K "is_asked" "is_asked" (top 52) f fd)(c1:fP mg "LARGEST_W_ASKED" 2147483648)(c2:fP mg "FARTHEST_ASKED" 140737488355328)(i:mg "abs"=none):dw P w K mg base iG 1 f fd ["x","y","w"] Mm:=by
 refine F.ok RB (λvs H Q E h=>?_) (λl A e s H vs Q E m h=>?_)
 ·obtain⟨x,y,z,rfl,_⟩:=h;rfl
 ·obtain⟨x,y,z,rfl,k⟩:=h;refine(aa (aB (bg (yF (Bc rF rF aq (pv 2) (cC c1 rfl)) (yF (kJ rF (df r8 (by rfl) i uG (af (pv 0) ar)) (cC c2 rfl) (du _))
   (CK (kJ rF (df r8 (by rfl) i uG (af (pv 1) ar)) (cC c2 rfl) (du _))))))) ?_)
  have g:∀b:Bool,(b=true↔1<=z/\z<=2147483648/\(if x<0 then -x else x)<=140737488355328/\(if y<0 then -y else y)<=140737488355328)->Q (.bl b) H:=by
   intro b j;have:b=Ql55.rightPoint ⟨x,y,z⟩:=by
    refine i6.2 (j.trans ?_);unfold Ql55.rightPoint;grind
   simp_all
  refine(aa rfl <| bD rfl rfl <| aa rfl ?_);refine eL (λa=>?_) (λa=>?_)
  ·have a:=b_ a;refine(bD rfl rfl <| aa rfl ?_);refine eL (λd=>?_) (λd=>?_)
   ·have d:=b_ d;refine(aa rfl <| ab x rfl <| bD rfl rfl <| aa rfl ?_);refine eL (λc=>?_) (λc=>?_)
    ·have c:=b_ c;refine(aa rfl <| ab y rfl <| bD rfl rfl <| g _ ?_)
     simp_all
    ·have c:=m8 (h_.2 c)
     simp_all
   ·have d:=m8 (h_.2 d)
    simp_all
  ·have a:=m8 (h_.2 a);exact(aa rfl <| g _ ⟨λz=>(by cases z),λz=>absurd z.1 a⟩)
theorem O2(F:ju K "is_ring" "is_ring" (top 51) f fd)(c1:fP mg "FEWEST_POINTS" 3)(c2:fP mg "MOST_POINTS" 64)(B:fP mg "FARTHEST_CORNER" 16384)(t:mg "len"=none)(u:mg "abs"=none)(g:mg "all"=none):
  dw P w K mg base iG 1 f fd ["ring"] (Ml K):=by
 refine F.ok Mz (λvs H Q E h=>?_) (λy A j s H vs Q E D h=>?_)
 ·obtain⟨r,a,rfl,_⟩:=h;rfl
 ·obtain⟨r,a,rfl,b,l,k⟩:=h;refine(aa (aj (eR (mn (A0 rF rF (cC c1 rfl) (a7 Ej (df dP (by rfl) t iR (af (pv 0) ar)) aq) (cC c2 rfl)))
    (aB (bg Ef)) cv)
   (aB (bg (df (IQ rfl) (by rfl) g PyProof.Rows.boot_all (af (A_ rfl Mz.nd (eI (pv 0)) (l' (own:=[("number",1)]) rfl) (λs H C cl n=>c6 (i:=1) Mz.nd rfl (Or.inl rfl)) (λs H C cl n=>yx)
    (λs H C cl n=>kJ rF (df r8 (by rfl) u uG (af (pv 1) ar)) (cC B rfl) (du _))) ar))))) ?_)
  have v:(((a.map V.int).length:Int)/2)=((a.length/2:Nat):Int):=by simp_all
  have kF:¬(3<=a.length/2/\a.length/2<=64)->Q (.bl false) H:=by
   intro z;have:=k H (aW.refl H);unfold kX at this;rw[di z,jw]at this;exact this
  refine(aa rfl <| aO r _ rfl (.inl b) <| bW rfl rfl ⟨by decide,by decide⟩ <| bD rfl rfl <| aa rfl ?_);rw[v];refine eL (λc=>?_) (λc=>?_)
  ·have c:=b_ c;refine(bD rfl rfl <| aa rfl ?_);refine eL (λm=>?_) (λm=>?_)
   ·exact kF λz=>(by grind)
   ·have m:((a.length/2:Nat):Int)<=64:=by
     simp_all
    refine(aa rfl <| a8 r rfl ⟨_,b⟩ <| λL g=>tX (xs:=a.map V.int) (λi H'=>aW H H'/\H' L=some (.aR (((a.take i).map HH).map V.bl))) ⟨aE g,ah⟩ ?_ ?_ ?_)
    ·rintro i H' _ ⟨d,_⟩;exact d.seq b
    ·rintro i x H' q ⟨d,e⟩;obtain⟨z,p,rfl⟩:=d_ q;refine⟨rfl,?_⟩;unfold JA;dsimp only;rw[ak rfl];refine(aa rfl <| ab z rfl <| bD rfl rfl ⟨_,e,?_,bf d g,?_⟩)
     ·rw[aZ,aZ,fH];exact sz (by omega)
     ·rw[ah,b7 p,b9,b9];rfl
    ·rintro H' ⟨d,e⟩;rw[aZ,dN]at e;refine(aO L _ rfl (dM.of e) ?_);have:=k H' d;unfold kX at this;rw[bE (⟨by omega,by omega⟩:3<=a.length/2/\a.length/2<=64),gR]at this
     simp_all
  ·have c:=m8 (h_.2 c);exact(aa rfl <| kF λz=>c (by omega))
theorem yo(cs:List (Int×Int)):kX (flat cs)=(decide (3<=cs.length/\cs.length<=64)&&cs.all Ql55.rightCorner):=by
 unfold kX;rw[l3,show 2*cs.length/2=cs.length by omega]
 congr 1
 induction cs with
 | nil=>rfl
 | cons c cs a=>
  have e:flat (c::cs)=c.1::c.2::flat cs:=rfl;rw[e,jO,jO,jO,a,<-Bool.and_assoc]
  congr 1
  refine i6.2 ?_;unfold HH Ql55.rightCorner;grind
theorem KH(l:Addr)(xs:Array Value)(n:Nat)(b:Addr)(ys:Array Value)(m:Nat)(dd:Option Addr)(sl:Array (Option Value))(h0:¬(!xs.isEmpty&&Builtin.List.listTooLong (xs.size+ys.size))=true)(h1:xs.size<=sizeLine)(h2:xs.size+ys.size<=sizeLine+1):
  Meets (Builtin.«list.extend» ⟨[.ref l,.ref b],[]⟩) (λ_ R s=>s.heap.get? l=some { cls:=.type "list",dict:=none,data:=.seq xs n,slots:=#[] }/\
   s.heap.get? b=some { cls:=.type "tuple",dict:=dd,data:=.seq ys m,slots:=sl }/\R (.ok (.ret Value.none)) { s with heap:=s.heap.update l (Obj.mapSeq λx=>x++ys),toks:=s.toks }):=
 .of_wp λprog w A R s h=>by
  obtain⟨hp,g,d,tk,os⟩:=s;refine fb h λhl hb h=>?_;have f2:=sub_tuple_tuple;have f3:=sub_list_list;have f4:=sub_tuple_list;have f5:=sub_list_tuple;have Tt:(xs++ys).size<=sizeLine+1:=by simp_all
  wp_walk using(jy hl rfl (hz:=h1) (_hz':=Tt)),wpAny_loadPart' hl,wpAny_loadPart' hb
  exact(aa rfl h)
def G7:V->List V->Hp->VK->Prop:=λx vs H Q=>∃l b xs a,x=.ref l/\vs=[.ref b]/\H l=some (.aR xs)/\H b=some (.bG a)/\xs.length+a.length<=sizeLine/\Q .gH (aX H l (.aR (xs++a)))
theorem vy:S7 X "list.extend" G7:=by
 intro O s σ H x vs v G Q I p t h;obtain⟨l,b,xs,i,rfl,rfl,m,B,J,q⟩:=h;cases p;obtain⟨u,rfl,w⟩:=t.one;cases w;refine cE (I.nV m) λz d=>aF d λc n r K e=>?_;refine cE (show dR X.prog X.w H s.heap b (.bG i) from I.dS b _ B) λ_ d=>ae d λa j d=>aH d λo E D d=>aA d λy C=>?_;have A:i.length=a.length:=ba j;obtain⟨cls,dd,F,sl⟩:=o;cases D;cases C;have g:c.toArray.size+a.toArray.size<=sizeLine:=by simp_all
 have f:¬(!c.toArray.isEmpty&&Builtin.List.listTooLong (c.toArray.size+a.toArray.size))=true:=by
  rw[Bj g,i4]
  simp_all
 refine call_meets nu (aa e rfl) PySem.F.entry_list_extend (PySem.F.args_list_extend_2 _ _)
  (KH l c.toArray n b a.toArray y dd sl f (by simp_all) (by omega)) (cO e E ?_)
 refine(aO (.gH) _ (I.sH (its':=c++a) m e (by simp) (r.append j) ?_) rfl q)
 simp_all
section
variable{D:List M.aJ}{st:Ql55.Both}{U:Nat}
theorem GC(b:M.Draws D st){x:Ln×Int×Int}(h:x∈M.dH D):zK x.1:=by
 unfold M.dH at h;obtain⟨y,a,rfl⟩:=aw.1 h;exact Ei b (aw.2 (ab y a rfl))
theorem zw(e:M.Draws D st){d:Ln}(h:d∈M.cY U (M.dH D)):zK d:=by
 unfold M.cY at h;refine ae (bV.1 h) λx c b=>?_;have a:=GC e c;unfold M.eZ at b;rcases cJ.1 b with z | z
 ·simp_all
 ·split at z
  ·rw[eP.1 z];exact⟨a.2,a.1⟩
  ·exact(nomatch z)
theorem JP(h:M.Draws D st):∀x,x∈M.dH D->kx x.2.1/\kx x.2.2:=by
 intro x a;have d:∀e,e∈D->wO e:=λe g=>k9 (h.ok e g);unfold M.dH at a;obtain⟨y,f,rfl⟩:=aw.1 a;have b:=Eh d _ f;have c:=HX (k:=y.1) d b;exact⟨c,sO c b⟩
theorem w4(h:D.length<=200):(M.dH D).length<=80000:=by
 unfold M.dH;rw[aZ];exact xi h
theorem gh:∀r x,M.aR x r∈x::r
 | [],x=>by simp[M.aR]
 | y::r,x=>by
  have:=gh r y;exact cN _ this
theorem Gu(a:M.Draws D st){d:Ln}(h:d∈(Ql55.stretches st U).map M.cU):zK d:=by
 obtain⟨t,b,rfl⟩:=aw.1 h;refine aN (M.eo.1 b) λx r L=>?_;have e:=zw a ((M.kL a).2 (ab x (L.mf.dir x (by simp)) rfl));have c:=zw a ((M.kL a).2 (ab (M.aR x r) (L.mf.dir _ (gh r x)) rfl));rw[L.eq];exact⟨e.1,c.2⟩
theorem str_len(c:M.Draws D st)(h:D.length<=200):(Ql55.stretches st U).length<=160000:=by
 have j:=M.wF (s:=st) (U:=U);have i:=we U (M.dH D);have g:=w4 h;have f:(Ql55.rims st U).length<=(M.cY U (M.dH D)).length:=by
  rw[<-aZ M.cU];refine M.fu (List.Pairwise.map M.cU (λ_ _ n z=>n (M.iY z)) M.pF) λd b=>?_;obtain⟨e,a,rfl⟩:=aw.1 b;exact(M.kL c).2 (ab e (M.fo.1 a) rfl)
 omega
end
noncomputable def v5(z d v:V):List (Str×V):=[("sizes",z),("drawn",d),("sided",v)]
theorem IJ(z d v y:V):dZ "sizes" y (v5 z d v)=v5 y d v:=by unfold v5 dZ;rw[ak rfl]
theorem BY(z d v y:V):dZ "drawn" y (v5 z d v)=v5 z y v:=by unfold v5 dZ;rw[ai (by decide)];unfold dZ;rw[ak rfl]
theorem rZ(z d v y:V):dZ "sided" y (v5 z d v)=v5 z d y:=by unfold v5 dZ;rw[ai (by decide)];unfold dZ;rw[ai (by decide)];unfold dZ;rw[ak rfl]
theorem zk(z d v:V):dZ "sided" v (dZ "drawn" d (dZ "sizes" z []))=v5 z d v:=by
 have e1:dZ "sizes" z []=[(("sizes":Str),z)]:=rfl;have a:dZ "drawn" d [(("sizes":Str),z)]=[(("sizes":Str),z),(("drawn":Str),d)]:=by unfold dZ;rw[ai (by decide)];rfl
 rw[e1,a];unfold dZ;rw[ai (by decide)];unfold dZ;rw[ai (by decide)];rfl
theorem Bx(z d v:V):(v5 z d v).lookup ("sizes":Str)=some z:=rfl
theorem vD(z d v:V):(v5 z d v).lookup ("drawn":Str)=some d:=by rw[<-BY z d v d,aV,ak rfl]
theorem By(z d v:V):(v5 z d v).lookup ("sided":Str)=some v:=by rw[<-rZ z d v v,aV,ak rfl]
theorem HU{m:Str}(c:m≠"sizes")(b:m≠"drawn")(a:m≠"sided")(z d v:V):(v5 z d v).lookup m=none:=by
 rw[<-zk,aV,ai a,aV,ai b,aV,ai c];rfl
structure DT(K:PySem.W.Frag)(C:Addr):Prop where
 cl:F6 K C
 GB:gG K C "sizes"
 drawn:gG K C "drawn"
 sided:gG K C "sided"
def Fr(T:List Addr)(H H':Hp):Prop:=∀x o,x∉T->H x=some o->H' x=some o
theorem Fr.trans(h:Fr T H H')(k:Fr T H' lp):Fr T H lp:=λx o n e=>k x o n (h x o n e)
theorem Fr.mono{U:List Addr}(h:Fr T H H')(s:∀x,x∈T->x∈U):Fr U H H':=λx o n e=>h x o (λz=>n (s x z)) e
theorem _root_.L2.aW.fr(s:aW H H'):Fr T H H':=λx o _ e=>s x o e
theorem Kp.fr(s:Kp p H H')(a:p∈T):Fr T H H':=λx o n e=>s x o (λz=>n (z▸a)) e
theorem Dh{u:HO}(a:p∈T):Fr T H (aX H p u):=λx o n e=>by grind[ao]
structure Dk(C CD:Addr)(S:List Addr)(H:Hp)(p:Addr)(st:Ql55.Both)(dx za da:Addr)(v:V)(D:List M.aJ):Prop where
 at_:H p=some (.ins CD dx (v5 (.ref za) (.ref da) v))
 z:H za=some (.aR [.int (Ql55.points st.a:Nat),.int (Ql55.points st.b:Nat)])
 d:oV C H da D
 dr:M.Draws D st
 vo:v=.gH\/∃l,v=.ref l/\l∈S/\K8 H l (M.dH D)
 mp:p∈S
 mz:za∈S
 md:da∈S
 sm:Ql55.points st.a<=64/\Ql55.points st.b<=64
 al:∀x,x∈S->x=p\/x=za\/x=da\/v=.ref x
def oW(C CD:Addr)(S:List Addr)(H:Hp)(p:Addr)(st:Ql55.Both):Prop:=∃dx za da v D,Dk C CD S H p st dx za da v D
theorem K8.vI{l:Addr}{xs:List (Ln×Int×Int)}(h:K8 H l xs)(d:∀o,H l=some o->H' l=some o)(b:∀c a,H c=some (.bG a)->H' c=some (.bG a)):K8 H' l xs:=by
 refine ae h λi f e=>?_;refine(ab i (d _ f) <| Paired.fx e λ_ _ z=>?_);refine ae z λq g g2=>?_;exact(ab q (b _ _ g) <| g2.keep b)
theorem oV.vI{l:Addr}(h:oV C H l D)(b:∀o,H l=some o->H' l=some o)(a:∀c dx fs,H c=some (.ins C dx fs)->H' c=some (.ins C dx fs)):oV C H' l D:=by
 refine ae h λf e d=>?_;refine(ab f (b _ e) <| Paired.fx d λ_ _ z=>?_);obtain⟨dx,g⟩:=z;exact⟨dx,a _ _ _ g⟩
section
variable{C CD:Addr}{S:List Addr}{H H':Hp}{p dx za da:Addr}{st:Ql55.Both}{v:V}{D:List M.aJ}
theorem Dk.kt(h:Dk C CD S H p st dx za da v D)(k:Kt H H'):Dk C CD S H' p st dx za da v D:=by
 refine⟨k _ _ trivial h.at_,k _ _ trivial h.z,h.d.vI (λo e=>?_) (λc dx fs e=>k _ _ trivial e),h.dr,?_,h.mp,h.mz,h.md,h.sm,h.al⟩
 ·refine ae h.d λd a _=>?_;rw[a]at e;cases e;exact k _ _ trivial a
 ·rcases h.vo with e | ⟨l,e,b,sl⟩
  ·exact .inl e
  ·refine .inr (a8 l e b <| sl.vI (λo e=>?_) k.gY);refine ae sl λd a _=>?_;rw[a]at e;cases e;exact k _ _ trivial a
theorem Dk.has(h:Dk C CD S H p st dx za da v D){x:Addr}(a:x∈S):H x≠none:=by
 refine ae h.d λb d _=>?_;rcases h.al x a with z | z | z | z
 ·rw[z,h.at_];simp_all
 ·rw[z,h.z];simp_all
 ·simp_all
 ·rcases h.vo with e | ⟨l,e,_,b,c,_⟩
  ·rw[e]at z;cases z
  simp_all
theorem _root_.L2.aW.kt(s:aW H H'):Kt H H':=λc o _ h=>s c o h
theorem Dk.aX{L:Addr}{xs ys:List V}(h:Dk C CD S H p st dx za da v D)(f:H L=some (.aR xs))(n:L∉S):Dk C CD S (aX H L (.aR ys)) p st dx za da v D:=by
 have a:∀x,x∈S->x≠L:=λx i z=>n (z▸i);have g:∀c b,H c=some (.bG b)->L2.aX H L (.aR ys) c=some (.bG b):=λc b e=>by rw[ao (a3 e f (by intro z;cases z))];exact e
 refine⟨by rw[ao (a _ h.mp)];exact h.at_,by rw[ao (a _ h.mz)];exact h.z,h.d.vI (λo e=>by rw[ao (a _ h.md)];exact e) (λc dx fs e=>by rw[ao (a3 e f (by intro z;cases z))];exact e),h.dr,?_,h.mp,h.mz,h.md,h.sm,h.al⟩;rcases h.vo with e | ⟨l,e,d,sl⟩
 ·exact .inl e
 ·exact .inr (a8 l e d <| sl.vI (λo e=>by rw[ao (a _ d)];exact e) g)
end
theorem gD.aX{pos:Pos}{qual:Str}{P p:Addr}{H:Hp}{o u:HO}(h:gD pos qual P H)(e:H p=some o)(j:∀ps,o≠.lq ps)(i:∀a b,o≠.oI a b):gD pos qual P (aX H p u):=by
 refine aH h λps g k d=>?_;refine(a8 ps (by rw[ao (a3 g e (bu (j ps)))];exact g) k ?_);rcases d with d | ⟨c,q,d,f⟩
 ·exact .inl d
 ·exact .inr (br c q d <| by rw[ao (a3 f e (bu (i _ _)))];exact f)
theorem gD.kp{P:Addr}{o:HO}(h:gD pos qual P H)(k:Kp p H H')(i:H p=some o)(g:P≠p)(f:∀a b,o≠.oI a b):gD pos qual P H':=by
 refine aH h λps l j d=>?_;refine(a8 ps (k _ _ g l) j ?_);rcases d with d | ⟨c,q,d,e⟩
 ·exact .inl d
 ·exact .inr (br c q d <| k _ _ (a3 e i (bu (f _ _))) e)
theorem gD.lq{pos:Pos}{qual:Str}{P:Addr}{H:Hp}(h:gD pos qual P H):∃ps,H P=some (.lq ps):=by
 refine ae h λps h _=>?_;exact⟨ps,h⟩
structure Cf(P:Program)(w:World)(K:PySem.W.Frag)(mg:Str->Option Value)(base:Heap)(C:Addr)(m:Str)(k:Nat)(ps:List Str)(sp:Sp):Prop where
 cl:F6 K C
 ex:∃f fd,Meth K C m f/\dw P w K mg base iG k f fd ps sp/\Binds K fd ps []
theorem xg{m:Str}{o e:Expr}{es:List Expr}{t:TA}{d:Sem Bool}(F:Cf X.prog X.w X.K X.mg X.base C m k ps sp)(h:fB k X.A)(i:PE X o ta)(l:PA X (e::es) t)(a:starEach (e::es) X.env=(false,eval e X.env)::starEach es X.env:=by rfl)(b:(backTo pos (starEach es X.env)).any (·.1)=false:=by rfl)
  (g:eval (.Call (.Attribute o m iF) (e::es) [] pos) X.env=(do
   let c <-eval o X.env
   standAt iF.atName
   let (f,first) <-holding [c] (getMethod c m d)
   callWith pos f first (backTo pos (starEach (e::es) X.env)) (backToKw pos (keywordEach [] X.env))):=by rfl):PE X (.Call (.Attribute o m iF) (e::es) [] pos) (DQ C m sp [] E0 ta t):=by
 refine aF F.ex λf fd M n j=>?_;exact J3 i F.cl M n h j .nil xh l a b g
theorem Ht{m:Str}{o:Expr}{b:Sem Bool}(F:Cf X.prog X.w X.K X.mg X.base C m k ps sp)(d:fB k X.A)(e:PE X o ta)
  (c:eval (.Call (.Attribute o m iF) [] [] pos) X.env=(do
   let a <-eval o X.env
   standAt iF.atName
   let (f,first) <-holding [a] (getMethod a m b)
   callWith pos f first (backTo pos (starEach [] X.env)) (backToKw pos (keywordEach [] X.env))):=by rfl):PE X (.Call (.Attribute o m iF) [] [] pos) (DQ C m sp [] E0 ta mK):=by
 refine aF F.ex λf fd M h g=>?_;exact Hr e F.cl M h d g .nil xh c
abbrev RO:Stmt:=inClass (top 53) 0
abbrev RQ:Stmt:=inClass (top 53) 1
abbrev RR:Stmt:=inClass (top 53) 2
abbrev RL:Stmt:=inClass (top 53) 3
abbrev RP:Stmt:=inClass (top 53) 4
abbrev RN:Stmt:=inClass (top 53) 5
abbrev RM:Stmt:=inClass (top 53) 6
theorem RF:bc ["self"] ["self"] (aK RO):=by constructor<;>decide
theorem RG:bc ["self"] ["self"] (aK RQ):=by constructor<;>decide
theorem OE:bc ["self","which","ring","size"] ["self","which","ring"] (aK RR):=by constructor<;>decide
theorem RD:bc ["self","how","x","y","w"] ["self","how","x","y","w"] (aK RL):=by constructor<;>decide
def Own(S a:List Addr)(H:Hp):Prop:=∀x,x∈a->x∈S\/H x=none
def JK(C CD:Addr):Sp:=λvs H Q _=>∃p dx fs,vs=[.ref p]/\H p=some (.ins CD dx fs)/\(fs=[]\/∃z d v,fs=v5 z d v)/\
 ∀H' a r,Kp p H H'->oW C CD a H' p Ql55.empty->Own [p] a H->H r=none->H' r=some (.aR [.int 0])->Q (.ref r) H'
def Mp(C CD:Addr):Sp:=λvs H Q _=>∃p dx,vs=[.ref p]/\H p=some (.ins CD dx [])/\
 ∀H' a,Kp p H H'->oW C CD a H' p Ql55.empty->Own [p] a H->Q .gH H'
theorem BZ{fs:List (Str×V)}(h:fs=[]\/∃z d v,fs=v5 z d v)(z d v:V):dZ "sided" v (dZ "drawn" d (dZ "sizes" z fs))=v5 z d v/\fs.length<=3:=by
 rcases h with rfl | ⟨a,c,b,rfl⟩
 ·exact⟨zk z d v,by decide⟩
 ·rw[IJ,BY,rZ];exact⟨rfl,a0 3⟩
theorem Pb(F:ju K "begin" "Desk.begin" RQ f fd)(T:DT K CD)(c0:fP mg "DONE" 0):dw P w K mg base iG 1 f fd ["self"] (JK C CD):=by
 refine F.ok RG (λvs H Q E h=>?_) (λwd A z s H vs Q E hr h=>?_)
 ·obtain⟨p,dx,fs,rfl,_⟩:=h;rfl
 ·obtain⟨p,dx,fs,rfl,M,l,k⟩:=h;refine(aa (aj (ji (pv 0) (eC (af aq (af aq ar))) rfl) (aj (ji (pv 0) (eC ar) rfl) (aj (ji (pv 0) Hq rfl) (aB (bg (eC (af (cC c0 rfl) ar))))))) ?_);have N:fs.length<=3:=(BZ l .gH .gH .gH).2;refine⟨(by show 2<=sizeLine;decide),λza j=>?_⟩;have u:p≠za:=aQ M j;refine(aa rfl <| bU p CD dx fs rfl (by rw[ao u];exact M) T.cl T.GB (by omega) ?_);generalize g:aX (aX H za (.aR [.int 0,.int 0])) p (.ins CD dx (dZ "sizes" (.ref za) fs))=y at *;have I:y p=some (.ins CD dx (dZ "sizes" (.ref za) fs)):=by rw[<-g];exact ah
  have D:y za=some (.aR [.int 0,.int 0]):=by rw[<-g,ao (bu u)];exact ah
  have B:Kp p H y:=λx o n e=>by rw[<-g,ao n,ao (aQ e j)];exact e
  refine⟨(by simp_all),λda a=>?_⟩;have v:p≠da:=aQ I a;have W:za≠da:=aQ D a;refine(aa rfl <| bU p CD dx _ rfl (by rw[ao v];exact I) T.cl T.drawn (fe (fw _ _ N) (by decide)) ?_);generalize c:aX (aX y da (.aR [])) p (.ins CD dx (dZ "drawn" (.ref da) (dZ "sizes" (.ref za) fs)))=m at *;have U:m p=some (.ins CD dx (dZ "drawn" (.ref da) (dZ "sizes" (.ref za) fs))):=by rw[<-c];exact ah
  have S:m za=some (.aR [.int 0,.int 0]):=by rw[<-c,ao (bu u),ao W];exact D
  have d2:m da=some (.aR (([]:List Addr).map V.ref)):=by rw[<-c,ao (bu v)];exact ah
  have X:Kp p H m:=λx o n e=>by rw[<-c,ao n,ao (aQ (B _ _ n e) a)];exact B _ _ n e
  refine(aa rfl <| bU p CD dx _ rfl U T.cl T.sided (fe (fw _ _ (fw _ _ N)) (by decide)) ?_);rw[(BZ l (.ref za) (.ref da) .gH).1];generalize b:aX m p (.ins CD dx (v5 (.ref za) (.ref da) .gH))=i at *;have G:i p=some (.ins CD dx (v5 (.ref za) (.ref da) .gH)):=by rw[<-b];exact ah
  have R:i za=some (.aR [.int 0,.int 0]):=by rw[<-b,ao (bu u)];exact S
  have Z:i da=some (.aR (([]:List Addr).map V.ref)):=by rw[<-b,ao (bu v)];exact d2
  have J:Kp p H i:=λx o n e=>by rw[<-b,ao n];exact X _ _ n e
  refine⟨(by show 1<=sizeLine;decide),λr d=>?_⟩;have t:aW i (aX i r (.aR [.int 0])):=aE d;have Y:∀x,i x=none->x≠p->H x=none:=λx e n=>by
   cases q:H x with
   | none=>rfl
   | some o=>rw[J x o n q]at e;cases e
  have O:H da=none:=by
   cases q:H da with
   | none=>rfl
   | some o=>rw[B da o (bu v) q]at a;cases a
  refine k _ [p,za,da] r (λx o n e=>t _ _ (J _ _ n e)) ⟨dx,za,da,.gH,[],⟨t _ _ G,t _ _ R,(ab [] (t _ _ Z) <| .nil),KP,.inl rfl,by simp,by simp,by simp,⟨by decide,by decide⟩,λx L=>(by simpa using L)⟩⟩ ?_ (Y r d (bu (aQ G d))) ah;intro x L;grind
theorem O_(F:ju K "__init__" "Desk.__init__" RO f fd)(G:Cf P w K mg base CD "begin" 1 ["self"] (JK C CD)):dw P w K mg base iG 2 f fd ["self"] (Mp C CD):=by
 refine F.ok RF (λvs H Q E h=>?_) (λi A a s H vs Q E d h=>?_)
 ·obtain⟨p,dx,rfl,_⟩:=h;rfl
 ·obtain⟨p,dx,rfl,b,k⟩:=h;refine(aa (aB (fJ (Ht G d (pv 0)))) ?_);refine(aa rfl <| eQ p dx [] rfl b rfl <| eQ p dx [] rfl b (.inl rfl) <| λH' j r c g e _ _=>k H' j c g e)
theorem Ex(G:Jg K mg g fs){h:Int}(a:Ql55.isHow h=true):∃f,wA (fs.map V.ref) h=some (.ref f)/\zF K f (FQ h.toNat):=by
 unfold Ql55.isHow at a;rw[c5,m7,m7]at a;obtain⟨f,b⟩:∃f,fs[h.toNat]?=some f:=⟨_,cQ (by rw[G.len];omega)⟩
 exact(ab f (zA (j:=h.toNat) (by omega) (by simp_all)) <| G.row _ _ b)
theorem Dk.len{st:Ql55.Both}(h:Dk C CD S H p st dx za da v D):D.length<=200:=by
 have:=xO h.dr;have:=h.sm;omega
def Mo(C CD:Addr):Sp:=λvs H Q _=>∃p S st h x y z,vs=[.ref p,.int h,.int x,.int y,.int z]/\oW C CD S H p st/\
 ∀H' q,aW H H'->H q=none->H' q=some (.aR [.int (Ql55.does st (.where_ h x y z)).2.value])->Q (.ref q) H'
theorem O8(F:ju K "where" "Desk.where" RL f fd)(T:DT K CD)(G:Jg K mg g fs)(Y:Fn P w K mg base "is_figure" 1 ["how"] Gw)(X:Fn P w K mg base "is_asked" 1 ["x","y","w"] Mm)(W:Fn P w K mg base "standing" 4 ["edges","figure","point"] (yd K C))(V:fP mg "WRONG" (-2)):dw P w K mg base iG 5 f fd ["self","how","x","y","w"] (Mo C CD):=by
 refine F.ok RD (λvs H Q E h=>?_) (λU A r s H vs Q E u h=>?_)
 ·obtain⟨p,S,st,h,x,y,z,rfl,_⟩:=h;rfl
 ·obtain⟨p,S,st,h,x,y,z,rfl,a,k⟩:=h;refine e9 a λdx za da v D a=>?_;refine(aa (aj (eR (PW.pt (Ls (mn (fW (bX Y (u.mono (j:=1) (by decide)) rfl (af (pv 1) ar)))) (Ha (mn (fW (bX X (u.mono (j:=1) (by decide)) rfl (af (pv 2) (af (pv 3) (af (pv 4) ar)))))))))
    (aB (bg (eC (af (cC V rfl) ar)))) cv)
   (aB (bg (eC (af (bX W u rfl (af (bJ (pv 0) rfl) (af (aT aS (yE G.at_ rfl) (pv 1) (λ_ _=>rfl)) (af (fX (af (pv 2) (af (pv 3) (af (pv 4) ar)))) ar)))) ar))))) ?_)
  have m:(Ql55.isHow h=false\/Ql55.rightPoint ⟨x,y,z⟩=false)->(1<=sizeLine/\∀p,H p=none->Q (.ref p) (aX H p (.aR [.int (-2)]))):=by
   intro b;refine⟨by decide,λq d=>k _ q (aE d) d ?_⟩;rw[ah];show _=some (HO.aR [.int (if Ql55.isHow h=false\/Ql55.rightPoint ⟨x,y,z⟩=false then Ql55.only (-2) else _).value]);rw[ak b];rfl
  refine(aa rfl <| ab h rfl <| aa rfl ?_);refine eL (λl=>m (.inl ?_)) (λl=>?_)
  ·simp_all
  ·have l:Ql55.isHow h=true:=by simpa using l
   refine(aa rfl <| aa rfl <| aa rfl ⟨x,y,z,rfl,aa rfl ?_⟩);refine eL (λc=>m (.inr ?_)) (λc=>?_)
   ·simp_all
   ·have c:Ql55.rightPoint ⟨x,y,z⟩=true:=by simpa using c
    refine ae (Ex G l) λO e1 R=>?_;have Z:1<=z/\z<=2147483648/\-(2^47)<=x/\x<=2^47/\-(2^47)<=y/\y<=2^47:=by
     unfold Ql55.rightPoint at c;exact b_ c
    have B:∀i:Int,-(2^47)<=i->i<=2^47->Bd 200 i:=by
     intro i g1 g2;unfold Bd;omega
    refine(aa rfl <| cI p CD dx _ _ rfl a.at_ T.cl T.drawn (vD _ _ _) <| aa rfl <| aU g _ _ _ rfl rfl (G.bG.sq H) e1 <| aa rfl <| aa rfl <| cz rfl (by show 3<=sizeLine;decide) <| λt I=>?_);refine⟨da,O,t,D,h.toNat,(x,y,z),rfl,a.d.keep (aE I),λe N=>k9 (a.dr.ok e N),a.len,R,ah,(cO (B x (by omega) (by omega)) (B y (by omega) (by omega)) <| B z (by omega) (by omega)),λH' ks J L=>?_⟩;refine⟨(by show 1<=sizeLine;decide),λq d=>?_⟩;have n:=(aE (o:=.bG [.int x,.int y,.int z]) I).trans J;refine k _ q (bf n (n.free d)) (n.free d) ?_;rw[ah,M.Ge a.dr (show 0<z by omega) L];show _=some (HO.aR [.int (if Ql55.isHow h=false\/Ql55.rightPoint ⟨x,y,z⟩=false then Ql55.only (-2) else _).value]);rw[ai (by rw[l,c];simp)];rfl
theorem Fe{R:α->β->Prop}{c b:List α}{cs a:List β}(h:Paired R c cs)(k:Paired R b a):Paired R (c++b) (cs++a):=by
 induction h with
 | nil=>exact k
 | cons h _ d=>exact .cons h d
def LI:HO->Prop
 | .aR _=>True
 | .ins _ _ _=>True
 | _=>False
def Kl(H H':Hp):Prop:=∀x o,¬LI o->H x=some o->H' x=some o
theorem _root_.L2.aW.kl(s:aW H H'):Kl H H':=λx o _ h=>s x o h
theorem gD.kl{P:Addr}(h:gD pos qual P H)(k:Kl H H'):gD pos qual P H':=by
 refine aH h λps e d a=>?_;refine(a8 ps (k _ _ (λz=>z) e) d ?_);rcases a with a | ⟨c,q,a,b⟩
 ·exact .inl a
 ·exact .inr (br c q a <| k _ _ (λz=>z) b)
def Mq(C CD:Addr):Sp:=λvs H Q _=>∃p r S st k cs,vs=[.ref p,.int k,.ref r]/\oW C CD S H p st/\H r=some (.aR ((flat cs).map V.int))/\r∉S/\cs.length<=1000/\
 ∀H' a q,Fr S H H'->Kl H H'->oW C CD a H' p (Ql55.does st (.add k cs)).1->Own S a H->H q=none->H' q=some (.aR [.int (Ql55.does st (.add k cs)).2.value])->Q (.ref q) H'
theorem PN(k:Int):QJ (.int k) [.int 0,.int 1]=decide (k=0\/k=1):=by
 unfold QJ;show(decide (0=k) || (decide (1=k) || false))=_;grind
noncomputable def i9(st:Ql55.Both)(k:Int)(cs:List (Int×Int)):Ql55.Both:=if k=0 then { st with a:=st.a++[cs] } else { st with b:=st.b++[cs] }
section
variable{st:Ql55.Both}{k:Int}{cs:List (Int×Int)}
theorem FY(h:¬((k=0\/k=1)/\kX (flat cs)=true)):Ql55.does st (.add k cs)=(st,Ql55.only (-2)):=by
 rw[yo,c5,m7]at h;show(if k<0\/1<k\/cs.length<3\/Ql55.MOST<cs.length\/cs.all Ql55.rightCorner=false then (st,Ql55.only (-2)) else _)=_;refine ak ?_;unfold Ql55.MOST;grind
theorem NU(b:k=0\/k=1)(a:kX (flat cs)=true):Ql55.does st (.add k cs)=if 64<Ql55.points (Ql55.drawing st k)+cs.length then (st,Ql55.only (-6)) else (i9 st k cs,Ql55.only 0):=by
 rw[yo,c5,m7]at a;show(if k<0\/1<k\/cs.length<3\/Ql55.MOST<cs.length\/cs.all Ql55.rightCorner=false then (st,Ql55.only (-2)) else _)=_;unfold Ql55.MOST;rw[ai]
 ·rfl
 grind
theorem GA(a:k=0\/k=1):wA [V.int (Ql55.points st.a:Nat),V.int (Ql55.points st.b:Nat)] k=some (.int (Ql55.points (Ql55.drawing st k):Nat)):=by
 rcases a with rfl | rfl <;> rfl
theorem E4(a:k=0\/k=1):∃j,Ie 2 k=some j/\[V.int (Ql55.points st.a:Nat),V.int (Ql55.points st.b:Nat)].set j (.int ((Ql55.points (Ql55.drawing st k):Nat)+(cs.length:Nat)))=[V.int (Ql55.points (i9 st k cs).a:Nat),V.int (Ql55.points (i9 st k cs).b:Nat)]:=by
 rcases a with rfl | rfl
 ·refine(ab 0 rfl ?_);show[V.int _,V.int _]=[V.int (Ql55.points (st.a++[cs]):Nat),V.int _]
  rw[kI];rfl
 ·refine(ab 1 rfl ?_);show[V.int _,V.int _]=[V.int _,V.int (Ql55.points (st.b++[cs]):Nat)]
  rw[kI];rfl
theorem EC(h:M.Draws D st)(b:k=0\/k=1)(a:kX (flat cs)=true):M.Draws (D++rC cs (k+1)) (i9 st k cs):=by
 rw[yo,c5]at a;rcases b with rfl | rfl
 ·exact KO h a.2
 ·exact KN h a.2
theorem JM(h:Ql55.points st.a<=64/\Ql55.points st.b<=64)(b:k=0\/k=1)(a:¬64<Ql55.points (Ql55.drawing st k)+cs.length):Ql55.points (i9 st k cs).a<=64/\Ql55.points (i9 st k cs).b<=64:=by
 rcases b with rfl | rfl
 ·refine⟨?_,h.2⟩;show Ql55.points (st.a++[cs])<=64;rw[kI];have:¬64<Ql55.points st.a+cs.length:=a;omega
 ·refine⟨h.1,?_⟩;show Ql55.points (st.b++[cs])<=64;rw[kI];have:¬64<Ql55.points st.b+cs.length:=a;omega
end
theorem Pc(F:ju K "add" "Desk.add" RR f fd)(T:DT K CD)(nC:C≠CD)(G1:Fn P w K mg base "is_ring" 1 ["ring"] (Ml K))(G2:Fn P w K mg base "ring_edges" 3 ["ring","mark"] (Mf K C))(cW:fP mg "WRONG" (-2))(cF:fP mg "FULL" (-6))(cD:fP mg "DONE" 0)(cM:fP mg "MOST_POINTS" 64)(hN:mg "len"=none):dw P w K mg base iG 4 f fd ["self","which","ring"] (Mq C CD):=by
 refine F.ok OE (λvs H Q E h=>?_) (λwd A dF s H vs Q E hr h=>?_)
 ·obtain⟨p,r,S,st,k,cs,rfl,_⟩:=h;rfl
 ·obtain⟨p,r,S,st,i,cs,rfl,b,TB,nr,mM,k⟩:=h;refine e9 b λdx za da v D b=>?_;refine(aa (aj (eR (PW.pt (Ls (dE (r:=Tg K true) yK (pv 1) (fX (af aq (af aq ar))) rfl) (Ha (mn (fW (bX G1 (hr.mono (j:=1) (by decide)) rfl (af (pv 2) ar)))))))
    (aB (bg (eC (af (cC cW rfl) ar)))) cv)
   (aj (a_ (i:=3) OE.nd rfl (Or.inl rfl) (a7 iJ (aT cT (bJ (pv 0) rfl) (pv 1) (λ_ _=>rfl)) (a7 Ej (df dP (by rfl) hN iR (af (pv 2) ar)) aq)))
   (aj (eR (dE xn (pv 3) (cC cM rfl) (du _)) (aB (bg (eC (af (cC cF rfl) ar)))) cv)
   (aj (MM (pv 3) (MQ (bJ (pv 0) rfl) (pv 1) set_list))
   (aj (fJ (kK gf nu rj xq (bJ (pv 0) rfl) (af (bX G2 hr rfl (af (pv 2) (af (a7 iJ (pv 1) aq) ar))) ar)))
   (aj (ji (pv 0) Hq rfl) (aB (bg (eC (af (cC cD rfl) ar)))))))))) ?_)
  have el:(((flat cs).map V.int).length:Int)/2=(cs.length:Int):=by rw[aZ,l3];omega
  have own:Own S S H:=λx hx=>.inl hx;have bad:∀H0,aW H H0->¬((i=0\/i=1)/\kX (flat cs)=true)->(1<=sizeLine/\∀q,H0 q=none->Q (.ref q) (aX H0 q (.aR [.int (-2)]))):=by
   intro H0 M hn;rw[FY hn]at k;refine⟨by decide,λq B=>?_⟩;have X:=bf (o:=.aR [.int (-2)]) M (M.free B);exact k _ S q X.fr X.kl ⟨dx,za,da,v,D,b.kt X.kt⟩ own (M.free B) ah
  refine(cz rfl (by show 2<=sizeLine;decide) <| λt ht=>?_);have M:aW H (aX H t (.bG [.int 0,.int 1])):=aE ht;have QK:aX H t (.bG [.int 0,.int 1]) t=some (.bG [.int 0,.int 1]):=ah;generalize aX H t (.bG [.int 0,.int 1])=H0 at *;refine(e8 t _ rfl (.inr (dU.of QK)) rfl rfl <| aa rfl ?_);refine eL (λh1=>bad _ M λz=>?_) (λh1=>?_)
  ·grind[PN,decide_eq_true]
  have U:i=0\/i=1:=by
   refine d8 λz=>h1 ?_;grind[PN,decide_eq_false]
  refine(aa rfl <| eK r (flat cs) rfl (dM.of (M _ _ TB)) (by rw[l3];omega) <| λJ X=>(aa rfl ?_));have d:=M.trans X;refine eL (λh2=>bad _ d λz=>?_) (λh2=>?_)
  ·simp_all
  have hk:kX (flat cs)=true:=by simpa using h2
  have y:=b.kt d.kt;have Io:=d _ _ TB;refine(aa rfl <| cI p CD dx _ _ rfl y.at_ T.cl T.GB (Bx _ _ _) <| aa rfl <| aU za _ _ _ rfl rfl (dM.of y.z) (GA U) <| aa rfl <| aO r _ rfl (.inl (dM.of Io)) <| bW rfl rfl ⟨by decide,by decide⟩ <| bD rfl rfl ?_);rw[el];rw[NU U hk]at k;refine(aa rfl <| bD rfl rfl <| aa rfl ?_);refine eL (λN=>?_) (λN=>?_)
  ·have N:64<Ql55.points (Ql55.drawing st i)+cs.length:=by grind
   rw[ak N]at k;refine⟨(by show 1<=sizeLine;decide),λq B=>?_⟩;have s2:=bf (o:=.aR [.int (-6)]) d (d.free B);exact k _ S q s2.fr s2.kl ⟨dx,za,da,v,D,b.kt s2.kt⟩ own (d.free B) ah
  have N:¬64<Ql55.points (Ql55.drawing st i)+cs.length:=λz=>N (bE (by omega));rw[ai N]at k;refine ae (E4 (st:=st) (cs:=cs) U) λj hj ej=>?_;refine(aa rfl <| aa rfl <| cI p CD dx _ _ rfl y.at_ T.cl T.GB (Bx _ _ _) <| aa rfl <| aU za _ _ j rfl rfl y.z hj ?_);rw[ej];refine ae y.d λas g To=>?_;have zp:p≠za:=a3 y.at_ y.z (by intro z;cases z);have dp:p≠da:=a3 y.at_ g (by intro z;cases z);have zd:za≠da:=a3 y.z g (by
   intro z;cases as with
   | nil=>cases z
   | cons a as=>cases z)
  have rp:r≠p:=λz=>nr (z▸b.mp);have rz:r≠za:=λz=>nr (z▸b.mz);have rd:r≠da:=λz=>nr (z▸b.md);generalize Vm:HO.aR [V.int (Ql55.points (i9 st i cs).a:Nat),V.int (Ql55.points (i9 st i cs).b:Nat)]=Z at *;have nz:∀c o,c≠za->J c=some o->aX J za Z c=some o:=λc o n e=>by rw[ao n];exact e
  have p2:=nz _ _ zp y.at_;have a2:=nz _ _ (bu zd) g;have r2:=nz _ _ rz Io;have z2:aX J za Z za=some Z:=ah;have e2:∀c dx fs,J c=some (.ins C dx fs)->aX J za Z c=some (.ins C dx fs):=λc dx fs e=>nz _ _ (a3 e y.z (by intro z;cases z)) e;have f2:Fr [p,za,da] J (aX J za Z):=Dh (by simp);generalize aX J za Z=H2 at *;refine(aa rfl <| sZ p CD dx _ _ rfl p2 T.cl T.drawn (vD _ _ _) (.inl ⟨rfl,_,dM.of a2⟩) <| aa rfl <| aa rfl <| bD rfl rfl <| eQ r cs (i+1) rfl (dM.of r2) (by omega) <| λI l R hl he=>?_);refine ae he λbs N7 Tj=>?_;have bl:=ba To;have Y2:=ba Tj;have dl:=xO (EC b.dr U hk);have sk:=JM b.sm U N;rw[dC]at dl;refine(bU da l _ _ rfl rfl (R _ _ a2) N7 ?_ ?_)
  ·rw[aZ,aZ];refine fG (show as.length+bs.length<=200 by omega) (by decide)
  have nd:∀u c o,c≠da->I c=some o->aX I da u c=some o:=λu c o n e=>by rw[ao n];exact e
  rw[<-b9];generalize hy:HO.aR ((as++bs).map V.ref)=Y at *;have p4:=nd Y _ _ dp (R _ _ p2);have z4:=nd Y _ _ zd (R _ _ z2);have a4:aX I da Y da=some Y:=ah;have e4:∀c dx fs,I c=some (.ins C dx fs)->aX I da Y c=some (.ins C dx fs):=λc dx fs e=>nd _ _ _ (a3 e (R _ _ a2) (by intro z;cases z)) e;have f4:Fr [p,za,da] I (aX I da Y):=Dh (by simp);generalize aX I da Y=G at *;refine(aa rfl <| bU p CD dx _ rfl p4 T.cl T.sided (by show 3<1000;decide) ?_);rw[rZ];have np:∀u c o,c≠p->G c=some o->aX G p u c=some o:=λu c o n e=>by rw[ao n];exact e
  generalize hw:HO.ins CD dx (v5 (V.ref za) (V.ref da) V.gH)=W at *;have p5:aX G p W p=some W:=ah;have z5:=np W _ _ (bu zp) z4;have a5:=np W _ _ (bu dp) a4;have e5:∀c dx fs,G c=some (.ins C dx fs)->aX G p W c=some (.ins C dx fs):=λc dx fs e=>np _ _ _ (a3 e p4 (by simp_all)) e;have f5:Fr [p,za,da] G (aX G p W):=Dh (by simp);generalize aX G p W=H5 at *;refine⟨(by show 1<=sizeLine;decide),λq B=>?_⟩;have L:aW H5 (aX H5 q (.aR [.int 0])):=aE B;have O:Fr [p,za,da] H H5:=(((d.fr.trans f2).trans R.fr).trans f4).trans f5;have VA:H q=none:=by
   cases e:H q with
   | none=>rfl
   | some o=>
    have m:q∉[p,za,da]:=by
     grind
    rw[O q o m e]at B;cases B
  have sub:∀x,x∈[p,za,da]->x∈S:=λx m=>by
   rcases aY.1 m with z | m
   ·rw[z];exact b.mp
   ·rcases aY.1 m with z | m
    ·rw[z];exact b.mz
    ·rw[eP.1 m];exact b.md
  have fr:Fr S H H5:=O.mono sub;have kl:Kl H H5:=λx o n e=>by
   refine O x o (λm=>n ?_) e;refine ae b.d λY3 h0 _=>?_;rcases aY.1 m with z | m
   ·rw[z,b.at_]at e;cases e;trivial
   ·rcases aY.1 m with z | m
    ·rw[z,b.z]at e;cases e;trivial
    ·rw[eP.1 m,h0]at e;cases e;trivial
  subst Vm hy hw;refine k _ [p,za,da] q (fr.trans L.fr) (λx o n e=>L _ _ (kl x o n e)) ⟨dx,za,da,.gH,D++rC cs (i+1),⟨L _ _ p5,L _ _ z5,(ab (as++bs) (L _ _ a5) ?_),EC b.dr U hk,.inl rfl,by simp,by simp,by simp,sk,λx hx=>(by simpa using hx)⟩⟩ (λx m=>.inl (sub x m)) VA ah;refine Fe (Paired.fx To λc e z=>?_) (Paired.fx Tj λc e z=>?_)
  ·obtain⟨x,z⟩:=z;exact⟨x,L _ _ (e5 _ _ _ (e4 _ _ _ (R _ _ (e2 _ _ _ z))))⟩
  ·obtain⟨x,z⟩:=z;exact⟨x,L _ _ (e5 _ _ _ (e4 _ _ _ z))⟩
theorem RE:bc ["self","how"] ["self","how"] (aK RM):=by constructor<;>decide
def Tb(P1 P2:Addr)(H:Hp):Prop:=gD N4.1 QE P1 H/\gD CJ.1 E8 P2 H
theorem zg(h:Fr T H H')(b:∀x,x∈T->H' x≠none)(a:H' q=none):H q=none:=by
 cases e:H q with
 | none=>rfl
 | some o=>
  by_cases m:q∈T
  ·simp_all
  ·rw[h q o m e]at a;cases a
def JI(C CD P1 P2:Addr):Sp:=λvs H Q _=>∃p S st h,vs=[.ref p,.int h]/\oW C CD S H p st/\Ql55.isHow h=true/\Tb P1 P2 H/\
 ∀H' a r,Fr [p,P1] H H'->oW C CD a H' p st->Own S a H->Tb P1 P2 H'->zL H' r ((Ql55.stretches st h.toNat).map M.cU)->Q (.ref r) H'
def L7(K:PySem.W.Frag)(g P1:Addr):TE:=uU (DX P1) [] E0 (jo (uU (yf K) [] E0 (jo (Ou K (nJ 0) "sided") (jo (EY (sy K) (tC (.ref g)) (nJ 1)) mK))) mK)
theorem O9(F:ju K "border_stretches" "Desk.border_stretches" RM f fd)(T:DT K CD)(nC:C≠CD)(nP:P1≠P2)(FG:Jg K mg g fs)(G1:Fn P w K mg base "sided_parts" 6 ["edges"] (Me C))(G2:Fn P w K mg base "borders" 1 ["sided","figure"] (yf K))(G3:Fn P w K mg base "stretches" 5 ["lines"] (DX P1)):dw P w K mg base iG 7 f fd ["self","how"] (JI C CD P1 P2):=by
 refine F.ok RE (λvs H Q E h=>?_) (λwd A dF s H vs Q E hr h=>?_)
 ·obtain⟨p,S,st,h,rfl,_⟩:=h;rfl
 ·obtain⟨p,S,st,h,rfl,i,hh,X,k⟩:=h;refine e9 i λdx za da v D i=>?_;refine(aa (aj (eR (Hg (MV (bJ (pv 0) rfl))) (aB (ji (pv 0) (bX G1 hr rfl (af (bJ (pv 0) rfl) ar)) rfl)) cv)
   (aB (bg (bX G3 (hr.mono (j:=5) (by decide)) rfl (af (bX G2 (hr.mono (j:=1) (by decide)) rfl (af (bJ (pv 0) rfl) (af (aT aS (yE FG.at_ rfl) (pv 1) (λ_ _=>rfl)) ar))) ar))))) ?_)
  refine ae (Ex FG hh) λfg e1 e2=>?_;have N:∀y V l,Kp p H y->Dk C CD V y p st dx za da (.ref l) D->K8 y l (M.dH D)->Tb P1 P2 y->Own S V H->L7 K g P1 [some (.ref p),some (.int h)] y Q:=by
   intro y V l k2 t sl Y ow;refine(aa rfl <| cI p CD dx _ _ rfl t.at_ T.cl T.sided (By _ _ _) <| aa rfl <| aU g _ _ _ rfl rfl (FG.bG.sq y) e1 ?_);have bl:=we h.toNat (M.dH D);have Z:=w4 t.len;refine(bU l fg (M.dH D) h.toNat rfl sl (JP t.dr) Z e2 <| λH3 r I QL=>?_);refine⟨r,_,D,st,h.toNat,rfl,QL,M.B8 t.dr,t.dr,λd i=>zw t.dr i,by omega,Y.1.keep I,λH4 q k4 t4 hq=>?_⟩;obtain⟨ps,J⟩:=(Y.1.keep I).lq;have kt:=k4.kt J (λz=>z);refine k H4 V q ?_ ⟨dx,za,da,.ref l,D,(t.kt I.kt).kt kt⟩ ow ⟨t4,(Y.2.keep I).kp k4 J (bu nP) (by intro a b z;cases z)⟩ hq;intro x o n e;have n1:x≠p:=λz=>n (by simp[z]);have n2:x≠P1:=λz=>n (by simp[z]);exact k4 _ _ n2 (I _ _ (k2 _ _ n1 e))
  refine(aa rfl <| cI p CD dx _ v rfl i.at_ T.cl T.sided (By _ _ _) <| aa rfl ?_);rcases i.vo with e | ⟨l,e,hl,sl⟩
  ·subst e;rw[ak (by simp)];refine(aa rfl <| cI p CD dx _ _ rfl i.at_ T.cl T.drawn (vD _ _ _) <| fh da D st rfl i.d i.dr i.len <| λO l hl R sl=>?_);have m:=i.kt R.kt;refine(aa rfl <| bU p CD dx _ rfl m.at_ T.cl T.sided (by show 3<1000;decide) ?_);rw[rZ];have B:∀u c o,c≠p->O c=some o->aX O p u c=some o:=λu c o n e=>by rw[ao n];exact e
   have tp:∀u c W,O c=some (.bG W)->aX O p u c=some (.bG W):=λu c W e=>B _ _ _ (a3 e m.at_ (by intro z;cases z)) e;have G:K8 (aX O p (.ins CD dx (v5 (.ref za) (.ref da) (.ref l)))) l (M.dH D):=by
    refine ae sl λas L h2=>?_;exact K8.vI (ab as L h2) (λo e=>B _ _ _ (a3 L m.at_ (by intro z;cases z)) e) (tp _)
   refine N _ (l::S) l (λx o n e=>B _ _ _ n (R _ _ e)) ⟨ah,B _ _ _ (a3 m.z m.at_ (by intro z;cases z)) m.z,?_,m.dr,.inr (a8 l rfl (by simp) G),by simp[i.mp],by simp[i.mz],by simp[i.md],i.sm,?_⟩ G ?_ ?_
   rotate_left
   ·intro x U;rcases aY.1 U with z | z
    ·simp_all
    ·rcases i.al x z with z | z | z | z
     ·exact .inl z
     ·exact .inr (.inl z)
     ·exact .inr (.inr (.inl z))
     ·cases z
   rotate_right
   ·refine ae m.d λas L h2=>?_;exact oV.vI (ab as L h2) (λo e=>B _ _ _ (a3 L m.at_ (by intro z;cases z)) e) (λc dx fs e=>B _ _ _ (a3 e m.at_ (by simp_all)) e)
   ·exact⟨(X.1.keep R).aX m.at_ (by intro _ z;cases z) (by intro _ _ z;cases z),(X.2.keep R).aX m.at_ (by intro _ z;cases z) (by intro _ _ z;cases z)⟩
   ·intro x U;grind
  ·subst e;rw[ai (by simp)];exact N H S l (λ_ _ _ e=>e) i sl X (λx U=>.inl U)
theorem JU:bc ["self","how","found","answer","stretch"] ["self","how"] (aK RP):=by constructor<;>decide
theorem OD:bc ["self","how","found"] ["self","how"] (aK RN):=by constructor<;>decide
abbrev Cd(a:Ql55.Ans):List V:=(a.value::a.nums).map V.int
def E1(q:Int->Ql55.Call)(C CD P1 P2:Addr):Sp:=λvs H Q _=>∃p S st h,vs=[.ref p,.int h]/\oW C CD S H p st/\Tb P1 P2 H/\
 ∀H' a r,Fr [p,P1,P2] H H'->oW C CD a H' p st->Own S a H->Tb P1 P2 H'->H r=none->H' r=some (.aR (Cd (Ql55.does st (q h)).2))->Q (.ref r) H'
noncomputable def six(t:Ln):List Int:=[t.1.1,t.1.2.1,t.1.2.2,t.2.1,t.2.2.1,t.2.2.2]
theorem JO(l:List Ln):(l.flatMap six).length=6*l.length:=by
 induction l with
 | nil=>rfl
 | cons x l a=>rw[gv,dC,a,dj];show 6+_=_;omega
theorem JN(l:List (Ql55.At×Ql55.At)):(l.map M.cU).flatMap six=l.flatMap λt=>[(Ql55.toldAt t.1).x,(Ql55.toldAt t.1).y,(Ql55.toldAt t.1).w,(Ql55.toldAt t.2).x,(Ql55.toldAt t.2).y,(Ql55.toldAt t.2).w]:=by
 rw[List.flatMap_map];rfl
theorem Cr{st:Ql55.Both}(t:Tb P1 P2 H)(d:oW C CD S H p st):∀x,x∈[p,P1,P2]->H x≠none:=by
 obtain⟨_,b⟩:=t.1.lq;obtain⟨_,a⟩:=t.2.lq;refine e9 d λ_ _ _ _ _ d=>?_;intro x hx;rcases aY.1 hx with z | hx
 ·rw[z,d.at_];simp_all
 grind
theorem Mc:∀x,x∈[p,P1]->x∈[p,P1,P2]:=λx h=>by
 grind
theorem Pa(F:ju K "edges" "Desk.edges" RP f fd)(G1:Fn P w K mg base "is_figure" 1 ["how"] Gw)(G2:Cf P w K mg base CD "border_stretches" 7 ["self","how"] (JI C CD P1 P2))(cW:fP mg "WRONG" (-2))(hN:mg "len"=none):dw P w K mg base iG 8 f fd ["self","how"] (E1 .edges C CD P1 P2):=by
 refine F.ok JU (λvs H Q E h=>?_) (λwd A N s H vs Q E Y h=>?_)
 ·obtain⟨p,S,st,h,rfl,_⟩:=h;rfl
 ·obtain⟨p,S,st,h,rfl,G,J,k⟩:=h;refine(aa (aj (eR (mn (fW (bX G1 (Y.mono (j:=1) (by decide)) rfl (af (pv 1) ar)))) (aB (bg (eC (af (cC cW rfl) ar)))) cv)
   (aj (a_ (i:=2) JU.nd rfl (Or.inl rfl) (xg G2 Y (pv 0) (af (pv 1) ar)))
   (aj (a_ (i:=3) JU.nd rfl (Or.inl rfl) (eC (af (df dP (by rfl) hN iR (af (pv 2) ar)) ar)))
   (aj (gE dW rfl (eI (pv 2)) (c6 (i:=4) JU.nd rfl (Or.inl rfl))
    (aj (fJ (kK gf nu rj vy (pv 3) (af (aT aS (pv 4) aq (λ_ _=>rfl)) ar)))
    (aB (fJ (kK gf nu rj vy (pv 3) (af (aT aS (pv 4) aq (λ_ _=>rfl)) ar))))))
   (aB (bg (pv 3))))))) ?_)
  refine(aa rfl <| ab h rfl <| aa rfl ?_);refine eL (λu=>?_) (λu=>?_)
  ·have u:Ql55.isHow h=false:=by simp_all
   refine⟨(by show 1<=sizeLine;decide),λq l=>?_⟩;have I:=aE (o:=.aR [.int (-2)]) l;refine e9 G λdx za da v D G=>?_;refine k _ S q I.fr ⟨dx,za,da,v,D,G.kt I.kt⟩ (λx R=>.inl R) ⟨J.1.keep I,J.2.keep I⟩ l ?_;rw[ah];show _=some (HO.aR (Cd (if Ql55.isHow h=false then Ql55.only (-2) else _)));rw[ak u];rfl
  ·have u:Ql55.isHow h=true:=by simpa using u
   have ea:(Ql55.does st (.edges h)).2=⟨((Ql55.stretches st h.toNat).length:Nat),((Ql55.stretches st h.toNat).map M.cU).flatMap six⟩:=by
    rw[JN];show(if Ql55.isHow h=false then Ql55.only (-2) else _)=_
    simp_all
   rw[ea]at k;refine e9 (id G) λU _ _ _ _ T=>?_;refine(aa rfl <| eQ p U _ rfl T.at_ (HU (by decide) (by decide) (by decide) _ _ _) <| aa rfl <| aU p S st h rfl G u J <| λH1 S1 r f1 d1 o1 L Z=>?_);have Ga:=Z;refine ae Z λas n B=>?_;generalize hT:(Ql55.stretches st h.toNat).map M.cU=TT at *;have al:=ba B;have tl:TT.length<=160000:=by
    refine e9 d1 λ_ _ _ _ D d=>?_;rw[<-hT,aZ];exact str_len d.dr d.len
   have cU:(Ql55.stretches st h.toNat).length=TT.length:=by rw[<-hT,aZ]
   refine(aa rfl <| eK r _ rfl (.inl (dM.of n)) (by show 1<=sizeLine;decide) <| λq l=>?_);refine(aa rfl <| a8 r rfl ⟨_,dM.of (aE l _ _ n)⟩ <| eV (xs:=as.map V.ref) (λi σ H'=>aW H1 H'/\H' q=some (.aR (((TT.length:Int)::(TT.take i).flatMap six).map V.int))/\∃y,σ=[some (.ref p),some (.int h),some (.ref r),some (.ref q),y]) (cO (aE l) ?_ ⟨none,rfl⟩) ?_ ?_ ?_)
   ·rw[ah,aZ,al];rfl
   ·rintro i σ H' _ ⟨g,_⟩;exact dM.of (g _ _ n)
   ·rintro i x0 σ H' O ⟨g,a,y,rfl⟩;obtain⟨x,R,rfl⟩:=d_ O;refine ae (Pd.get B R) λt X zz=>aF zz λb c m hb hc=>?_;have Yh:i<TT.length:=(bF.1 X).1;have W:((TT.length:Int)::(TT.take i).flatMap six).length<=1+6*i:=by
     rw[dj,JO,fH];omega
    have qb:b≠q:=bu (a3 a (g _ _ hb) (by intro z;cases z));have qc:c≠q:=bu (a3 a (g _ _ hc) (by intro z;cases z));have qx:x≠q:=bu (a3 a (g _ _ m) (by intro z;cases z));refine(cz rfl (.inl ⟨rfl,_,dM.of a⟩) <| aa rfl <| aU x _ _ _ rfl rfl (dU.of (g _ _ m)) (aG (j:=0) rfl) <| bU q b _ _ rfl rfl a (g _ _ hb) ?_ ?_)
    ·rw[aZ];exact Oy (fe (uE W 3) (by omega))
    refine(cz rfl (.inl ⟨rfl,_,dM.of ah⟩) <| aa rfl <| aU x _ _ _ rfl rfl (dU.of (su qx (g _ _ m))) (aG (j:=1) rfl) <| bU q c _ _ rfl rfl ah (su qc (g _ _ hc)) ?_ ?_)
    ·rw[dC,aZ];exact Oy (fe (uE (uE W 3) 3) (by omega))
    refine(cO (bf (bf g l) l) ?_ ⟨_,rfl⟩);rw[ah,b7 X,zN];have e:[t].flatMap six=six t:=by simp
    rw[e,<-iT,b9,ia];rfl
   ·rintro σ H' ⟨g,a,y,rfl⟩;rw[aZ,al,dN]at a;have fr:Fr [p,P1,P2] H H':=(f1.mono Mc).trans g.fr;refine e9 d1 λdx za da v D d=>?_;have d':oW C CD S1 H' p st:=⟨dx,za,da,v,D,d.kt g.kt⟩
    refine(aa rfl <| k H' S1 q fr d' o1 ⟨L.1.keep g,L.2.keep g⟩ ?_ ?_)
    ·exact zg (f1.mono Mc) (Cr L ⟨dx,za,da,v,D,d⟩) l
    ·rw[a,cU]
theorem O'(F:ju K "pieces" "Desk.pieces" RN f fd)(G1:Fn P w K mg base "is_figure" 1 ["how"] Gw)(G2:Cf P w K mg base CD "border_stretches" 7 ["self","how"] (JI C CD P1 P2))(G3:Fn P w K mg base "count_bounded" 8 ["lines"] (Ms P2))(G4:Fn P w K mg base "turned_round" 1 ["lines"] JE)(cW:fP mg "WRONG" (-2))(cD:fP mg "DONE" 0)(nP:P1≠P2):dw P w K mg base iG 9 f fd ["self","how"] (E1 .pieces C CD P1 P2):=by
 refine F.ok OD (λvs H Q E h=>?_) (λwd A T s H vs Q E u h=>?_)
 ·obtain⟨p,S,st,h,rfl,_⟩:=h;rfl
 ·obtain⟨p,S,st,h,rfl,G,L,k⟩:=h;refine(aa (aj (eR (mn (fW (bX G1 (u.mono (j:=1) (by decide)) rfl (af (pv 1) ar)))) (aB (bg (eC (af (cC cW rfl) ar)))) cv)
   (aj (a_ (i:=2) OD.nd rfl (Or.inl rfl) (xg G2 (u.mono (j:=7) (by decide)) (pv 0) (af (pv 1) ar)))
   (aB (bg (eC (af (cC cD rfl) (af (bX G3 u rfl (af (pv 2) ar)) (af (a7 iJ (bX G3 u rfl (af (bX G4 (u.mono (j:=1) (by decide)) rfl (af (pv 2) ar)) ar)) aq) ar)))))))) ?_)
  refine(aa rfl <| ab h rfl <| aa rfl ?_);refine eL (λg=>?_) (λg=>?_)
  ·have g:Ql55.isHow h=false:=by simp_all
   refine⟨(by show 1<=sizeLine;decide),λq y=>?_⟩;have J:=aE (o:=.aR [.int (-2)]) y;refine e9 G λdx za da v D G=>?_;refine k _ S q J.fr ⟨dx,za,da,v,D,G.kt J.kt⟩ (λx hx=>.inl hx) ⟨L.1.keep J,L.2.keep J⟩ y ?_;rw[ah];show _=some (HO.aR (Cd (if Ql55.isHow h=false then Ql55.only (-2) else _)));rw[ak g];rfl
  ·have g:Ql55.isHow h=true:=by simpa using g
   have ea:(Ql55.does st (.pieces h)).2=⟨0,[((Ql55.counted st h.toNat).1:Nat),((Ql55.counted st h.toNat).2:Nat)]⟩:=by
    show(if Ql55.isHow h=false then Ql55.only (-2) else _)=_
    simp_all
   rw[ea]at k;refine e9 (id G) λSN _ _ _ _ Z=>?_;refine(aa rfl <| eQ p SN _ rfl Z.at_ (HU (by decide) (by decide) (by decide) _ _ _) <| aa rfl <| aU p S st h rfl G g L <| λH1 S1 r f1 d1 o1 O hl=>?_);refine e9 d1 λdx za da v D d=>?_;have len:((Ql55.stretches st h.toNat).map M.cU).length<=160000:=by rw[aZ];exact str_len d.dr d.len
   refine(aa rfl ⟨r,_,D,st,h.toNat,true,rfl,hl,M.Kz,d.dr,λe Y=>Gu d.dr Y,len,O.2,λH2 R V t2 hR=>?_⟩);obtain⟨ps,B⟩:=O.2.lq;have t:=V.kt B (λz=>z);have N:=O.1.kp V B nP (by intro a b z;cases z);refine(aa rfl <| eK r _ rfl (hl.kt t) (by omega) <| λH3 r3 m W=>?_);refine⟨r3,_,D,st,h.toNat,false,rfl,W,M.Ir,d.dr,λe Y=>?_,by simp_all,t2.keep m,λH4 R' k4 t4 Wh=>?_⟩
   ·obtain⟨e',X,rfl⟩:=aw.1 Y;have:=Gu d.dr X;exact⟨this.2,this.1⟩
   obtain⟨X6,c⟩:=(t2.keep m).lq;have U:=k4.kt c (λz=>z);have l:=(N.keep m).kp k4 c nP (by intro a b z;cases z);refine(bW rfl rfl (by show 3<=sizeLine;decide) <| λq y=>?_);have I:=aE (o:=.aR [.int 0,.int ((R.filter M.dI).length:Nat),.int (((R'.filter M.dI).length:Nat)+1)]) y;have fr:Fr [p,P1,P2] H H4:=λx o n e=>k4 _ _ (λz=>n (by simp[z])) (m _ _ (V _ _ (λz=>n (by simp[z])) (f1.mono Mc x o n e)));have d4:Dk C CD S1 H4 p st dx za da v D:=((d.kt t).kt m.kt).kt U;refine k _ S1 q (fr.trans I.fr) ⟨dx,za,da,v,D,d4.kt I.kt⟩ o1 ⟨l.keep I,t4.keep I⟩ (zg fr (Cr ⟨l,t4⟩ ⟨dx,za,da,v,D,d4⟩) y) ?_;rw[ah,hR.inside,Wh.outside];rfl
inductive Rc:List Int->List (List Int)->Prop
 | b:Rc [0] [[0]]
 | a (k:Int) (row:List Int):Rc (1::k::(row.length:Int)::row) [[1,k],row]
 | w (h x y z:Int):Rc [2,h,x,y,z] [[2,h,x,y,z]]
 | e (h:Int):Rc [3,h] [[3,h]]
 | p (h:Int):Rc [4,h] [[4,h]]
inductive Rq:List Int->Ql55.Call->Prop
 | b:Rq [0] .begin_
 | a (k:Int) (cs:List (Int×Int)):cs.length<=70->Rq (1::k::((flat cs).length:Int)::flat cs) (.add k cs)
 | w (h x y z:Int):Rq [2,h,x,y,z] (.where_ h x y z)
 | e (h:Int):Rq [3,h] (.edges h)
 | p (h:Int):Rq [4,h] (.pieces h)
theorem Dw{f:Nat}{p:Int}{r:List Int}{cs:List (List (List Int))}(h:PyFlat.calls PyQl55.shape f (p::r)=some cs):∃b c t a,PyFlat.call PyQl55.shape (p::r)=some (c,t)/\PyFlat.calls PyQl55.shape b t=some a/\cs=c::a:=by
 cases f with
 | zero=>cases h
 | succ f=>
  unfold PyFlat.calls at h;grind
theorem FW{f:Nat}{cs:List (List (List Int))}(h:PyFlat.calls PyQl55.shape f []=some cs):cs=[]:=by
 cases f with
 | zero=>exact(bN h).symm
 | succ f=>exact(bN h).symm
theorem Dx{p:Int}{r:List Int}{c:List (List Int)}{t:List Int}(h:PyFlat.call PyQl55.shape (p::r)=some (c,t)):∃x,p::r=x++t/\Rc x c:=by
 unfold PyFlat.call at h;dsimp only at h
 by_cases h0:p=0
 ·subst h0;have e:PyQl55.shape 0=some (0,0):=rfl;rw[e]at h;dsimp only at h;rw[ai (by omega)]at h;cases h;exact(ab [0] rfl <| .b)
 by_cases l:p=1
 ·subst l;have e:PyQl55.shape 1=some (1,1):=rfl;rw[e]at h;dsimp only at h
  match r,h with
  | [],h=>cases h
  | [k],h=>cases h
  | k::n::r,h=>
   rw[ai (by simp)]at h
   change (match (match PyFlat.row (n::r) with
    | none=>none
    | some (x,s)=>match PyFlat.rows 0 s with
     | none=>none
     | some (xs,t)=>some (x::xs,t)) with
    | none=>none
    | some (xs,t)=>some ((1::[k])::xs,t))=some (c,t) at h
   unfold PyFlat.row at h;dsimp only at h
   by_cases q:0<=n/\n.toNat<=r.length
   ·rw[ak q]at h;have h:some ([[1,k],r.take n.toNat],r.drop n.toNat)=some (c,t):=h;cases h;refine(ab (1::k::n::r.take n.toNat) (by simp) ?_);have m:n=((r.take n.toNat).length:Int):=by grind
    have:=Rc.a k (r.take n.toNat);rw[<-m]at this;exact this
   ·rw[ai q]at h;cases h
 by_cases j:p=2
 ·subst j;have e:PyQl55.shape 2=some (4,0):=rfl;rw[e]at h;dsimp only at h
  match r,h with
  | [],h=>cases h
  | [_],h=>cases h
  | [_,_],h=>cases h
  | [_,_,_],h=>cases h
  | a::b::f::d::r,h=>
   rw[ai (by simp)]at h;cases h;exact(ab [2,a,b,f,d] rfl <| .w a b f d)
 by_cases i:p=3
 ·subst i;have e:PyQl55.shape 3=some (1,0):=rfl;rw[e]at h;dsimp only at h
  match r,h with
  | [],h=>cases h
  | a::r,h=>
   rw[ai (by simp)]at h;cases h;exact(ab [3,a] rfl <| .e a)
 by_cases g:p=4
 ·subst g;have e:PyQl55.shape 4=some (1,0):=rfl;rw[e]at h;dsimp only at h
  match r,h with
  | [],h=>cases h
  | a::r,h=>
   rw[ai (by simp)]at h;cases h;exact(ab [4,a] rfl <| .p a)
 ·have e:PyQl55.shape p=none:=by
   unfold PyQl55.shape
   simp_all
  simp_all
def N8(c:List (List Int)):List Int:=(PyQl55.whole c).headD []
theorem rV:∀l:List Int,l.length%2=0->flat (Ql55Neutral.corners l)=l/\(Ql55Neutral.corners l).length=l.length/2
 | [],_=>⟨rfl,rfl⟩
 | [_],h=>by simp at h
 | x::y::r,h=>by
  have a:=rV r (by grind);have e:Ql55Neutral.corners (x::y::r)=(x,y)::Ql55Neutral.corners r:=rfl;rw[e];constructor
  ·show x::y::flat (Ql55Neutral.corners r)=_;rw[a.1]
  grind
theorem OI{s:Ql55.Both}{x:List Int}{c:List (List Int)}(r:Rc x c)(h:Ql55Neutral.asked1 s (N8 c)=true):∃q,Rq x q/\Ql55Neutral.behind s (N8 c)=(Ql55.does s q).1/\Ql55Neutral.step s (N8 c)=((Ql55.does s q).1,(Ql55.does s q).2.value::(Ql55.does s q).2.nums):=by
 cases r with
 | b=>exact(cz (.b) rfl rfl)
 | w i x y z=>exact(cz (.w i x y z) rfl rfl)
 | e i=>exact(cz (.e i) rfl rfl)
 | p i=>exact(cz (.p i) rfl rfl)
 | a k d=>
  have h:(Ql55Neutral.whole32 k&&(d.all Ql55Neutral.whole32&&decide (d.length%2=0/\d.length<=140)))=true:=h;rw[c5,c5,m7]at h;obtain⟨e1,f⟩:=rV d h.2.2.1;refine(a8 (.add k (Ql55Neutral.corners d)) ?_ rfl rfl);have:=Rq.a k (Ql55Neutral.corners d) (by omega)
  simp_all
theorem MF:bc ["calls","begin","end"] ["calls","begin"] (aK (top 54)):=by constructor<;>decide
theorem RH:bc ["desk","call"] ["desk","call"] (aK (top 55)):=by constructor<;>decide
theorem CC:bc ["calls","desk","told","begin","end","answer"] ["calls"] (aK (top 56)):=by constructor<;>decide
def Mr(K:PySem.W.Frag):Sp:=λvs H Q _=>∃a pre x t q,vs=[.ref a,.int (pre.length:Nat)]/\dM K H a ((pre++(x++t)).map V.int)/\Rq x q/\Q (.int ((pre.length+x.length:Nat):Int)) H
def Mu(C CD P1 P2:Addr):Sp:=λvs H Q _=>∃p a S st x q,vs=[.ref p,.ref a]/\oW C CD S H p st/\Tb P1 P2 H/\H a=some (.aR (x.map V.int))/\a∉S/\Rq x q/\
 ∀H' b r,Fr (P1::P2::S) H H'->oW C CD b H' p (Ql55.does st q).1->Own S b H->Tb P1 P2 H'->H r=none->H' r=some (.aR (Cd (Ql55.does st q).2))->Q (.ref r) H'
structure T8(K:PySem.W.Frag)(mg:Str->Option Value)(g:Addr):Prop where
 at_:mg "CALL_SIZES"=some (.ref g)
 bG:zF K g [.int 1,.int 3,.int 5,.int 2,.int 2]
theorem JY{pre x t:List Int}{v:Int}(h:x[i]?=some v):wA ((pre++(x++t)).map V.int) ((pre.length:Nat)+(i:Int))=some (.int v):=by
 refine zA (j:=pre.length+i) (by omega) ?_;rw[gw,Ap (by omega),Nat.add_sub_cancel_left,nA (bF.1 h).1,h];rfl
theorem Pe(F:ju K "call_end" "call_end" (top 54) f fd)(G:T8 K mg g)(c1:fP mg "ADD" 1):dw P w K mg base iG 1 f fd ["calls","begin"] (Mr K):=by
 refine F.ok MF (λvs H Q E h=>?_) (λI A j s H vs Q E J h=>?_)
 ·obtain⟨a,pre,x,t,q,rfl,_⟩:=h;rfl
 ·obtain⟨a,pre,x,t,q,rfl,m,u,k⟩:=h;refine(aa (aj (a_ (i:=2) MF.nd rfl (Or.inl rfl) (a7 iJ (pv 1) (aT aS (yE G.at_ rfl) (aT cT (pv 0) (pv 1) (λ_ _=>rfl)) (λ_ _=>rfl))))
   (aj (eR (dE rG (aT cT (pv 0) (pv 1) (λ_ _=>rfl)) (cC c1 rfl) (du _)) (aB (yy (i:=2) MF.nd rfl (Or.inl rfl) (aT cT (pv 0) (a7 iJ (pv 1) aq) (λ_ _=>rfl)) Ik)) cv)
   (aB (bg (pv 2))))) ?_)
  have d:∀{i:Nat} {v:Int},x[i]?=some v->∀z:Int,z=(pre.length:Nat)+(i:Int)->wA ((pre++(x++t)).map V.int) z=some (.int v):=λh z e=>by rw[e];exact JY h
  obtain⟨c,n,h0,B,D,C⟩:∃c n:Int,x[0]?=some c/\wA [V.int 1,V.int 3,V.int 5,V.int 2,V.int 2] c=some (.int n)/\(c=1->∃r,x[2]?=some r/\n+r=x.length)/\(c≠1->n=x.length):=by
   cases u with
   | b=>exact(eK 0 1 rfl rfl (λz=>(by cases z)) <| λ_=>rfl)
   | a k cs h=>exact(eK 1 3 rfl rfl (λ_=>(aa rfl <| by grind)) <| λz=>absurd rfl z)
   | w i x y z=>exact(eK 2 5 rfl rfl (λz=>(by cases z)) <| λ_=>rfl)
   | e i=>exact(eK 3 2 rfl rfl (λz=>(by cases z)) <| λ_=>rfl)
   | p i=>exact(eK 4 2 rfl rfl (λz=>(by cases z)) <| λ_=>rfl)
  refine(aa rfl <| aa rfl <| aa rfl <| aU a _ _ _ rfl rfl m (d h0 _ (by simp)) <| aU g _ _ _ rfl rfl (G.bG.sq H) B <| bD rfl rfl <| aa rfl <| aa rfl <| bU a _ _ _ rfl rfl m (d h0 _ (by simp)) rfl <| aa rfl ?_);rw[mF];refine eL (λo=>?_) (λo=>?_)
  ·refine ae (D (b_ o)) λr l e=>?_;refine(aa rfl <| aa rfl <| aa rfl <| bD rfl rfl <| aU a _ _ _ rfl rfl m (d l _ rfl) <| bD rfl rfl ?_);refine(aa rfl ?_);grind
  ·have e:=C (m8 (h_.2 o));refine(aa rfl ?_)
   simp_all
theorem Dk.T3{st:Ql55.Both}(d:Dk C CD S H p st dx za da v D):∀x,x∈[p,P1,P2]->x∈P1::P2::S:=λx hx=>by
 rcases aY.1 hx with z | hx
 ·simp[z,d.mp]
 grind
theorem OQ{a:List Addr}{st:Ql55.Both}(d:Dk C CD S H p st dx za da v D)(o:Own [p] a H):Own S a H:=λx b=>by
 rcases o x b with z | z
 ·rw[eP.1 z];exact .inl d.mp
 ·exact .inr z
theorem SS(a b c:Int)(l:List Int):B4 ((a::b::c::l).map V.int) (some 3) none=l.map V.int:=by
 unfold B4;have e1:HT.zI ((a::b::c::l).map V.int).length 0 (some 3)=3:=by
  grind[HT.yl,List.length_map,List.length_cons]
 grind[HT.GO,List.take_of_length_le,List.length_map,List.length_cons]
theorem Cc{a:Ql55.Ans}(h:a.nums=[]):Cd a=[V.int a.value]:=by
 simp_all
theorem Pj(F:ju K "answer_call" "answer_call" (top 55) f fd)(c0:fP mg "BEGIN" 0)(c1:fP mg "ADD" 1)(c2:fP mg "WHERE" 2)(c3:fP mg "EDGES" 3)(G0:Cf P w K mg base CD "begin" 1 ["self"] (JK C CD))(G1:Cf P w K mg base CD "add" 4 ["self","which","ring"] (Mq C CD))(G2:Cf P w K mg base CD "where" 5 ["self","how","x","y","w"] (Mo C CD))(G3:Cf P w K mg base CD "edges" 8 ["self","how"] (E1 .edges C CD P1 P2))(G4:Cf P w K mg base CD "pieces" 9 ["self","how"] (E1 .pieces C CD P1 P2)):dw P w K mg base iG 10 f fd ["desk","call"] (Mu C CD P1 P2):=by
 refine F.ok RH (λvs H Q E h=>?_) (λwd A T s H vs Q E M h=>?_)
 ·obtain⟨p,a,S,st,x,q,rfl,_⟩:=h;rfl
 ·obtain⟨p,a,S,st,x,q,rfl,O,G,ha,na,rq,k⟩:=h;refine(aa (aj (eR (dE rG (aT cT (pv 1) aq (λ_ _=>rfl)) (cC c0 rfl) (du _)) (aB (bg (Ht G0 (M.mono (j:=1) (by decide)) (pv 0)))) cv)
   (aj (eR (dE rG (aT cT (pv 1) aq (λ_ _=>rfl)) (cC c1 rfl) (du _)) (aB (bg (xg G1 (M.mono (j:=4) (by decide)) (pv 0) (af (aT cT (pv 1) aq (λ_ _=>rfl)) (af (A' D0 (pv 1) (yB aq) JZ) ar))))) cv)
   (aj (eR (dE rG (aT cT (pv 1) aq (λ_ _=>rfl)) (cC c2 rfl) (du _)) (aB (bg (xg G2 (M.mono (j:=5) (by decide)) (pv 0) (af (aT cT (pv 1) aq (λ_ _=>rfl)) (af (aT cT (pv 1) aq (λ_ _=>rfl)) (af (aT cT (pv 1) aq (λ_ _=>rfl)) (af (aT cT (pv 1) aq (λ_ _=>rfl)) ar))))))) cv)
   (aj (eR (dE rG (aT cT (pv 1) aq (λ_ _=>rfl)) (cC c3 rfl) (du _)) (aB (bg (xg G3 (M.mono (j:=8) (by decide)) (pv 0) (af (aT cT (pv 1) aq (λ_ _=>rfl)) ar)))) cv)
   (aB (bg (xg G4 M (pv 0) (af (aT cT (pv 1) aq (λ_ _=>rfl)) ar)))))))) ?_)
  refine e9 (id O) λdx za da v D d=>?_;have lk:∀m:Str,m≠"sizes"->m≠"drawn"->m≠"sided"->(v5 (.ref za) (.ref da) v).lookup m=none:=λm Y X h3=>HU Y X h3 _ _ _;have g:∀{i:Nat} {y:Int},x[i]?=some y->wA (x.map V.int) (i:Int)=some (.int y):=fun{i y} h=>aG (by simp_all);have c:dM K H a (x.map V.int):=dM.of ha;obtain⟨QF,Y⟩:=G.1.lq;obtain⟨Ti,X⟩:=G.2.lq;cases rq with
  | b=>
   refine(aa rfl <| bU a _ _ _ rfl rfl c (g (i:=0) rfl) rfl <| aa rfl ?_);refine(aa rfl <| eQ p dx _ rfl d.at_ (lk _ (by decide) (by decide) (by decide)) <| eQ p dx _ rfl d.at_ (.inr ⟨_,_,_,rfl⟩) <| λH' L r U J I u l=>?_);refine k H' L r (U.fr (by simp[d.mp])) J (OQ d I) ⟨G.1.kp U d.at_ (a3 Y d.at_ (by intro z;cases z)) (by intro _ _ z;cases z),G.2.kp U d.at_ (a3 X d.at_ (by intro z;cases z)) (by intro _ _ z;cases z)⟩ u l
  | a i cs hc=>
   refine(aa rfl <| bU a _ _ _ rfl rfl c (g (i:=0) rfl) rfl <| aa rfl ?_);refine(aa rfl <| bU a _ _ _ rfl rfl c (g (i:=0) rfl) rfl <| aa rfl ?_);refine(aa rfl <| eQ p dx _ rfl d.at_ (lk _ (by decide) (by decide) (by decide)) <| aa rfl <| aU a _ _ _ rfl rfl c (g (i:=1) rfl) <| aa rfl <| aa rfl <| aO a _ rfl c <| λt ht=>?_);rw[SS];have B:=aE (o:=.aR ((flat cs).map V.int)) ht;have nt:t∉S:=λz=>d.has z ht;refine⟨p,t,S,st,i,cs,rfl,⟨dx,za,da,v,D,d.kt B.kt⟩,ah,nt,by omega,λH' L r N Z J I u l=>?_⟩;have e:(Ql55.does st (.add i cs)).2.nums=[]:=by
    show(if i<0\/1<i\/cs.length<3\/Ql55.MOST<cs.length\/cs.all Ql55.rightCorner=false then (st,Ql55.only (-2)) else _).2.nums=[]
    split
    ·rfl
    ·split <;> rfl
   refine k H' L r (λy o n e=>N y o (λz=>n (by simp[z])) (B _ _ e)) J (λy W=>?_) ⟨(G.1.keep B).kl Z,(G.2.keep B).kl Z⟩ (B.free u) (by rw[l,Cc e]);rcases I y W with z | z
   ·exact .inl z
   ·exact .inr (B.free z)
  | w i x y z=>
   refine(aa rfl <| bU a _ _ _ rfl rfl c (g (i:=0) rfl) rfl <| aa rfl ?_);refine(aa rfl <| bU a _ _ _ rfl rfl c (g (i:=0) rfl) rfl <| aa rfl ?_);refine(aa rfl <| bU a _ _ _ rfl rfl c (g (i:=0) rfl) rfl <| aa rfl ?_);refine(aa rfl <| eQ p dx _ rfl d.at_ (lk _ (by decide) (by decide) (by decide)) <| aa rfl <| aU a _ _ _ rfl rfl c (g (i:=1) rfl) <| aa rfl <| aU a _ _ _ rfl rfl c (g (i:=2) rfl) <| aa rfl <| aU a _ _ _ rfl rfl c (g (i:=3) rfl) <| aa rfl <| aU a _ _ _ rfl rfl c (g (i:=4) rfl) ?_);refine⟨p,S,st,i,x,y,z,rfl,O,λH' r B u l=>?_⟩;have e:(Ql55.does st (.where_ i x y z)).2.nums=[]:=by
    show(if Ql55.isHow i=false\/Ql55.rightPoint ⟨x,y,z⟩=false then Ql55.only (-2) else Ql55.only _).nums=[]
    split <;> rfl
   refine k H' S r B.fr ⟨dx,za,da,v,D,d.kt B.kt⟩ (λy W=>.inl W) ⟨G.1.keep B,G.2.keep B⟩ u ?_;rw[l,Cc e]
  | e i=>
   refine(aa rfl <| bU a _ _ _ rfl rfl c (g (i:=0) rfl) rfl <| aa rfl ?_);refine(aa rfl <| bU a _ _ _ rfl rfl c (g (i:=0) rfl) rfl <| aa rfl ?_);refine(aa rfl <| bU a _ _ _ rfl rfl c (g (i:=0) rfl) rfl <| aa rfl ?_);refine(aa rfl <| bU a _ _ _ rfl rfl c (g (i:=0) rfl) rfl <| aa rfl ?_);refine(aa rfl <| eQ p dx _ rfl d.at_ (lk _ (by decide) (by decide) (by decide)) <| aa rfl <| aU a _ _ _ rfl rfl c (g (i:=1) rfl) ⟨p,S,st,i,rfl,O,G,λH' L r N J I R u l=>?_⟩);exact k H' L r (N.mono d.T3) J I R u l
  | p i=>
   refine(aa rfl <| bU a _ _ _ rfl rfl c (g (i:=0) rfl) rfl <| aa rfl ?_);refine(aa rfl <| bU a _ _ _ rfl rfl c (g (i:=0) rfl) rfl <| aa rfl ?_);refine(aa rfl <| bU a _ _ _ rfl rfl c (g (i:=0) rfl) rfl <| aa rfl ?_);refine(aa rfl <| bU a _ _ _ rfl rfl c (g (i:=0) rfl) rfl <| aa rfl ?_);refine(aa rfl <| eQ p dx _ rfl d.at_ (lk _ (by decide) (by decide) (by decide)) <| aa rfl <| aU a _ _ _ rfl rfl c (g (i:=1) rfl) ⟨p,S,st,i,rfl,O,G,λH' L r N J I R u l=>?_⟩);exact k H' L r (N.mono d.T3) J I R u l
theorem MU{p:Pos}(F:Od X.prog X.w X.K X.mg X.base x C k ps sp)(b:fB (k+1) X.A)(d:Gl X x)(a:(x==("__debug__":Str))=false:=by decide):PE X (.Call (.Name x p) [] [] pos) (DR C sp [] E0 mK):=by
 refine e_ F.ex λf fd M F c e=>?_;exact Hu M F b d c e .nil xh a
def oZ(s:Ql55Neutral.S)(c:List (List Int)):Ql55Neutral.S×List Int:=Ql55Neutral.step s (c.headD [])
theorem A4(s:Ql55.Both)(c:List (List Int))(cs:List (List (List Int))){q:Ql55.Call}(h:Ql55Neutral.step s (N8 c)=((Ql55.does s q).1,(Ql55.does s q).2.value::(Ql55.does s q).2.nums)):
  PyFlat.told (PyFlat.played oZ s ((c::cs).map PyQl55.whole))=((((Ql55.does s q).2.value::(Ql55.does s q).2.nums).length:Nat):Int)::((Ql55.does s q).2.value::(Ql55.does s q).2.nums)++PyFlat.told (PyFlat.played oZ (Ql55.does s q).1 (cs.map PyQl55.whole)):=by
 have e:oZ s (PyQl55.whole c)=((Ql55.does s q).1,(Ql55.does s q).2.value::(Ql55.does s q).2.nums):=h;have a:PyFlat.played oZ s ((c::cs).map PyQl55.whole)=(oZ s (PyQl55.whole c)).2::PyFlat.played oZ (oZ s (PyQl55.whole c)).1 (cs.map PyQl55.whole):=rfl;rw[a,e];rfl
theorem I0(h:PyQl55.answers_asked ns=true):∃cs,PyFlat.calls PyQl55.shape ns.length ns=some cs/\Ql55Neutral.all Ql55Neutral.start (cs.map N8)=true/\PyQl55.answers ns=PyFlat.told (PyFlat.played oZ Ql55.empty (cs.map PyQl55.whole))/\(PyQl55.answers ns).length<=10000000:=by
 unfold PyQl55.answers_asked at h;split at h
 ·cases h
 ·rename_i cs e;rw[c5,c5]at h;obtain⟨⟨_,a⟩,b⟩:=h;refine⟨cs,e,?_,?_,?_⟩
  ·unfold Ql55Neutral.asked at a;rw[c5,h7]at a;exact a.2
  ·unfold PyQl55.answers PyQl55.calls;rw[e];rfl
  ·unfold PyFlat.short at b
   simp_all
theorem KU(pre x t:List Int):B4 ((pre++(x++t)).map V.int) (some (pre.length:Nat)) (some ((pre.length+x.length:Nat):Int))=x.map V.int:=by
 unfold B4;rw[HT.yl,HT.yl,aZ]
 simp_all
theorem Oz(h:dM K H a xs)(f:Fr T H H')(b:∀x,x∈T->∃ps,H x=some (.lq ps)):dM K H' a xs:=by
 have go:∀o,(∀ps,o≠.lq ps)->H a=some o->H' a=some o:=λo n e=>f a o (λm=>by
  grind) e
 rcases h with(h | ⟨o,h⟩) | h
 ·exact .inl (.inl (go _ (by intro _ z;cases z) h))
 ·exact .inl (.inr ⟨o,go _ (by intro _ z;cases z) h⟩)
 ·exact .inr h
theorem PM{c A B:Prop}[Decidable c](h:¬c)(b:B):if c then A else B:=by simp_all
theorem PJ{c A B:Prop}[Decidable c](h:c)(b:A):if c then A else B:=by simp_all
def JL(K:PySem.W.Frag)(P1 P2:Addr):Sp:=λvs H Q _=>∃a ns,vs=[.ref a]/\dM K H a (ns.map V.int)/\PyQl55.answers_asked ns=true/\Tb P1 P2 H/\∀H' r,H' r=some (.aR ((PyQl55.answers ns).map V.int))->Q (.ref r) H'
theorem Ph(F:ju K "answers" "answers" (top 56) f fd)(G0:Od P w K mg base "Desk" CD 2 ["self"] (Mp C CD))(G1:Fn P w K mg base "call_end" 1 ["calls","begin"] (Mr K))(G2:Fn P w K mg base "answer_call" 10 ["desk","call"] (Mu C CD P1 P2))(hN:mg "len"=none):
  dw P w K mg base iG 11 f fd ["calls"] (JL K P1 P2):=by
 refine F.ok CC (λvs H Q E h=>?_) (λwd A dF s H vs Q E hr h=>?_)
 ·refine bI h λa ns B _=>?_;subst B;rfl
 ·refine e_ h λa ns B ha So Y=>cE Y λtb k=>?_;subst B;refine(aa (aj (a_ (i:=1) CC.nd rfl (Or.inl rfl) (MU G0 (hr.mono (j:=3) (by decide)) rfl))
   (aj (a_ (i:=2) CC.nd rfl (Or.inl rfl) (eC ar))
   (aj (a_ (i:=3) CC.nd rfl (Or.inl rfl) aq)
   (aj (rD dW (dE xm (pv 3) (df dP (by rfl) hN iR (af (pv 0) ar)) (du _))
    (aj (a_ (i:=4) CC.nd rfl (Or.inl rfl) (bX G1 (hr.mono (j:=1) (by decide)) rfl (af (pv 0) (af (pv 3) ar))))
    (aj (a_ (i:=5) CC.nd rfl (Or.inl rfl) (bX G2 hr rfl (af (pv 1) (af (A' D0 (pv 0) (yB (pv 3)) (yB (pv 4))) ar))))
    (aj (fJ (kK gf iW iX fV (pv 2) (af (df dP (by rfl) hN iR (af (pv 5) ar)) ar)))
    (aj (fJ (kK gf nu rj xq (pv 2) (af (pv 5) ar)))
    (aB (a_ (i:=3) CC.nd rfl (Or.inl rfl) (pv 4))))))))
   (aB (bg (pv 2))))))) ?_)
  refine aH (I0 So) λXp V5 Sr Y=>cE Y λSq mM=>?_;refine aA tb.1.lq λQF N_=>?_;refine aA tb.2.lq λTi TV=>?_;have tT:∀x,x∈[P1,P2]->∃ps,H x=some (.lq ps):=λx m=>by
   grind
  intro p dx np Z U2;refine(aO p dx rfl ah <| λH1 S1 k1 d1 o1=>⟨rfl,?_⟩);have s1:aW H H1:=λx o e=>by
   have h1:=aQ e np;refine k1 x o h1 ?_;rw[ao h1,ao (aQ e Z)];exact e
  have own:∀x,x∈S1->H x=none:=λx hx=>by
   rcases o1 x hx with z | z
   ·simp_all
   ·cases e:H x with
    | none=>rfl
    | some o=>
     rw[ao (aQ e np),ao (aQ e Z),e]at z;cases z
  refine⟨(by simp_all),λL hL=>?_⟩;have s2:aW H1 (aX H1 L (.aR [])):=aE hL;have N:=s1.trans s2;have nL:L∉S1:=by
   refine e9 d1 λ_ _ _ _ _ d=>?_;exact λz=>d.has z hL
  have Wm:H L=none:=s1.free hL;have Xn:oW C CD S1 (aX H1 L (.aR [])) p Ql55.empty:=by
   refine e9 d1 λJ za da v D d=>?_;exact⟨J,za,da,v,D,d.kt s2.kt⟩
  refine(ab (λm σ H'=>∃S st pre rest f cs g r4 r5,σ=[some (.ref a),some (.ref p),some (.ref L),some (.int (pre.length:Nat)),r4,r5]/\rest.length=m/\ns=pre++rest/\
    PyFlat.calls PyQl55.shape f rest=some cs/\Ql55Neutral.all st (cs.map N8)=true/\g++PyFlat.told (PyFlat.played oZ st (cs.map PyQl55.whole))=PyQl55.answers ns/\Fr [P1,P2] H H'/\(∀x,x∈S->H x=none)/\L∉S/\oW C CD S H' p st/\Tb P1 P2 H'/\H' L=some (.aR (g.map V.int))) ⟨ns.length,S1,Ql55.empty,[],ns,ns.length,Xp,[],none,none,rfl,rfl,rfl,V5,Sr,Sq.symm,N.fr,own,nL,Xn,⟨tb.1.keep N,tb.2.keep N⟩,ah⟩ ?_)
  rintro m σ H' ⟨S,st,pre,rest,f,cs,g,r4,r5,rfl,rfl,T5,hc,l,U,fr,ow,nL,dk,M,TX⟩;have W:=Oz ha fr tT;have tO:∀x,x∈[P1,P2]->H' x≠none:=λx m=>Cr M dk x (cN _ m);refine(aa rfl <| aa rfl <| aO a _ rfl (.inl W) <| bD rfl rfl <| aa rfl ?_);cases rest with
  | nil=>
   refine PM ?_ ?_
   ·simp_all
   ·have e:=FW hc;subst e;rw[show PyFlat.told (PyFlat.played oZ st (([]:List (List (List Int))).map PyQl55.whole))=[] from rfl,gT]at U;refine(aa rfl <| k H' L ?_);rw[TX,U]
  | cons p0 r0=>
   refine aN (Dw hc) λf' c Y=>aF Y λt T6 T Sm B=>?_;subst B;refine ae (Dx T) λx ex rc=>?_;rw[bw]at l;unfold Ql55Neutral.all at l;rw[c5]at l;refine aH (OI rc l.1) λq rq hb R=>?_;rw[hb]at l;rw[A4 st c T6 R]at U;rw[ex]at T5;have xl:0<x.length:=by
    cases rq <;> simp
   have el:(p0::r0).length=x.length+t.length:=by simp_all
   refine PJ ?_ (ab (fun σ' H'=>_) (fun σ' H' h=>(ab t.length (by omega) h)) ?_)
   ·grind
   subst T5;refine(aa rfl <| aa rfl ⟨a,pre,x,t,q,rfl,W,rq,?_⟩);refine(aa rfl <| aa rfl <| aa rfl <| aa rfl <| aa rfl <| aa rfl <| aO a _ rfl W <| λb hb=>?_);rw[KU];have X:=aE (o:=.aR (x.map V.int)) hb;have V_:aX H' b (.aR (x.map V.int)) b=some (.aR (x.map V.int)):=ah;generalize aX H' b (.aR (x.map V.int))=H3 at *;have nb:b∉S:=by
    refine e9 dk λ_ _ _ _ _ d=>?_;exact λz=>d.has z hb
   have Xm:oW C CD S H3 p st:=by
    refine e9 dk λJ za da v D d=>?_;exact⟨J,za,da,v,D,d.kt X.kt⟩
   refine⟨p,b,S,st,x,q,rfl,Xm,⟨M.1.keep X,M.2.keep X⟩,V_,nb,rq,λH4 S4 r f4 d4 o4 t4 QL Tz=>?_⟩;have LD:=X _ _ TX;have R6:L≠P1:=λz=>by simp_all
   have R5:L≠P2:=λz=>by simp_all
   have I:=f4 L _ (by simp[R6,R5,nL]) LD;have O:L∉S4:=λz=>by
    rcases o4 L z with y | y
    ·exact nL y
    simp_all
   have nr:r≠L:=λz=>by simp_all
   have big:g.length+(1+(1+(Ql55.does st q).2.nums.length))<=10000000:=by
    grind
   have X1:10000000<=sizeLine:=by rw[lB];decide
   refine(cz rfl (.inl ⟨rfl,_,dM.of I⟩) <| aa rfl <| aO r _ rfl (.inl (dM.of Tz)) <| fh L _ _ rfl rfl I ?_ ?_)
   ·grind
   have r5:=su (u:=.aR (g.map V.int++[V.int ((Cd (Ql55.does st q).2).length:Nat)])) nr Tz;have G:aX H4 L (.aR (g.map V.int++[V.int ((Cd (Ql55.does st q).2).length:Nat)])) L=some (.aR (g.map V.int++[V.int ((Cd (Ql55.does st q).2).length:Nat)])):=ah;refine(cz rfl (.inl ⟨rfl,_,dM.of G⟩) <| aa rfl <| bU L r _ _ rfl rfl G r5 ?_ ?_)
   ·grind
   refine(aa rfl ⟨S4,(Ql55.does st q).1,pre++x,t,f',T6,g++(((((Ql55.does st q).2.value::(Ql55.does st q).2.nums).length:Nat):Int)::((Ql55.does st q).2.value::(Ql55.does st q).2.nums)),some (.int ((pre.length+x.length:Nat):Int)),some (.ref r),?_,rfl,(ia _ _ _).symm,Sm,l.2,?_,?_,?_,O,?_,?_,?_⟩)
   ·simp_all
   ·simp_all
   ·intro y o n e;have ny:y≠L:=aQ e Wm;rw[ao ny,ao ny];refine f4 y o (λz=>?_) (X _ _ (fr y o n e))
    simp_all
   ·intro y hy;rcases o4 y hy with z | z
    ·exact ow y z
    ·exact zg fr tO (X.free z)
   ·refine e9 d4 λJ za da v D d=>?_;exact⟨J,za,da,v,D,(d.aX I O).aX G O⟩
   ·exact⟨(t4.1.aX I (by intro _ z;cases z) (by intro _ _ z;cases z)).aX G (by intro _ z;cases z) (by intro _ _ z;cases z),(t4.2.aX I (by intro _ z;cases z) (by intro _ _ z;cases z)).aX G (by intro _ z;cases z) (by intro _ _ z;cases z)⟩
   ·rw[ah,b9,ia];rw[aZ];rfl
open PySem PySem.Spec PyProof.Rows L2 PySem.W
theorem wR{c:Params}{h:Heap}:∀(ns:List Int) (vs:List Value),WellAll c h vs (ns.map WData.int)->Vals (ns.map V.int) vs
 | [],_,x=>by
  cases x;exact .nil
 | n::ns,_,x=>by
  cases x with
  | cons a b=>
   cases a;exact .cons ⟨_,rfl⟩ (wR ns _ b)
theorem ve{R:WRecords}{cl:Str->Option Addr}{h:Heap}:∀(ns:List Int) (a:List Value),Vals (ns.map V.int) a->∃d,ReadsAllW R cl h a (ns.map WData.int) d
 | [],_,r=>by
  cases r;exact⟨_,ReadsAllW.nil⟩
 | n::ns,_,r=>by
  cases r with
  | cons c b=>
   obtain⟨t,rfl⟩:=c;obtain⟨e,q⟩:=ve (R:=R) (cl:=cl) (h:=h) ns _ b;exact⟨_,ReadsAllW.cons (ReadsW.int _ t) q⟩
noncomputable def h0(K:Frag)(P1 P2 a:Addr)(o:Obj)(xs:List V):Hp:=λb=>if b=P1 then some (.lq #[]) else if b=P2 then some (.lq #[]) else if b=a/\K.lookup a=none then some (.oI o (.aR xs)) else none
theorem Ek{K:Frag}(a:noTabs K=true)(e:K.lookup b=some o)(z:o=tabObj #[]):False:=by
 have c:=m3.1 a (b,o) (mem_of_lookupK e)
 simp_all
theorem Fp{K:Frag}{U:Str->Option Value}{fa:Addr}{f:Shared}{g:List Value}{R:WRecords}{cl:Str->Option Addr}(L:K.In f.heap)(VI:f.heap.Ns mainGlobals mg)(hb:f.heap.Ns builtinsNs U)(V7:∀x:Str,x≠"__name__"->U x=bootBuiltins x)(C:f.heap.NoLimit)(hg:f.gens=#[])(X:WellAll w.params f.heap g [.list (ns.map WData.int)])(VN:ns.length<=5000)(hr:fB 11 callerA)(hK:noTabs K=true)(I:CodeHd f.heap c1 P1/\f.heap.get? P1=some (tabObj #[]))(G:CodeHd f.heap c2 P2/\f.heap.get? P2=some (tabObj #[]))(nP:P1≠P2)(Ww:BM mg f.heap)(F:∀base:Heap,BM mg base->dw P w K mg base iG 11 fa fd ["calls"] (JL K P1 P2))(A:∀s M,M.length=1->BindsTo s fd ⟨M,[]⟩ ((["calls"]:List Str).zip M))(D:PyQl55.answers_asked ns=true):
  codeAny (model P w) callerA (.call (.ref fa) ⟨g,[]⟩) (λr i=>∃u as,r=.ok (.ret u)/\ReadsW R cl i.heap u (.list ((PyQl55.answers ns).map WData.int)) as/\OldK f.heap i.heap/\i.os=f.os/\AllBare i.gens) f:=by
 obtain⟨v,p,rfl,Y,hn⟩:∃v p,g=v::p/\Well w.params f.heap v (.list (ns.map WData.int))/\WellAll w.params f.heap p []:=by
  cases X with
  | cons a b=>exact(bD rfl a b)
 cases hn;obtain⟨a,vs,rfl,B,k⟩:∃a vs,v=.ref a/\f.heap.get? a=some { cls:=.type "list",data:=.seq vs.toArray }/\WellAll w.params f.heap vs (ns.map WData.int):=by
  cases Y with
  | list B k=>exact(bD rfl B k)
 have hV:=wR ns vs k;have hl:ns.length=vs.length:=by rw[<-ba hV,aZ]
 have a1:a≠P1:=λz=>by simp_all
 have a2:a≠P2:=λz=>by simp_all
 have hz:ns.length<=sizeLine:=Oy (by omega);generalize J:h0 K P1 P2 a { cls:=.type "list",data:=.seq vs.toArray } (ns.map V.int)=H;have H1:H P1=some (.lq #[]):=by rw[<-J];exact ak rfl
 have H2:H P2=some (.lq #[]):=by
  rw[<-J];unfold h0
  simp_all
 have Ho:∀b u,H b=some u->(b=P1/\u=.lq #[])\/(b=P2/\u=.lq #[])\/(b=a/\K.lookup a=none/\u=.oI { cls:=.type "list",data:=.seq vs.toArray } (.aR (ns.map V.int))):=by
  intro b u q;rw[<-J]at q;unfold h0 at q;split at q
  ·rename_i e;exact .inl ⟨e,(bN q).symm⟩
  ·split at q
   ·rename_i e;exact .inr (.inl ⟨e,(bN q).symm⟩)
   ·split at q
    ·rename_i e;exact .inr (.inr (cO e.1 e.2 <| (bN q).symm))
    ·cases q
 have dS:mN P w H f.heap:=by
  intro b u q;rcases Ho b u q with⟨rfl,rfl⟩ | ⟨rfl,rfl⟩ | ⟨rfl,_,rfl⟩
  ·exact I.2
  ·exact G.2
  ·exact(cO B (by simp_all) <| br vs _ hV B)
 have hS:dM K H a (ns.map V.int):=by
  cases hk:K.lookup a with
  | none=>
   refine .inl (.inr ⟨{ cls:=.type "list",data:=.seq vs.toArray },?_⟩);rw[<-J];unfold h0;rw[ai a1,ai a2,ak ⟨rfl,hk⟩]
  | some o=>
   have e2:=L a o hk;rw[B]at e2;obtain rfl:=bN e2;exact .inr ⟨_,vs.toArray,_,hk,rfl,rfl,rfl,by simp_all,by simpa using hV⟩
 have nK:∀b o,K.lookup b=some o->H b=none:=λb o e=>by
  cases q:H b with
  | none=>rfl
  | some u=>
   rcases Ho b u q with⟨rfl,_⟩ | ⟨rfl,_⟩ | ⟨rfl,z,_⟩
   ·have:=L _ o e;rw[I.2]at this;exact(Ek hK e (bN this).symm).elim
   ·have:=L _ o e;rw[G.2]at this;exact(Ek hK e (bN this).symm).elim
   simp_all
 have T:∀{b:Addr} {o:Obj},f.heap.get? b=some o->o≠tabObj #[]->o.cls≠.type "list"->H b=none:=fun{b o} e n1 n2=>by
  cases q:H b with
  | none=>rfl
  | some u=>
   grind
 have y:∀{b:Addr} {m:Str->Option Value},f.heap.Ns b m->(zb f.heap H).Ns b m:=fun{b m} ⟨o,es,ep,e,d,r⟩=>⟨o,es,ep,vM e (by
  cases q:H b with
  | none=>rfl
  | some u=>
   grind),d,r⟩
 have Wo:K.In (zb f.heap H):=λb o e=>vM (L b o e) (nK b o e);have hM:Mod K mg (zb f.heap H):=⟨Wo,y VI,(ab U (y hb) V7),let ⟨mc,h1,h2⟩:=C;(ab mc (y h1) h2)⟩
 have hB:BM mg (zb f.heap H):=by
  obtain⟨bm,ob,b1,b2,b3,b4,b5⟩:=Ww;exact(e8 bm ob b1 b2 (vM b3 (T b3 (λz=>by simp_all) (λz=>by simp_all))) b4 b5)
 have e0:DJ P w K mg (zb f.heap H) callerA [] f H:=⟨rfl,hM,λb o e=>Kd e,qj (FD _ _),trivial,λb hb=>absurd (show b∈([]:List Addr) from hb) (by simp),dS,.of_eq hg⟩
 have O:Tb P1 P2 H:=⟨(a8 (#[]) H1 trivial <| .inl rfl),(a8 (#[]) H2 trivial <| .inl rfl)⟩
 refine qh ((F _ hB).run callerA [] f H ⟨[.ref a],[]⟩ [.ref a] [.ref a] (λv H'=>∃r,v=.ref r/\H' r=some (.aR ((PyQl55.answers ns).map V.int))) (λ_ _ _=>False) hr e0 (A f _ rfl) (.cons rfl .nil) (e8 a ns rfl hS D O <| λH' r q=>(ab r rfl q))) λr i x=>?_;cases r with
 | error e=>exact False.elim x
 | ok fl=>
  cases fl with
  | next=>exact False.elim x
  | brk=>exact False.elim x
  | cont=>exact False.elim x
  | ret u=>
   obtain⟨v,H',os,E,N,j,r',r,rfl,q⟩:=x;cases r';have l:∀P c,CodeHd f.heap c P/\f.heap.get? P=some (tabObj #[])->H P=some (.lq #[])->∃ps,isCodeTable f.heap P/\i.heap.get? P=some (tabObj ps):=λP c t h=>by
    obtain⟨more,z⟩:=N.AF P #[] h;exact(aa ((t.1.tab t.2).isCodeTable) <| j P _ z)
   have S:OldK f.heap i.heap:=by
    have W:∀b o,f.heap.get? b=some o->i.heap.get? b=some o\/(o=tabObj #[]/\∃ps,isCodeTable f.heap b/\i.heap.get? b=some (tabObj ps)):=λb o e=>by
     cases Q:H b with
     | none=>exact .inl (N.keep b o e Q (by intro z;exact absurd (show b∈([]:List Addr) from z) (by simp)) (by simp))
     | some u2=>
      rcases Ho b u2 Q with⟨rfl,_⟩ | ⟨rfl,_⟩ | ⟨rfl,z,rfl⟩
      ·rw[I.2]at e;exact .inr ⟨(bN e).symm,l _ _ I H1⟩
      ·rw[G.2]at e;exact .inr ⟨(bN e).symm,l _ _ G H2⟩
      ·have z2:=N.zf _ _ _ Q;obtain⟨e2,_⟩:=j _ _ z2
       simp_all
    refine⟨λb o e=>?_,λb o e=>?_⟩
    ·rcases W b o e with z | ⟨rfl,ps,ht,hP⟩
     ·exact .inl z
     ·exact .inr (.inl (cO ht rfl <| br (#[]) ps rfl <| by simp_all))
    grind
   refine cE (show dR P w H' i.heap r (.aR ((PyQl55.answers ns).map V.int)) from j r _ q) λ_ zz=>bI zz λits n Y e=>?_;obtain⟨as,Z⟩:=ve (R:=R) (cl:=cl) (h:=i.heap) _ _ Y;exact(e8 _ _ rfl (ReadsW.list e rfl rfl Z) S os E)
structure FK(K:Frag)(x:Str)(st:Stmt)(f:Addr)(fd:FuncData):Prop where
 at_:nsIn K mainGlobals x=some (some (.ref f))
 fn:ju K x x st f fd
structure ME(K:Frag)(C:Addr)(m qual:Str)(st:Stmt)(f:Addr)(fd:FuncData):Prop where
 at_:findIn K (.ref C) m=some (some (.ref f))
 is:isFn K (.ref f)=true
 fn:ju K m qual st f fd
theorem fk{K:Frag}{h:Value}{od g:Option Addr}{e:Array (Option Value)}{kV d b:Value}(a:nsIn K mainGlobals x=some (some (.ref f)))(l:K.lookup f=some ⟨h,od,.func (fnOf x x (iC st) (fO st) (aK st) .none kV d pm g b ct),e⟩)(c:codeIn K b x=true)(k:keepIn K (.ref f)=true):FK K x st f (fnOf x x (iC st) (fO st) (aK st) .none kV d pm g b ct):=⟨a,Iy l c k⟩
theorem me{K:Frag}{m:Str}{h:Value}{od g:Option Addr}{e:Array (Option Value)}{kV d b:Value}(a:findIn K (.ref C) m=some (some (.ref f)))(i:isFn K (.ref f)=true)(l:K.lookup f=some ⟨h,od,.func (fnOf m qual (iC st) (fO st) (aK st) .none kV d pm g b ct),e⟩)(c:codeIn K b qual=true)(k:keepIn K (.ref f)=true):ME K C m qual st f (fnOf m qual (iC st) (fO st) (aK st) .none kV d pm g b ct):=⟨a,i,Iy l c k⟩
def Jr(K:Frag)(a:Addr)(b:Array Value):Prop:=∃od n sl,K.lookup a=some ⟨.type "tuple",od,.seq b n,sl⟩
theorem Jr.bG{K:Frag}{its:Array Value}(h:Jr K a its)(z:its.size<=sizeLine)(v:Vals xs its.toList):zF K a xs:=by
 refine aN h λod n b=>aA b λsl h=>?_;exact(fh _ its n h rfl rfl z v)
section
variable{P:Program}{w:World}{K:Frag}{mg:Str->Option Value}{base h:Heap}
theorem FK.ph(F:FK K x st f fd)(X:K.In h)(G:h.Ns mainGlobals mg)(e:dw P w K mg base iG k f fd ps sp)(b:∀kV c pm g d ct a,a.length=ps.length->bindArgs (fnOf x x (iC st) (fO st) (aK st) .none kV c pm g d ct) ⟨a,[]⟩=pure (ps.zip a)):Fn P w K mg base x k ps sp:=⟨f,fd,e,mg_of X G F.at_,F.fn.kp,F.fn.binds b⟩
theorem ME.N5{m:Str}(F:ME K C m qual st f fd)(c:F6 K C)(g:dw P w K mg base iG k f fd ps sp)(b:∀kV d pm h e ct a,a.length=ps.length->bindArgs (fnOf m qual (iC st) (fO st) (aK st) .none kV d pm h e ct) ⟨a,[]⟩=pure (ps.zip a)):Cf P w K mg base C m k ps sp:=⟨c,f,fd,⟨F.at_,F.is,F.fn.kp⟩,g,F.fn.binds b⟩
theorem bt(F:ju K x qual st f fd)(b:∀kV c pm h d ct a,a.length=ps.length->bindArgs (fnOf x qual (iC st) (fO st) (aK st) .none kV c pm h d ct) ⟨a,[]⟩=pure (ps.zip a)):∀s a,a.length=ps.length->BindsTo s fd ⟨a,[]⟩ (ps.zip a):=by
 refine aN F.ex λl od e=>e9 e λkV c pm h d e=>aF e λct i g lk k=>?_;subst g;exact λs a j=>.of_eq (b kV c pm h d ct a j)
theorem all_mk{fa D:Addr}(X:K.In h)(G:h.Ns mainGlobals mg)(VZ:mg "answers"=some (.ref fa))(nC:C≠D)(nP:P1≠P2)(Wv:codeHdIn K c1 P1=true)(Wu:codeHdIn K c2 P2=true)(F1:∃f fd,FK K "common_divisor" (top 1) f fd)(F2:∃f fd,FK K "lowest" (top 2) f fd)(F3:∃f fd,FK K "place" (top 3) f fd)(F4:∃f fd,FK K "direction" (top 4) f fd)(F5:∃f fd,FK K "heading" (top 5) f fd)(F8:∃f fd,FK K "ring_edges" (top 8) f fd)(F9:∃f fd,FK K "side" (top 9) f fd)(Rn:∃f fd,FK K "behind_a" (top 10) f fd)(Rm:∃f fd,FK K "ahead_of_b" (top 11) f fd)(Rl:∃f fd,FK K "lies_on" (top 12) f fd)(Rk:∃f fd,FK K "marks_above" (top 13) f fd)(Rj:∃f fd,FK K "changes_around" (top 14) f fd)(Ri:∃f fd,FK K "meetings" (top 15) f fd)(Rh:∃f fd,FK K "cuts" (top 16) f fd)(Rg:∃f fd,FK K "standing" (top 22) f fd)(Rf:∃f fd,FK K "parts" (top 23) f fd)(Rb:∃f fd,FK K "marks_left" (top 24) f fd)(Ra:∃f fd,FK K "sided_parts" (top 25) f fd)(Q_:∃f fd,FK K "borders" (top 26) f fd)(Q9:∃f fd,FK K "turned_round" (top 28) f fd)(Q8:∃f fd,FK K "ends_by_begin" (top 29) f fd)(Q7:∃f fd,FK K "goes_through" (top 30) f fd)(Q6:∃f fd,FK K "stretches" (top 31) f fd/\fd.code=.ref c1)(Q5:∃f fd,FK K "next_line" (top 32) f fd/\fd.code=.ref c2)(Q4:∃f fd,FK K "loop_from" (top 33) f fd)(Q3:∃f fd,FK K "turns_left" (top 34) f fd)(Q2:∃f fd,FK K "count_bounded" (top 35) f fd)(Q1:∃f fd,FK K "is_figure" (top 50) f fd)(Q0:∃f fd,FK K "is_ring" (top 51) f fd)(QZ:∃f fd,FK K "is_asked" (top 52) f fd)(QY:∃f fd,FK K "call_end" (top 54) f fd)(QX:∃f fd,FK K "answer_call" (top 55) f fd)(Qx:∃f fd,FK K "answers" (top 56) f fd)(EI:∃f fd,ME K C "__init__" "Edge.__init__" RK f fd)(DI:∃f fd,ME K D "__init__" "Desk.__init__" RO f fd)(DB:∃f fd,ME K D "begin" "Desk.begin" RQ f fd)(DA:∃f fd,ME K D "add" "Desk.add" RR f fd)(DW:∃f fd,ME K D "where" "Desk.where" RL f fd)(DS:∃f fd,ME K D "border_stretches" "Desk.border_stretches" RM f fd)(DE:∃f fd,ME K D "edges" "Desk.edges" RP f fd)(DP:∃f fd,ME K D "pieces" "Desk.pieces" RN f fd)(H:∃t,nsIn K mainGlobals "OUTSIDE"=some (some (.int 0 t)))(O:∃t,nsIn K mainGlobals "INSIDE"=some (some (.int 1 t)))(A:∃t,nsIn K mainGlobals "ON_BORDER"=some (some (.int 2 t)))(W:∃t,nsIn K mainGlobals "BEGIN"=some (some (.int 0 t)))(PH:∃t,nsIn K mainGlobals "ADD"=some (some (.int 1 t)))(U:∃t,nsIn K mainGlobals "WHERE"=some (some (.int 2 t)))(V:∃t,nsIn K mainGlobals "EDGES"=some (some (.int 3 t)))(Nu:∃t,nsIn K mainGlobals "DONE"=some (some (.int 0 t)))(S:∃t,nsIn K mainGlobals "WRONG"=some (some (.int (-2) t)))(Nt:∃t,nsIn K mainGlobals "FULL"=some (some (.int (-6) t)))(r:∃t,nsIn K mainGlobals "FEWEST_POINTS"=some (some (.int 3 t)))(y:∃t,nsIn K mainGlobals "MOST_POINTS"=some (some (.int 64 t)))(d:∃t,nsIn K mainGlobals "FARTHEST_CORNER"=some (some (.int 16384 t)))(l:∃t,nsIn K mainGlobals "FARTHEST_ASKED"=some (some (.int 140737488355328 t)))(c:∃t,nsIn K mainGlobals "LARGEST_W_ASKED"=some (some (.int 2147483648 t)))(Px:nsIn K mainGlobals "abs"=some none)(R:nsIn K mainGlobals "range"=some none)(Pr:nsIn K mainGlobals "len"=some none)(N:nsIn K mainGlobals "sorted"=some none)(Pw:nsIn K mainGlobals "all"=some none)(Pu:nsIn K mainGlobals "any"=some none)(Pq:nsIn K mainGlobals "max"=some none)(Pp:nsIn K mainGlobals "min"=some none)(aC:nsIn K mainGlobals "Edge"=some (some (.ref C)))(UY:plainGet K C Str.empty=true)(V2:hasDictIn K C=true)(UP:plainOver K C=true)(UA:findIn K (.ref C) "__setattr__"=some (some (.builtin "object.__setattr__")))(U7:makesIn K C=true)(Vd:keepIn K (.ref C)=true)(aD:nsIn K mainGlobals "Desk"=some (some (.ref D)))(UX:plainGet K D Str.empty=true)(V1:hasDictIn K D=true)(UO:plainOver K D=true)(Uz:findIn K (.ref D) "__setattr__"=some (some (.builtin "object.__setattr__")))(U6:makesIn K D=true)(Vc:keepIn K (.ref D)=true)(SM:findIn K (.ref C) "ax"=some none)(SK:findIn K (.ref C) "ay"=some none)(SJ:findIn K (.ref C) "bx"=some none)(SH:findIn K (.ref C) "by"=some none)(SF:findIn K (.ref C) "dx"=some none)(SE:findIn K (.ref C) "dy"=some none)(NK:findIn K (.ref C) "mark"=some none)(Y:findIn K (.ref D) "sizes"=some none)(KQ:findIn K (.ref D) "drawn"=some none)(Z:findIn K (.ref D) "sided"=some none)(FI:∃g g0 g1 g2 g3 g4 g5,nsIn K mainGlobals "FIGURES"=some (some (.ref g))/\Jr K g #[.ref g0,.ref g1,.ref g2,.ref g3,.ref g4,.ref g5]/\Jr K g0 #[.bool false,.bool true,.bool false,.bool true]/\Jr K g1 #[.bool false,.bool false,.bool true,.bool true]/\Jr K g2 #[.bool false,.bool true,.bool true,.bool true]/\Jr K g3 #[.bool false,.bool false,.bool false,.bool true]/\Jr K g4 #[.bool false,.bool true,.bool false,.bool false]/\Jr K g5 #[.bool false,.bool true,.bool true,.bool false])(SI:∃g t0 t1 t2 t3 t4,nsIn K mainGlobals "CALL_SIZES"=some (some (.ref g))/\Jr K g #[.int 1 t0,.int 3 t1,.int 5 t2,.int 2 t3,.int 2 t4]): ∃fd:FuncData,(∀s us,us.length=1->BindsTo s fd ⟨us,[]⟩ ((["calls"]:List Str).zip us))/\∀base:Heap,BM mg base->dw P w K mg base iG 11 fa fd ["calls"] (JL K P1 P2):=by
 have L:mg "abs"=none:=i1 X G Px;have F:mg "range"=none:=i1 X G R;have b:mg "len"=none:=i1 X G Pr;have x:mg "sorted"=none:=i1 X G N;have LQ:mg "all"=none:=i1 X G Pw;have Qp:mg "any"=none:=i1 X G Pu;have LP:mg "max"=none:=i1 X G Pq;have Qo:mg "min"=none:=i1 X G Pp;have I:∀{n:Str} {v:Int},(∃t,nsIn K mainGlobals n=some (some (.int v t)))->fP mg n v:=λ⟨t,z⟩=>⟨t,mg_of X G z⟩
 have J:fP mg "OUTSIDE" 0:=I H;have Q:fP mg "INSIDE" 1:=I O;have B:fP mg "ON_BORDER" 2:=I A;have K5:fP mg "BEGIN" 0:=I W;have LO:fP mg "ADD" 1:=I PH;have K3:fP mg "WHERE" 2:=I U;have K4:fP mg "EDGES" 3:=I V;have E:fP mg "DONE" 0:=I Nu;have m:fP mg "WRONG" (-2):=I S;have NQ:fP mg "FULL" (-6):=I Nt;have u:fP mg "FEWEST_POINTS" 3:=I r;have a:fP mg "MOST_POINTS" 64:=I y;have k:fP mg "FARTHEST_CORNER" 16384:=I d;have o:fP mg "FARTHEST_ASKED" 140737488355328:=I l;have j:fP mg "LARGEST_W_ASKED" 2147483648:=I c;have T:ET K C:=⟨⟨UY,V2,UP,UA⟩,SM,SK,SJ,SH,SF,SE,NK⟩
 have TD:DT K D:=⟨⟨UX,V1,UO,Uz⟩,Y,KQ,Z⟩
 refine e9 FI λg g0 g1 g2 g3 zz=>aF zz λg4 g5 q qg zz=>sj zz λq0 q1 q2 q3 q4 q5=>?_;have FG:Jg K mg g [g0,g1,g2,g3,g4,g5]:=by
  refine⟨mg_of X G q,qg.bG (by show 6<=sizeLine;decide) (.cons rfl (.cons rfl (.cons rfl (.cons rfl (.cons rfl (.cons rfl .nil)))))),rfl,λi f e=>?_⟩
  match i,e with
  | 0,e=>cases e;exact q0.bG (by show 4<=sizeLine;decide) (.cons rfl (.cons rfl (.cons rfl (.cons rfl .nil))))
  | 1,e=>cases e;exact q1.bG (by show 4<=sizeLine;decide) (.cons rfl (.cons rfl (.cons rfl (.cons rfl .nil))))
  | 2,e=>cases e;exact q2.bG (by show 4<=sizeLine;decide) (.cons rfl (.cons rfl (.cons rfl (.cons rfl .nil))))
  | 3,e=>cases e;exact q3.bG (by show 4<=sizeLine;decide) (.cons rfl (.cons rfl (.cons rfl (.cons rfl .nil))))
  | 4,e=>cases e;exact q4.bG (by show 4<=sizeLine;decide) (.cons rfl (.cons rfl (.cons rfl (.cons rfl .nil))))
  | 5,e=>cases e;exact q5.bG (by show 4<=sizeLine;decide) (.cons rfl (.cons rfl (.cons rfl (.cons rfl .nil))))
  | i+6,e=>simp at e
 refine e9 SI λgs t0 t1 t2 t3 zz=>ae zz λt4 qs qt=>?_;have SG:T8 K mg gs:=⟨mg_of X G qs,qt.bG (by show 5<=sizeLine;decide) (.cons ⟨t0,rfl⟩ (.cons ⟨t1,rfl⟩ (.cons ⟨t2,rfl⟩ (.cons ⟨t3,rfl⟩ (.cons ⟨t4,rfl⟩ .nil)))))⟩
 refine aN F1 λf1 Yu F1=>?_;refine aN F2 λf2 Yt F2=>?_;refine aN F3 λf3 Ys F3=>?_;refine aN F4 λf4 Yr F4=>?_;refine aN F5 λf5 Yq F5=>?_;refine aN F8 λf8 Yp F8=>?_;refine aN F9 λf9 Yo F9=>?_;refine aN Rn λY0 Xf Rn=>?_;refine aN Rm λYZ Xe Rm=>?_;refine aN Rl λYY Xd Rl=>?_;refine aN Rk λYX Xc Rk=>?_;refine aN Rj λYW Xb Rj=>?_;refine aN Ri λYV Xa Ri=>?_;refine aN Rh λYU W_ Rh=>?_;refine aN Rg λYT W' Rg=>?_;refine aN Rf λYS W0 Rf=>?_;refine aN Rb λYR WZ Rb=>?_;refine aN Ra λYQ WY Ra=>?_;refine aN Q_ λYP WX Q_=>?_;refine aN Q9 λYO WW Q9=>?_;refine aN Q8 λYN WV Q8=>?_;refine aN Q7 λYM WU Q7=>?_;refine bI Q6 λYL WT Q6 V4=>?_;refine bI Q5 λYK WS Q5 Qc=>?_;refine aN Q4 λYJ WR Q4=>?_;refine aN Q3 λYI WQ Q3=>?_;refine aN Q2 λYH WO Q2=>?_;refine aN Q1 λYG WN Q1=>?_;refine aN Q0 λYF WM Q0=>?_;refine aN QZ λYE WK QZ=>?_;refine aN QY λYD WJ QY=>?_;refine aN QX λYC WI QX=>?_;refine aN Qx λYB SD Qx=>?_;refine aN EI λXg Sz EI=>?_;refine aN DI λXh SA DI=>?_;refine aN DB λYz WG DB=>?_;refine aN DA λYA WH DA=>?_;refine aN DW λYv WB DW=>?_;refine aN DS λYw WC DS=>?_;refine aN DE λYy WE DE=>?_;refine aN DP λYx WD DP=>?_;have e:=VZ.symm.trans (mg_of X G Qx.at_);cases e;refine(ab SD (bt (ps:=["calls"]) Qx.fn (λ_ _ _ _ _ _=>Fs λ_=>rfl)) <| λbase hB=>?_);have GE:Od P w K mg base "Edge" C 1 ["self","corner","other","mark"] (JG C):=⟨Xg,Sz,⟨U7,EI.at_,EI.is,Vd⟩,O6 EI.fn T Qo LP,mg_of X G aC,EI.fn.binds (λ_ _ _ _ _ _=>U' λ_ _ _ _=>rfl)⟩
 have G1:Fn P w K mg base "common_divisor" 1 ["a","b"] Gx:=F1.ph X G (M_ F1.fn L) (λ_ _ _ _ _ _=>ln2 λ_ _=>rfl);have G2:Fn P w K mg base "lowest" 2 ["x","y","w"] uZ:=F2.ph X G (M0 F2.fn G1) (λ_ _ _ _ _ _=>N6 λ_ _ _=>rfl);have G3:Fn P w K mg base "place" 1 ["point"] oB:=F3.ph X G (HB F3.fn) (λ_ _ _ _ _ _=>Fs λ_=>rfl);have G4:Fn P w K mg base "direction" 1 ["dx","dy"] DY:=F4.ph X G (Na F4.fn) (λ_ _ _ _ _ _=>ln2 λ_ _=>rfl);have G5:Fn P w K mg base "heading" 2 ["begin","end"] u0:=F5.ph X G (Ka F5.fn G4) (λ_ _ _ _ _ _=>ln2 λ_ _=>rfl);have G8:Fn P w K mg base "ring_edges" 3 ["ring","mark"] (Mf K C):=F8.ph X G (OW F8.fn GE F b) (λ_ _ _ _ _ _=>ln2 λ_ _=>rfl);have G9:Fn P w K mg base "side" 1 ["edge","point"] (oT (λe p=>.int (M.o5 e p)) C):=F9.ph X G (J_ F9.fn T) (λ_ _ _ _ _ _=>ln2 λ_ _=>rfl);have Uh:Fn P w K mg base "behind_a" 1 ["edge","point"] (oT (λe p=>.int (M.gj e p)) C):=Rn.ph X G (Nb Rn.fn T) (λ_ _ _ _ _ _=>ln2 λ_ _=>rfl);have Ug:Fn P w K mg base "ahead_of_b" 1 ["edge","point"] (oT (λe p=>.int (M.iN e p)) C):=Rm.ph X G (Nc Rm.fn T) (λ_ _ _ _ _ _=>ln2 λ_ _=>rfl);have Ue:Fn P w K mg base "lies_on" 2 ["edge","point"] (oT (λe p=>.bl (M.fE e p)) C):=Rl.ph X G (M' Rl.fn G9 Uh Ug) (λ_ _ _ _ _ _=>ln2 λ_ _=>rfl);have Ud:Fn P w K mg base "marks_above" 2 ["edges","point"] (JF C):=Rk.ph X G (O0 Rk.fn T G9) (λ_ _ _ _ _ _=>ln2 λ_ _=>rfl);have XU:Fn P w K mg base "changes_around" 3 ["edges","point"] (Mt C):=Rj.ph X G (Pg Rj.fn T Uh Ug Ue G4) (λ_ _ _ _ _ _=>ln2 λ_ _=>rfl);have XT:Fn P w K mg base "meetings" 3 ["edge","other"] (Mh C):=Ri.ph X G (OZ Ri.fn T Ue G2) (λ_ _ _ _ _ _=>ln2 λ_ _=>rfl);have XS:Fn P w K mg base "cuts" 4 ["edge","edges"] (Cu C):=Rh.ph X G (Kb Rh.fn XT G3 x) (λ_ _ _ _ _ _=>ln2 λ_ _=>rfl);have XR:Fn P w K mg base "standing" 4 ["edges","figure","point"] (yd K C):=Rg.ph X G (HA Rg.fn XU Ud x LQ Qp J Q B) (λ_ _ _ _ _ _=>N6 λ_ _ _=>rfl);have XQ:Fn P w K mg base "parts" 5 ["edges"] (ye P w C):=Rf.ph X G (HC Rf.fn T XS F b) (λ_ _ _ _ _ _=>Fs λ_=>rfl);have XO:Fn P w K mg base "marks_left" 3 ["edges","part","change"] (Mi C):=Rb.ph X G (OY Rb.fn Ud) (λ_ _ _ _ _ _=>N6 λ_ _ _=>rfl);have XN:Fn P w K mg base "sided_parts" 6 ["edges"] (Me C):=Ra.ph X G (OV Ra.fn XQ XO) (λ_ _ _ _ _ _=>Fs λ_=>rfl);have XM:Fn P w K mg base "borders" 1 ["sided","figure"] (yf K):=Q_.ph X G (Kc Q_.fn) (λ_ _ _ _ _ _=>ln2 λ_ _=>rfl);have Uc:Fn P w K mg base "turned_round" 1 ["lines"] JE:=Q9.ph X G (OT Q9.fn) (λ_ _ _ _ _ _=>Fs λ_=>rfl);have Ub:Fn P w K mg base "ends_by_begin" 1 ["lines"] JH:=Q8.ph X G (O7 Q8.fn) (λ_ _ _ _ _ _=>Fs λ_=>rfl);have XJ:Fn P w K mg base "goes_through" 3 ["point","onward","back"] Mn:=Q7.ph X G (O5 Q7.fn G5 b) (λ_ _ _ _ _ _=>N6 λ_ _ _=>rfl);have XI:Fn P w K mg base "stretches" 5 ["lines"] (DX P1):=Q6.ph X G (MZ Q6.fn V4 Wv hB Ub Uc XJ G3 x) (λ_ _ _ _ _ _=>Fs λ_=>rfl);have XH:Fn P w K mg base "next_line" 6 ["line","onward"] (Mg P2):=Q5.ph X G (OX Q5.fn Qc Wu hB G5 LP) (λ_ _ _ _ _ _=>ln2 λ_ _=>rfl);have XG:Fn P w K mg base "loop_from" 7 ["line","onward"] (Mj P2):=Q4.ph X G (O1 Q4.fn XH) (λ_ _ _ _ _ _=>ln2 λ_ _=>rfl);have XF:Fn P w K mg base "turns_left" 1 ["loop"] Md:=Q3.ph X G (OU Q3.fn) (λ_ _ _ _ _ _=>Fs λ_=>rfl);have XE:Fn P w K mg base "count_bounded" 8 ["lines"] (Ms P2):=Q2.ph X G (Pf Q2.fn Ub XG XF) (λ_ _ _ _ _ _=>Fs λ_=>rfl);have S':Fn P w K mg base "is_figure" 1 ["how"] Gw:=Q1.ph X G (O3 Q1.fn FG b) (λ_ _ _ _ _ _=>Fs λ_=>rfl);have XD:Fn P w K mg base "is_ring" 1 ["ring"] (Ml K):=Q0.ph X G (O2 Q0.fn u a k b L LQ) (λ_ _ _ _ _ _=>Fs λ_=>rfl);have XC:Fn P w K mg base "is_asked" 1 ["x","y","w"] Mm:=QZ.ph X G (O4 QZ.fn j o L) (λ_ _ _ _ _ _=>N6 λ_ _ _=>rfl);have XB:Fn P w K mg base "call_end" 1 ["calls","begin"] (Mr K):=QY.ph X G (Pe QY.fn SG LO) (λ_ _ _ _ _ _=>ln2 λ_ _=>rfl);have MB:Cf P w K mg base D "begin" 1 ["self"] (JK C D):=DB.N5 TD.cl (Pb DB.fn TD E) (λ_ _ _ _ _ _=>Fs λ_=>rfl);have MA:Cf P w K mg base D "add" 4 ["self","which","ring"] (Mq C D):=DA.N5 TD.cl (Pc DA.fn TD nC XD G8 m NQ E a b) (λ_ _ _ _ _ _=>N6 λ_ _ _=>rfl);have MW:Cf P w K mg base D "where" 5 ["self","how","x","y","w"] (Mo C D):=DW.N5 TD.cl (O8 DW.fn TD FG S' XC XR m) (λ_ _ _ _ _ _=>U9 λ_ _ _ _ _=>rfl);have MS:Cf P w K mg base D "border_stretches" 7 ["self","how"] (JI C D P1 P2):=DS.N5 TD.cl (O9 DS.fn TD nC nP FG XN XM XI) (λ_ _ _ _ _ _=>ln2 λ_ _=>rfl);have ME:Cf P w K mg base D "edges" 8 ["self","how"] (E1 .edges C D P1 P2):=DE.N5 TD.cl (Pa DE.fn S' MS m b) (λ_ _ _ _ _ _=>ln2 λ_ _=>rfl);have MP:Cf P w K mg base D "pieces" 9 ["self","how"] (E1 .pieces C D P1 P2):=DP.N5 TD.cl (O' DP.fn S' MS XE Uc m E nP) (λ_ _ _ _ _ _=>ln2 λ_ _=>rfl);have GD:Od P w K mg base "Desk" D 2 ["self"] (Mp C D):=⟨Xh,SA,⟨U6,DI.at_,DI.is,Vc⟩,O_ DI.fn MB,mg_of X G aD,DI.fn.binds (λ_ _ _ _ _ _=>Fs λ_=>rfl)⟩
 have XA:Fn P w K mg base "answer_call" 10 ["desk","call"] (Mu C D P1 P2):=QX.ph X G (Pj QX.fn K5 LO K3 K4 MB MA MW ME MP) (λ_ _ _ _ _ _=>ln2 λ_ _=>rfl);exact Ph Qx.fn GD XB XA b
end
abbrev yb:OpenSpec:=PySem.Challenge.rw_ringfiguresdesk_s01_answers
theorem ER{q:Program}{b:List Str}{XP:(Str->Option Value)->Heap->Prop}{I:World->Heap->Prop}{d:DefRec}{K:Params->Frag}(Z:∀w h,I w h->(K w.params).In h)(hK:∀w:World,noTabs (K w.params)=true)(t:∃H,(recsOf q).find? (λe=>e.name==("stretches":Str))=some H)(r:∃E,(recsOf q).find? (λe=>e.name==("next_line":Str))=some E)(h1:∀w:World,tabIn (K w.params) "stretches"=some (c1,P1))(h2:∀w:World,tabIn (K w.params) "next_line"=some (c2,P2))(P:P1≠P2)(c:yb.wellSaid=true)(S:fB 11 callerA)
  (F:∀w mg j h,(K w.params).In h->h.Ns mainGlobals mg->mg d.name=some (.ref j)->
   ∃fd:FuncData,(∀s n,n.length=1->BindsTo s fd ⟨n,[]⟩ ((["calls"]:List Str).zip n))/\∀base:Heap,BM mg base->dw yb.prog w (K w.params) mg base iG 11 j fd ["calls"] (JL (K w.params) P1 P2)) :
  WalkOS q b XP I yb d [] (λf vs=>PySem.call f vs):=by
 intro w p C mg mb G Y j o pm cd doc dV kV ho hd W hD x V args B as i D Q v U;refine ae (os_pre_some i) λa e1 e2=>?_;refine cE (Codec.encAll_of_decAll yb.args args a e1) λe3 g=>?_;subst e3;have k:=Z w _ Y;refine aA t λH t=>?_;refine aA r λE r=>?_;refine ae (F w mg j _ k G.T.g x) λfd X hF=>?_;have y:a.1.length<=5000:=by
  have q:((Codec.inLen 0 5000 a.1&&a.1.all (Codec.inInt (-9223372036854775808) 9223372036854775807))&&true)=true:=g;rw[c5,c5]at q;exact(Codec.inNat_iff.1 q.1.1).2
 refine aN G.T.bmain λbm O l=>sj l λb1 b2 b3 b4 b5 b6=>?_;refine enter_call (qh (Fp (R:=[]) (cl:=classAt p.heap) (ns:=a.1) k G.T.g G.T.b G.T.builtins G.T.nolimit V v y S (hK w) (tab_of G.T k t (h1 w)) (tab_of G.T k r (h2 w)) P ⟨bm,O,b1,b2,b3,b4,b5,b6⟩ hF X e2) λr' s' T=>?_);refine e_ T λu A m N M l=>cE l λL J=>?_;subst m;exact(oX (.inl (fh u _ A rfl (λ_=>rfl) N ((OpenSpec.post_iff c g _ _).2 rfl) <| λz=>Bool.noConfusion (show false=true from z))) M L J)
end Wk
open PySem PySem.W PyProof.Rows
namespace PySem.W.Fast
def tw2645359542864880210:=0
def tw15357460453571449834:=0
def tw18096128189628519705:=0
def tw5042820289849735048:=0
def tw3039138200526498171:=0
def tw11699557129595982600:=0
def tw5341237903256279110:=0
def tw1467328701868260466:=0
def tw3812470254619842664:=0
def tw15603512846584967935:=0
def tw12035830505935412423:=0
def tw16286518393935495658:=0
def tw12172722396424193239:=0
def tw13259361755435649525:=0
def tw16454847370206652493:=0
def tw4777128559819249026:=0
def tw1409262092335007584:=0
def tw13737193081781872008:=0
def tw171190986113874505:=0
def tw6222161302411557251:=0
def tw6965796698410531264:=0
def tw15352813061179449134:=0
def tw9512872740059879742:=0
def tw2456524723145025054:=0
def tw15480291314617274967:=0
def tw1530652071799853957:=0
def tw1284361863191207809:=0
def tw4250267233227852682:=0
def tw15674802012037922459:=0
def tw13389555328028923966:=0
def tw7841183402720979400:=0
def tw3951107473361680540:=0
def tw17767480560295851478:=0
def tw3993691961598429585:=0
def tw8468263989083626438:=0
def tw6767272513644112613:=0
def tw17638576168045726475:=0
def tw6811911727435176232:=0
def tw17578941600407897321:=0
def tw8218615719812491620:=0
def tw9745776862615988630:=0
def tw8075252783734393313:=0
def tw14657813626125849188:=0
def tw14501659540913797538:=0
def tw1777889706187927015:=0
def tw10349733704583572243:=0
def tw1937914882654394108:=0
def tw10413622188889661499:=0
def tw16574203831934739998:=0
def tw9117628220661450974:=0
def tw8038834240655340889:=0
def tw1446326221518680505:=0
def tw17691844501293386298:=0
def tw7706298908870646479:=0
def tw16909919413725818049:=0
def tw3916186983740534096:=0
def tw8010239808971188778:=0
def tw10726740099244425521:=0
def tw14971602292588477780:=0
def tw17172819548874018496:=0
def tw13915644794427542943:=0
def tw913787953447076218:=0
def tw4136334240560996548:=0
def tw415921699321242977:=0
def tw6780380625337901129:=0
def tw16726931149541108280:=0
def tw15439847030578167615:=0
def tw13763115314952246333:=0
def tw10451420702703325837:=0
def tw12910276677964915412:=0
def tw17590597120196422744:=0
def tw13414491684652612145:=0
def tw1968151413016665963:=0
def tw16061251352443220678:=0
def tw11518542770222862852:=0
def tw539226034853648182:=0
def tw3202225237846282426:=0
def tw9831425400831789834:=0
def tw9053135557379146347:=0
def tw7011724082419036352:=0
def tw6499661714532796648:=0
def tw13229414796935841161:=0
def tw17126084587225502857:=0
def tw16735009636706484163:=0
def tw8357526719516686242:=0
def tw3209056656925035362:=0
def tw4222461320301232654:=0
def tw4332333568810128525:=0
def tw6886660079715576903:=0
def tw9623541207461307742:=0
def tw5975959439827406437:=0
def tw1773797338219622927:=0
def tw4033627300200832308:=0
def tw11569534221583993591:=0
def tw10820887288692772449:=0
def tw4519460699693341626:=0
def tw3165671685282220063:=0
def tw14657014633725338519:=0
def tw4404151990497409:=0
def tw9502344120285919932:=0
end PySem.W.Fast
set_option maxHeartbeats 0 in
theorem PySem.Challenge.cw_ringfiguresdesk_s01_answers_holds : PySem.Challenge.rw_ringfiguresdesk_s01_answers.Holds := by
 w_on;k_headS;(case hw=>exact⟨[.list [.int 0]],by decide,by decide⟩)
 k_fillS
 refine Wk.ER (c1:=196) (P1:=192) (c2:=201) (P2:=199) (λw h Y=>PySem.W.kIn_of Y) (λw=>?k) ?r1 ?r2 (λw=>?h1) (λw=>?h2) (by decide) (by decide) ⟨rfl,by decide,by decide⟩ ?F
 case k=>kernel_rfl
 case r1=>exact⟨_,rfl⟩
 case r2=>exact⟨_,rfl⟩
 case h1=>kernel_rfl
 case h2=>kernel_rfl
 case F=>
  intro w mg c h b G a;refine' Wk.all_mk (C:=66) (D:=302) (c1:=196) (c2:=201) b G a (by decide) (by decide) (by kernel_rfl) (by kernel_rfl) ?_ ?_ ?_ ?_ ?_ ?_ ?_ ?_ ?_ ?_ ?_ ?_ ?_ ?_ ?_ ?_ ?_ ?_ ?_ ?_ ?_ ?_ ?_ ?_ ?_ ?_ ?_ ?_ ?_ ?_ ?_ ?_ ?_ ?_ ?_ ?_ ?_ ?_ ?_ ?_ ?_ ?_ ?_ ?_ ?_ ?_ ?_ ?_ ?_ ?_ ?_ ?_ ?_ ?_ ?_ ?_ ?_ ?_ ?_ ?_ ?_ ?_ ?_ ?_ ?_ ?_ ?_ ?_ ?_ ?_ ?_ ?_ ?_ ?_ ?_ ?_ ?_ ?_ ?_ ?_ ?_ ?_ ?_ ?_ ?_ ?_ ?_ ?_ ?_ ?_
  all_goals first | k_is | exact⟨_,by k_is⟩ | exact⟨_,_,Wk.fk (by k_is) (by k_is) (by k_is) (by k_is)⟩ | exact⟨_,_,Wk.me (by k_is) (by k_is) (by k_is) (by k_is) (by k_is)⟩ | exact⟨_,_,Wk.fk (by k_is) (by k_is) (by k_is) (by k_is),rfl⟩ | exact⟨_,_,_,_,_,_,_,by k_is,⟨_,_,_,by k_is⟩,⟨_,_,_,by k_is⟩,⟨_,_,_,by k_is⟩,⟨_,_,_,by k_is⟩,⟨_,_,_,by k_is⟩,⟨_,_,_,by k_is⟩,⟨_,_,_,by k_is⟩⟩ | exact⟨_,_,_,_,_,_,by k_is,_,_,_,by k_is⟩
