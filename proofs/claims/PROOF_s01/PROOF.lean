import PyProof.Rows.All
import Wide.All
import OpenK.AllK
import Wide.FinOn
import PyProof.EqAt
import PyProof.EqKinds
import PyProof.TupleCall
import KE.BitLaws
import Open.SpecLaws
import KE.OsHead
import KE.OsGo
import PyProof.Rows.RuleB_lshift
import PyProof.Rows.RuleB_or
import PyProof.Rows.RuleB_xor
import PyProof.Rows.RuleM_int
import PyProof.PureStr
import PyProof.WalkInts
import PyProof.Rows.MinMaxN
import PySem.Challenge.RW_pathtimes_s01_answers
import OpenK.KQuick
import Sg30Spec
import PyProof.Rows.BitMore
import PyFlatLaws
import PySg30
set_option Elab.async false
set_option linter.all false
set_option maxRecDepth 100000
set_option maxHeartbeats 4000000
set_option compiler.extract_closed false
set_option bootstrap.genMatcherCode false
set_option genSizeOf false
set_option autoImplicit true
open Array renaming length_toList->xP,getElem?_toList->DV,toList->JA,toList_inj->KR,mk->NI
open BEq renaming comm->NL
open Bool renaming and_eq_true->bf,or_eq_true->bw,false_eq_true->cQ,and_eq_true_iff->cT,and_eq_false_iff->cU,true_and->fH,noConfusion->fM,false_ne_true->fT,or_eq_false_iff->gn,false_and->gJ,not_eq_true'->iz,or_false->kU,true_eq_false->lC,false_or->mL,and_false->nA,not_eq_true->qC,not_eq_false'->t_,toNat_true->xr,not_false->zm,or_true->CY,eq_iff_iff->Ds,not_not->JD,toNat_false->KY,not_true->Ov,and_true->Ow,true_or->Rl
open Classical renaming byContradiction->bR,choose_spec->jr,not_not->j5,not_forall->qp,choose->qz,propDecidable->BQ
open Eq renaming trans->Ti
open Except renaming error->CU,ok->Px
open Except.ok renaming inj->kS
open False renaming elim->fj
open ForInStep renaming yield->xo
open Function renaming comp->Om
open Iff renaming rfl->qy
open Int renaming toNat_natCast->bP,natCast_mul->sV,one_mul->uB,natCast_nonneg->zt,fdiv_eq_ediv_of_nonneg->zx,natCast_add->Du,toNat->FI,natAbs_natCast->H_,natCast_zero->K0,natCast_emod->K1,natCast_ediv->K2,toNat_zero->NU,zero_add->Rp,pow_zero->Rq,ediv_one->Rr
open List renaming length_map->aQ,getElem?_eq_getElem->aS,getElem?_eq_some_iff->aX,length_append->aY,mem_cons_of_mem->aZ,length_cons->a_,getD_eq_getElem?_getD->ba,mem_cons_self->bg,mem_cons->bo,replicate->bq,mem_singleton->bz,map_append->bD,mem_of_getElem?->bJ,append_assoc->bO,mem_append_right->bW,mem_append_left->cf,map_cons->cg,mem_append->cj,length_singleton->cw,length_take->cK,filter_cons->cP,size_toArray->cV,length_nil->cW,getElem?_append_right->cX,mem_filter->c8,range->du,getElem?_map->dA,take_length->dC,not_mem_nil->dD,drop_eq_getElem_cons->dN,getElem_of_mem->dU,getElem?_replicate->dY,all_eq_true->d8,length_filter_le->eP,length_set->eQ,getElem?_append_left->eU,mem_range->eY,mem_map->fc,sum_cons->fe,length_replicate->fz,replicate_succ->fI,append_nil->fL,exists_cons_of_length_eq_add_one->fX,map_nil->gE,mem_zipIdx_iff_getElem?->gK,length_drop->gN,idxOf_lt_length_iff->gP,contains_iff_mem->gU,filter_append->hJ,cons_append->ia,length_reverse->ij,length->iw,any_cons->iE,drop_drop->iF,map->iN,any_eq_true->iO,sum_nil->i_,reverse_append->je,getElem?_eq_none->js,lookup_cons->jz,flatten_cons->j6,length_eq_zero_iff->j7,nodup_cons->kf,getElem?_set_self->kL,pairwise_cons->lB,nodup_append->me,getElem?_set->mf,getElem?_inj->mh,foldl_append->mi,reverse_reverse->mj,getElem?_set_ne->mn,nodup_nil->nz,mem_flatten->nD,getElem_mem->nE,getElem_idxOf->oq,nil_append->oK,find?_cons->oM,lookup->qo,map_map->qA,map_congr_left->rZ,filter_nil->sS,getElem?_take->t9,any_nil->vm,any_eq_false->vt,take_of_length_le->vy,take_append_drop->vN,isPrefixOf->xq,flatMap_append->xQ,filter_sublist->xR,filterMap_cons->xS,forIn_nil->zj,drop_zero->zk,rel_of_pairwise_cons->zO,zipIdx_cons->BM,mem_flatMap->BN,drop_length->BO,getElem?_cons_zero->BU,drop_eq_nil_of_le->C3,sum_append->Dp,of_mem_zip->Dq,forIn_cons->Dr,eq_nil_or_concat->DW,take_zero->E_,mem_of_mem_take->Fd,eraseDups_cons->Gn,set_cons_zero->HW,set_cons_succ->HX,mem_filterMap->HY,zipWith->JB,reverse_cons->JJ,getElem_take->JK,flatMap_cons->JL,filter_congr->JM,nodup_range->KS,getElem_map->KU,getElem_inj->KW,range'->Lq,zipIdx_nil->LR,range_succ->LU,foldl_cons->LV,foldl->NM,take_succ->NO,take_left->NP,map_drop->Ot,all_cons->Ou,map_set->Ri,any_map->Rj,set->S7
open List.Nodup renaming sublist->zi
open List.Pairwise renaming imp_of_mem->Bb
open List.cons renaming injEq->LP
open Nat renaming le_refl->aT,lt_of_lt_of_le->bF,pow_le_pow_right->b_,eq_of_testBit_eq->cp,add_assoc->cu,le_trans->cJ,testBit_lt_two_pow->c7,testBit_or->de,testBit_and->di,add_sub_cancel'->dM,zero_le->d6,two_pow_pos->d9,testBit_xor->d_,ne_of_lt->fu,lt_of_le_of_lt->fU,zero_testBit->f9,zero_add->gF,add_zero->gW,testBit_two_pow_sub_one->gY,testBit_succ->ib,le_add_right->ic,testBit_two_pow->ik,exists_testBit_of_ne_zero->iA,le_of_lt->iI,mod_eq_of_lt->iP,testBit_mul_two_pow->iQ,testBit_zero->jA,lt_irrefl->jH,lt_or_ge->kK,strongRecOn->lX,mul_le_mul_right->mq,testBit_two_pow_self->mM,mod_lt->qm,pow_succ->qB,lt_succ_self->qD,mul_add_mod->sU,eq_or_lt_of_le->ua,add_sub_cancel_left->uE,sub_self->vo,ne_of_gt->vp,mul_comm->vq,lt_succ_of_lt->vw,le_of_succ_le->vx,succ_mul->yq,add_comm->yr,sub_add_cancel->zp,eq_zero_or_pos->zq,add_sub_cancel->zr,lt_pow_two_of_testBit->zP,lt_trichotomy->Al,div_eq_of_lt->BP,testBit_div_two_pow->BV,le_of_eq->CZ,le_mul_of_pos_left->C5,div_add_mod->Dt,eq_of_beq_eq_true->DY,mod_self->JE,mul_mod_right->JN,shiftLeft_eq->KZ,one_pos->Lr,one_mul->Ls,mul_add_div->LX,and_le_left->LY,pow_zero->Rn,mul_succ->Ro,rec->Wc
open Nat.succ renaming inj->yk
open Ne renaming symm->d5
open Option renaming isSome_some->oo,map_eq_some_iff->ot,some->qj,map_some->sQ,isSome_iff_exists->Bc,isSome_map->JH,getD_none->KQ,none->Lp
open Option.some renaming inj->bQ,injEq->Ag
open Prod renaming ext->w6,snd->S5,fst->S6
open Prod.mk renaming inj->eI,injEq->Oo
open PyFlat renaming put->cM,putRows->cO,played->sE,putRow->Ba,told->Lo,calls->Rh,put1->Ta
open PyProof renaming noPylong_small->C2
open PyProof.Rows renaming callWith_type1->gX,subscriptTail_builtinR->C8,nat_or_add_and->Fc,AllBare->FK,type_int_bit_length->JT,slot_int_bit_length->JU,bitAnd_pp->KP,callWith_builtin1->K7,chain_link->NS,Subscript_->NT,isub_int->Rt,iadd_int->Ru,in_str->Tz,ite_tt->U8,ite_ff->U9,Call_->Wh
open PySem renaming Addr->aW,wpAny_bind->bL,Value->bM,Str->bV,FuncData->bX,Shared->b9,wpAny_pure->dF,mem_of_lookup->dJ,boot_len->dO,World->e_,Program->fm,Stmt->fG,wpAny_truthy_bool->gd,wpAny_mono->ja,Heap->jj,Expr->jS,NameKind->lA,wpAny_passesOwn->lY,wpAny_field->md,wpAny_setField_rec->ow,wpAny_Call_Name_kw->ox,wpAny_seqItems->qt,IsPair->t4,Around->t5,DictEntry->uC,wpAny_callSpecial?_slot->uF,Obj->uG,wpAny_pyIter_zip->wt,wpAny_execs_nil->xu,pushCells_keeps->xw,tupleKind_room_in1->zu,wpAny_letOwnedTupleGo_zip->zQ,wpAny_call_entry->BR,codeAny_mono->C0,wpAny_pyNext_range_end->C6,wpAny_pyIter_rangeiter->C7,IsZip->Dl,wpAny_isTrue_Compare1->DZ,Scope->E8,IsRangeIter->Fb,wpAny_updateSeq_pair->Fe,wpAny_loadName_local->Ff,wpAny_loadName_cell->Gp,wpAny_standAt->GJ,wpAny_onRaise->GK,wpAny_holding->GL,call_meets->HU,wpAny_pyIter_range->Ia,Pos->Ie,Within->Jz,seqIndex_neg->JI,wpAny_pyIter_list->JP,wpAny_pyIter_enum->JQ,wpAny_assign_Name->JR,slot_list_getitem->JS,wpAny_getItem_of->K4,wpAny_execs_cons->K5,wpAny_Dict_empty->K6,seqIndex_of->Lu,OsState->Mn,wpAny_Name->NQ,typeIs_int->NR,Keyword->Rk,BindsTo->Rm,Env->S9,ZipApart->To
open PySem.Around renaming under->Jy
open PySem.Builtin renaming bitNot->dS,bitAnd->dZ,bitOr->jG,bitXor->zh
open PySem.Builtin.Int renaming intBits->cD
open PySem.Builtin.List renaming listTooLong->sI,listFitsIndex->NV
open PySem.Builtin.Range renaming rangeSize->uD,small->Tw
open PySem.Builtin.SmallTypes renaming ownedTupleIsFree->iG,nextOf->jl,ownedTupleHandOut->r8
open PySem.Builtin.Str renaming occurrences->nF
open PySem.Calls renaming callWith_builtin->ou,spliced_cons->t7,evalArgs_plain->w_,Name_function_global->zw,spliced_nil->Ak
open PySem.Challenge renaming pw_pathtimes_s01_answers->pE
open PySem.CmpOp renaming NotIn->Tj,In->Z5
open PySem.Code renaming isFrame->JC,frames->Tn
open PySem.Data renaming seq->NK,dict->Xr
open PySem.F renaming plainAttrs_list->bu,type_list_append->bG,slot_list_append->bH,type_list_pop->eM,slot_list_pop->eO,slot_zip_next->xt,slot_tuple_iterator_next->zy,slot_dict_getitem->zN,slot_dict_get->DU,args_zip_next_1->JO,entry_zip_next->K3,slot_int_rmul->LZ
open PySem.FuncData.mk renaming injEq->Wg
open PySem.Heap renaming get?_push_of_some->bE,lt_size->cn,get?_push_size->cZ,size_push->eZ,SameBut->yp,get?_update_other->C4,get?_update_self->DX
open PySem.Heap.DictOf renaming new->Xy
open PySem.Heap.IsSliceOf renaming new->U4
open PySem.Heap.IsTuple renaming push->We
open PySem.Heap.SameBut renaming update->TB
open PySem.IsRange renaming new->S8
open PySem.NameKind renaming free->sC,cell->GI
open PySem.Obj renaming mapSeq->CV,data_mapFields->HZ
open PySem.Paired renaming length->bT,snoc->Tc
open PySem.PassesOwn renaming never->b8
open PySem.SeqAt renaming EqAt->U6
open PySem.SeqAt.EqAt renaming str_int->HR,int_str->HS
open PySem.Shared renaming heap->S_,mk->Xp
open PySem.Str renaming ofString->eE
open PySem.StrLaws renaming found_one->Pz
open PySem.Value renaming ref->f7,int->uA,type->wm,none->CS,str->KJ,isStrOf->Oq,isInt->Tf,float->Tg,bytes->Th,bool->U5
open PySem.Value.type renaming inj->NJ
open PySem.W renaming Frag->bj,emptyDict->iy,findIn->jT,instObj->ke,boot_heap->ny,callWith_K->t6,keepIn->vj,methodCall_KW->vM,plainGet->wq,WData->w8,length_le_weightAllW->xx,plainGet_of->xO,Frag->yl,lookIn->zg,mg_none_of->zo,methodObj->Ai,hasDictIn->Aj,fnOf->CT,WellAll->CW,cellsFrom_some->C1,takerIn->Dm,SharedT->FJ,callWith_K0->Gm,isFn->Jw,plainOver->JF,ktu_apart->JG,handedIn->KO,makesIn->LQ,codeIn->NN,mg_of->Td
open PySem.W.Codec renaming encAll->yo,denoteAll->Dn,app->Py
open PySem.W.Fast renaming tw14364793385576792824->gf,te14364793385576792824->iH,tw15667345088766844465->sJ,te15667345088766844465->sL,tw5923862056798008813->ub,te5923862056798008813->uc,tw14374325043358763698->GN,tw14082659384304107361->GO,tw11892475500146522536->GP,tw10110043849684766642->GQ,te14374325043358763698->GR,te14082659384304107361->GS,te11892475500146522536->GU,te10110043849684766642->GV,tw4187177175401517315->Ib,te4187177175401517315->Ic
open PySem.W.Looks renaming here->U7
open PySem.W.WData renaming weightAll->xp,int->Xq
open PySem.Walks renaming range->Te
open PySem.Within renaming cons->Wd
open PySg30 renaming answers_asked->w9,whole->ym,shape->yn,answers->E9
open Sg30 renaming value->dm,does->fh,between->f6,holds->gT,System_->i9,behind->nJ,truth->ql,sameRows->sG,isState->vk,Form->wo,read->yy,check->ze,isPath->Ah,Call->KN
open Sg30Neutral renaming step->h_,bytesOf->jd,start->j4,natural->rY,asked1->tZ,callOf->zf,short->Jx,nats->KL,whole32->TC,asked->Wf
open Sum renaming inl->c_,inr->fW
open Sum.inl renaming inj->wZ
open Sum.inr renaming inj->S4
open True renaming intro->zd
open UInt8 renaming toNat_inj->lW,ofNat->Af,toNat_ofNat'->HV
open Lean in
set_option hygiene false in
local macro_rules
|`($d:declaration)=>do
 let m:=d.raw[0]
 let e:=d.raw[1]
 let z:=mkAtom ""
 let c:=d.raw.setArg 0 (m.setArg 4 (mkNullNode #[mkNode `Lean.Parser.Command.noncomputable #[z]]))
 if e[0].isToken "abbrev" then
  if m[4].isNone then return c.setArg 1 (mkNode `Lean.Parser.Command.definition #[z,e[1],e[2],e[3],mkNullNode])
  if m[4][0][0].isToken "meta" then return c
 if e[0].isToken "def"&&m[4].isNone then return d.raw.setArg 1 (mkNode `Lean.Parser.Command.theorem #[z,e[1],mkNode `Lean.Parser.Command.declSig #[e[2][0],e[2][1][0]],e[3]])
 Macro.throwUnsupported
set_option hygiene false in
local macro_rules|`(($a,$b,*))=>if b.elemsAndSeps.size%2==0 then Lean.Macro.throwUnsupported else `(⟨$a,$b,*⟩)
set_option hygiene false in
local macro_rules|`(↑$a)=>`(($a).length)
set_option hygiene false in
local macro_rules|`(tactic|show $e)=>`(tactic|refine $e)
def h8{c:Prop}{_:Decidable c}(h:¬c){α:Sort u}{t e:α}:ite c t e=e:=if_neg h
def h9{c:Prop}{_:Decidable c}(h:c){α:Sort u}{t e:α}:ite c t e=t:=if_pos h
namespace Pt
inductive X4{A B C D:Type}(h:A->B->C->D->Prop):Prop|mk(a b c d)(_:h a b c d):X4 h
inductive X5{A B C D E:Type}(h:A->B->C->D->E->Prop):Prop|mk(a b c d e)(_:h a b c d e):X5 h
inductive X6{A B C D E F:Type}(h:A->B->C->D->E->F->Prop):Prop|mk(a b c d e f)(_:h a b c d e f):X6 h
inductive X7{A B C D E F G:Type}(h:A->B->C->D->E->F->G->Prop):Prop|mk(a b c d e f g)(_:h a b c d e f g):X7 h
inductive X8{A B C D E F G I:Type}(h:A->B->C->D->E->F->G->I->Prop):Prop|mk(a b c d e f g i)(_:h a b c d e f g i):X8 h
inductive X9{A B C D E F G I J:Type}(h:A->B->C->D->E->F->G->I->J->Prop):Prop|mk(a b c d e f g i j)(_:h a b c d e f g i j):X9 h
inductive X10{A B C D E F G I J K:Type}(h:A->B->C->D->E->F->G->I->J->K->Prop):Prop|mk(a b c d e f g i j l)(_:h a b c d e f g i j l):X10 h
inductive X11{A B C D E F G I J K L:Type}(h:A->B->C->D->E->F->G->I->J->K->L->Prop):Prop|mk(a b c d e f g i j l m)(_:h a b c d e f g i j l m):X11 h
inductive X12{A B C D E F G I J K L M:Type}(h:A->B->C->D->E->F->G->I->J->K->L->M->Prop):Prop|mk(a b c d e f g i j l m n)(_:h a b c d e f g i j l m n):X12 h
inductive X13{A B C D E F G I J K L M N:Type}(h:A->B->C->D->E->F->G->I->J->K->L->M->N->Prop):Prop|mk(a b c d e f g i j l m n o)(_:h a b c d e f g i j l m n o):X13 h
inductive X14{A B C D E F G I J K L M N O:Type}(h:A->B->C->D->E->F->G->I->J->K->L->M->N->O->Prop):Prop|mk(a b c d e f g i j l m n o p)(_:h a b c d e f g i j l m n o p):X14 h
inductive X15{A B C D E F G I J K L M N O P:Type}(h:A->B->C->D->E->F->G->I->J->K->L->M->N->O->P->Prop):Prop|mk(a b c d e f g i j l m n o p q)(_:h a b c d e f g i j l m n o p q):X15 h
inductive X16{A B C D E F G I J K L M N O P Q:Type}(h:A->B->C->D->E->F->G->I->J->K->L->M->N->O->P->Q->Prop):Prop|mk(a b c d e f g i j l m n o p q r)(_:h a b c d e f g i j l m n o p q r):X16 h
inductive X19{A B C D E F G I J K L M N O P Q R S T:Type}(h:A->B->C->D->E->F->G->I->J->K->L->M->N->O->P->Q->R->S->T->Prop):Prop|mk(a b c d e f g i j l m n o p q r s t u)(_:h a b c d e f g i j l m n o p q r s t u):X19 h
inductive X22{A B C D E F G I J K L M N O P Q R S T U V W:Type}(h:A->B->C->D->E->F->G->I->J->K->L->M->N->O->P->Q->R->S->T->U->V->W->Prop):Prop|mk(a b c d e f g i j l m n o p q r s t u v w x)(_:h a b c d e f g i j l m n o p q r s t u v w x):X22 h
inductive X23{A B C D E F G I J K L M N O P Q R S T U V W X:Type}(h:A->B->C->D->E->F->G->I->J->K->L->M->N->O->P->Q->R->S->T->U->V->W->X->Prop):Prop|mk(a b c d e f g i j l m n o p q r s t u v w x y)(_:h a b c d e f g i j l m n o p q r s t u v w x y):X23 h
section
variable{G a b c d e f g i j l m n o p q r s t u v w x y z:Prop}
def A2(h:a/\b)(k:a->b->G):G:=k h.1 h.2
def A3(h:a/\b/\c)(k:a->b->c->G):G:=A2 h.2 (k h.1)
def A4(h:a/\b/\c/\d)(k:a->b->c->d->G):G:=A3 h.2 (k h.1)
def A5(h:a/\b/\c/\d/\e)(k:a->b->c->d->e->G):G:=A4 h.2 (k h.1)
def A6(h:a/\b/\c/\d/\e/\f)(k:a->b->c->d->e->f->G):G:=A5 h.2 (k h.1)
def A7(h:a/\b/\c/\d/\e/\f/\g)(k:a->b->c->d->e->f->g->G):G:=A6 h.2 (k h.1)
def A8(h:a/\b/\c/\d/\e/\f/\g/\i)(k:a->b->c->d->e->f->g->i->G):G:=A7 h.2 (k h.1)
def A9(h:a/\b/\c/\d/\e/\f/\g/\i/\j)(k:a->b->c->d->e->f->g->i->j->G):G:=A8 h.2 (k h.1)
def A10(h:a/\b/\c/\d/\e/\f/\g/\i/\j/\l)(k:a->b->c->d->e->f->g->i->j->l->G):G:=A9 h.2 (k h.1)
def A11(h:a/\b/\c/\d/\e/\f/\g/\i/\j/\l/\m)(k:a->b->c->d->e->f->g->i->j->l->m->G):G:=A10 h.2 (k h.1)
def A12(h:a/\b/\c/\d/\e/\f/\g/\i/\j/\l/\m/\n)(k:a->b->c->d->e->f->g->i->j->l->m->n->G):G:=A11 h.2 (k h.1)
def A13(h:a/\b/\c/\d/\e/\f/\g/\i/\j/\l/\m/\n/\o)(k:a->b->c->d->e->f->g->i->j->l->m->n->o->G):G:=A12 h.2 (k h.1)
def A14(h:a/\b/\c/\d/\e/\f/\g/\i/\j/\l/\m/\n/\o/\p)(k:a->b->c->d->e->f->g->i->j->l->m->n->o->p->G):G:=A13 h.2 (k h.1)
def A15(h:a/\b/\c/\d/\e/\f/\g/\i/\j/\l/\m/\n/\o/\p/\q)(k:a->b->c->d->e->f->g->i->j->l->m->n->o->p->q->G):G:=A14 h.2 (k h.1)
def A16(h:a/\b/\c/\d/\e/\f/\g/\i/\j/\l/\m/\n/\o/\p/\q/\r)(k:a->b->c->d->e->f->g->i->j->l->m->n->o->p->q->r->G):G:=A15 h.2 (k h.1)
def A17(h:a/\b/\c/\d/\e/\f/\g/\i/\j/\l/\m/\n/\o/\p/\q/\r/\s)(k:a->b->c->d->e->f->g->i->j->l->m->n->o->p->q->r->s->G):G:=A16 h.2 (k h.1)
def A18(h:a/\b/\c/\d/\e/\f/\g/\i/\j/\l/\m/\n/\o/\p/\q/\r/\s/\t)(k:a->b->c->d->e->f->g->i->j->l->m->n->o->p->q->r->s->t->G):G:=A17 h.2 (k h.1)
def A19(h:a/\b/\c/\d/\e/\f/\g/\i/\j/\l/\m/\n/\o/\p/\q/\r/\s/\t/\u)(k:a->b->c->d->e->f->g->i->j->l->m->n->o->p->q->r->s->t->u->G):G:=A18 h.2 (k h.1)
def A20(h:a/\b/\c/\d/\e/\f/\g/\i/\j/\l/\m/\n/\o/\p/\q/\r/\s/\t/\u/\v)(k:a->b->c->d->e->f->g->i->j->l->m->n->o->p->q->r->s->t->u->v->G):G:=A19 h.2 (k h.1)
def A21(h:a/\b/\c/\d/\e/\f/\g/\i/\j/\l/\m/\n/\o/\p/\q/\r/\s/\t/\u/\v/\w)(k:a->b->c->d->e->f->g->i->j->l->m->n->o->p->q->r->s->t->u->v->w->G):G:=A20 h.2 (k h.1)
def A22(h:a/\b/\c/\d/\e/\f/\g/\i/\j/\l/\m/\n/\o/\p/\q/\r/\s/\t/\u/\v/\w/\x)(k:a->b->c->d->e->f->g->i->j->l->m->n->o->p->q->r->s->t->u->v->w->x->G):G:=A21 h.2 (k h.1)
def A23(h:a/\b/\c/\d/\e/\f/\g/\i/\j/\l/\m/\n/\o/\p/\q/\r/\s/\t/\u/\v/\w/\x/\y)(k:a->b->c->d->e->f->g->i->j->l->m->n->o->p->q->r->s->t->u->v->w->x->y->G):G:=A22 h.2 (k h.1)
def A24(h:a/\b/\c/\d/\e/\f/\g/\i/\j/\l/\m/\n/\o/\p/\q/\r/\s/\t/\u/\v/\w/\x/\y/\z)(k:a->b->c->d->e->f->g->i->j->l->m->n->o->p->q->r->s->t->u->v->w->x->y->z->G):G:=A23 h.2 (k h.1)
end
end Pt
open Lean in
local macro_rules
 |`(tactic|rcases $h:term with⟨$ps,*⟩)=>do
  let ps:=ps.getElems
  let n:=ps.size
  if n < 3 || h.raw.isOfKind `Lean.Parser.Term.paren then Macro.throwUnsupported
  let cl ←if h.raw.isIdent then `(tactic|try clear $h) else `(tactic|skip)
  let mut ts:Array (TSyntax `tactic):=#[]
  for i in [0:n-1] do
   let k:=n - i
   let r ←`(tactic|refine $(mkIdent (Name.mkStr `Pt s!"A{k}")) $h ?_)
   let a:=ps[0:k-1].toArray
   ts:=ts.push <| ←if k==n then `(tactic|($r;$cl;rintro $[($a:rcasesPatLo)]*($(ps[n-1]!):rcasesPatLo)))
    else do
     let z:=ps[k-1:n].toArray
     `(tactic|($r;$cl;rintro $[($a:rcasesPatLo)]*hz' <;> rcases hz' with⟨$z,*⟩))
  for k in [1:n] do
   if k==1 || 3 < k then
    let x:=mkIdent (if k==1 then `Exists.casesOn else Name.mkStr (Name.mkStr `Pt s!"X{k}") "casesOn")
    let a:=ps[0:k].toArray
    let z:=ps[k:n].toArray
    ts:=ts.push <| ←`(tactic|(refine $x:ident $h ?_;$cl;rintro $[($a:rcasesPatLo)]*hz' <;> rcases hz' with⟨$z,*⟩))
  `(tactic|first $[|$ts:tactic]*|rcases($h:term) with⟨$ps,*⟩)
local macro_rules
 |`(tactic|obtain $p:rcasesPatMed:=$h:term)=>`(tactic|(refine bR λhn'=>?_;rcases $h:term with $p:rcasesPatMed <;> (refine hn' ?_;clear hn')))
set_option hygiene false in
local macro_rules|`(tactic|lia)=>`(tactic|with_reducible first|assumption|exact aT _|exact d6 _|exact iI (by assumption)|exact Nat.succ_le_of_lt (by assumption)|exact vw (by assumption)|exact Nat.lt_succ_of_le (by assumption)|exact Nat.le_succ_of_le (by assumption)|exact qD _|exact bF (by assumption) (by assumption)|exact fU (by assumption) (by assumption)|exact cJ (by assumption) (by assumption)|exact absurd (by assumption) (Nat.not_lt_zero _))
open Lean in
local macro_rules
|`(tactic|let($p,$ps,*):=$h)=>do
 let mut a:Array Ident:=#[]
 let mut t:Array (TSyntax `tactic):=#[]
 for p in #[p]++ps.getElems do
  let j:=mkIdent (←Macro.addMacroScope (Name.mkSimple s!"z{a.size}"))
  match p with
  |`($i:ident)=>a:=a.push i
  |`(($q,$r,*))=>a:=a.push j;t:=t.push (←`(tactic|let($q,$r,*):=$j))
  |_=>a:=a.push j
 `(tactic|(obtain⟨$[$a:ident],*⟩:=$h;$t;*))
set_option hygiene false in
local macro_rules|`(⋯)=>`(by simp)
namespace L2
open PySem PySem.Spec PyProof.Rows
meta abbrev Key:=Sum Int bV
abbrev Gy:Key->bM->Bool
 | .inl k,v=>Tf k v
 | .inr x,v=>Oq x v
abbrev ab5(w:e_):Key->Int
 | .inl k=>hashInt k
 | .inr x=>hashStr w x
def kN:∀{k:Key} {v:bM},Gy k v=true->(∃i t,k=c_ i/\v=uA i t)\/(∃x t,k=fW x/\v=KJ x t)
 | .inl i,v,h=>by
  let(t,e):=Value.isInt_shape (k:=i) (v:=v) h;show .inl (i,t,rfl,e)
 | .inr x,v,h=>by
  let(t,e):=Value.isStrOf_shape (x:=x) (v:=v) h;show .inr (x,t,rfl,e)
def Wt(i:Int)(t:Tok):Gy (.inl i) (.int i t)=true:=by simp[Gy,Tf]
def Xa(x:bV)(t:Tok):Gy (.inr x) (.str x t)=true:=by simp[Gy,Oq]
def aeL(a b:Int):decide ((c_ a:Key)=c_ b)=(a==b):=by
 by_cases e:a=b
 ·subst e;simp
 ·have h:¬(c_ a:Key)=c_ b:=λq=>e (wZ q);rw[decide_eq_false h];show(beq_eq_false_iff_ne.mpr e).symm
def aeT(a b:bV):decide ((fW a:Key)=fW b)=decide (a=b):=by
 by_cases e:a=b
 ·subst e;simp
 ·have h:¬(fW a:Key)=fW b:=λq=>e (S4 q);rw[decide_eq_false h,decide_eq_false e]
def adz(a:Int)(b:bV):decide ((c_ a:Key)=fW b)=false:=decide_eq_false (λq=>nomatch q)
def adH(a:bV)(b:Int):decide ((fW a:Key)=c_ b)=false:=decide_eq_false (λq=>nomatch q)
abbrev jY(prog:fm)(w:e_):PySem.KeyKind prog w Key where
 is:=Gy
 hash:=ab5 w
 inj:=λv a b D B=>by
  rcases kN D with⟨i,t,rfl,rfl⟩|⟨x,t,rfl,rfl⟩
  ·rcases kN B with⟨j,u,rfl,e⟩|⟨y,u,rfl,e⟩
   ·injection e with g _;rw[g]
   ·show nomatch e
  ·rcases kN B with⟨j,u,rfl,e⟩|⟨y,u,rfl,e⟩
   ·show nomatch e
   ·injection e with g _;rw[g]
 byValue:=λk v h=>by
  rcases kN h with⟨i,t,rfl,rfl⟩|⟨x,t,rfl,rfl⟩ <;> rfl
 pyHash:=λz h=>by
  rcases kN z with⟨i,t,rfl,rfl⟩|⟨x,t,rfl,rfl⟩
  ·show wpAny_pyHash_int h
  ·show wpAny_pyHash_str h
 eqBool:=λhu z h=>by
  rcases kN hu with⟨i,t,rfl,rfl⟩|⟨x,t,rfl,rfl⟩
  ·rcases kN z with⟨j,u,rfl,rfl⟩|⟨y,u,rfl,rfl⟩
   ·rw[aeL] at h;show wpAny_eqBool_int h
   ·rw[adz] at h;show HS i t y u _ _ _ _ h
  ·rcases kN z with⟨j,u,rfl,rfl⟩|⟨y,u,rfl,rfl⟩
   ·rw[adH] at h;show HR x t j u _ _ _ _ h
   ·rw[aeT] at h;show wpAny_eqBool_str h
 «strs»:=λk x t v h=>by
  rcases kN h with⟨i,u,rfl,e⟩|⟨y,u,rfl,e⟩
  ·show nomatch e
  ·injection e with g _;subst g
   cases v <;> rfl
def Rx(prog:fm)(w:e_)(i:Int)(t:Tok):(jY prog w).is (.inl i) (.int i t)=true:=Wt i t
def R3(prog:fm)(w:e_)(x:bV)(t:Tok):(jY prog w).is (.inr x) (.str x t)=true:=Xa x t
inductive V where
 |vI|bl(b:Bool)|int(i:Int)|str(x:bV)|uo(b:Array UInt8)|flt(b:UInt64)|ref(a:aW)|ty(n:String)
 deriving DecidableEq
abbrev RelV:V->bM->Prop
 | .vI,u=>u=CS
 | .bl b,u=>u=U5 b
 | .int i,u=>∃t,u=uA i t
 | .str x,u=>∃t,u=KJ x t
 | .uo b,u=>∃t,u=Th b t
 | .flt b,u=>∃t,u=Tg b t
 | .ref a,u=>u=f7 a
 | .ty n,u=>u=wm n
meta abbrev Vals:List V->List bM->Prop:=Paired RelV
def Vals.length(r:Vals xs us):↑xs=↑us:=bT r
def Vals.get:∀{xs:List V} {us:List bM} {i:Nat} {x:V},Vals xs us->xs[i]? =some x->∃u,us[i]? =some u/\RelV x u
 |_,_,_,_,.nil,e=>by simp at e
 |_,_,0,_,.cons r _,e=>by simp at e;subst e;show(_,rfl,r)
 |_,_,i+1,x,.cons _ t,e=>by
  let(u,h1,h2):=Vals.get (i:=i) (x:=x) t (by simpa using e);show(u,by simpa using h1,h2)
def Vals.set(r:RelV x u):∀{xs:List V} {us:List bM} (i:Nat),Vals xs us->Vals (xs.set i x) (us.set i u)
 |_,_,_,.nil=> .nil
 |_,_,0,.cons _ t=> .cons r t
 |_,_,i+1,.cons q t=> .cons q (Vals.set r i t)
def Vals.append:∀{xs ys:List V} {us g:List bM},Vals xs us->Vals ys g->Vals (xs++ys) (us++g)
 |_,_,_,_,.nil,s=>s
 |_,_,_,_,.cons r t,s=> .cons r (Vals.append t s)
def Vals.take:∀{xs:List V} {us:List bM} (n:Nat),Vals xs us->Vals (xs.take n) (us.take n)
 |_,_,0,_=> .nil
 |_,_,_+1,.nil=> .nil
 |_,_,n+1,.cons r t=> .cons r (Vals.take n t)
def Vals.drop:∀{xs:List V} {us:List bM} (n:Nat),Vals xs us->Vals (xs.drop n) (us.drop n)
 |_,_,0,r=>r
 |_,_,_+1,.nil=> .nil
 |_,_,n+1,.cons _ t=>Vals.drop n t
abbrev CO:Option V->Option bM->Prop
 |some v,some u=>RelV v u
 |none,none=>True
 |_,_=>False
abbrev KV{κ:Type}:List (κ×V)->List (κ×bM)->Prop:=Paired λ(p:κ×V) (q:κ×bM)=>p.1=q.1/\RelV p.2 q.2
abbrev kV:Key->V
 | .inl i=> .int i
 | .inr x=> .str x
inductive HO where
 |lst(xs:List V)
 |tup(xs:List V)
 |dK(kvs:List (Key×V))|dT(kvs:List (List Key×V))
 |set(S:Int->Bool)(n:Nat)
 |ins(C dx:aW)(fs:List (bV×V))
 |own(x:aW)
 |xd(fs:List (bV×V))
 |met(f x:aW)
 |N9(lo hi:Int)
 |QC(o:uG)(u:HO)
 |tbl(ps:Array bM)
 |ext(φ:jj->Prop)
meta abbrev Hp:=aW->Option HO
abbrev upd(H:Hp)(a:aW)(o:HO):Hp:=λb=>if b=a then some o else H b
def aV:upd H a o a=some o:=by unfold upd;rw[h9 rfl]
def bc(h:b≠a):upd H a o b=H b:=by unfold upd;rw[h8 h]
def nU:upd (upd H a o) a u=upd H a u:=by
 funext b;unfold upd;split <;> rfl
def eV{H:Hp}(h:H a=some o)(h':H b=some u)(d:o≠u):a≠b:=by
 intro e;subst e;rw[h] at h';show d (bQ h')
def bb{H:Hp}(h:H a=some o)(h':H b=none):a≠b:=by
 intro e;subst e;rw[h] at h';cases h'
section
variable(P:fm)(w:e_)
abbrev lZ(H:Hp)(h:jj)(a:aW):HO->Prop
 | .lst xs=>↑xs<=sizeLine/\∃(g:List bM) (n:Nat),Vals xs g/\h.get? a=some {cls:= .type "list",data:= .seq g.toArray n}
 | .tup xs=>↑xs<=sizeLine/\∃g:List bM,Vals xs g/\IsTup h a g.toArray
 | .dK kvs=>↑kvs<=sizeLine/\(a==sysModules)=false/\∃vs,KV kvs vs/\h.DictOf (jY P w) a vs
 | .dT kvs=>↑kvs<=sizeLine/\(a==sysModules)=false/\∃xs:List (List Key×aW×bM),
  Paired (λ(p:List Key×V) (q:List Key×aW×bM)=>p.1=q.1/\H q.2.1=some (.tup (p.1.map kV))/\RelV p.2 q.2.2) kvs xs/\
  ∃o es ep,h.get? a=some o/\o.ExactDict/\o.data= .dict es ep/\es.toList=xs.map (entryOfKey (tupleKind (jY P w)))/\(xs.map (·.1)).Nodup
 | .set S n=>h.SetOf (intKind P w) a S n
 | .ins C dx fs=>H dx=some (.own a)/\↑fs<=1000/\dx≠a/\h.get? a=some (ke C dx)/\
  ∃mA,h.Ns1 dx mA/\(∀f,CO (fs.lookup f) (mA f))/\Jz mA (fs.map (·.1))
 | .own _=>∃o,h.get? a=some o
 | .xd fs=>∃mA,h.Ns1 a mA/\∀f,CO (fs.lookup f) (mA f)
 | .N9 lo hi=>∃t u v,h.get? a=some {cls:= .type "range",data:= .fields #[.int lo t,.int hi u,.int 1 v]}
 | .QC o u=>h.get? a=some o/\lZ H h a u
 | .tbl ps=>h.get? a=some {cls:= .none,data:= .fields ps}
 | .met f x=>h.get? a=some (Ai (.ref f) (.ref x))
 | .ext φ=>φ h/\(∃o,h.get? a=some o)/\∀h1 h2:jj,φ h1->(∀o,h1.get? a=some o->h2.get? a=some o)->φ h2
abbrev Ew(H:Hp)(h:jj):Prop:=∀a o,H a=some o->lZ P w H h a o
end
section
variable{P:fm}{w:e_}{H H':Hp}{h h':jj}{a:aW}{o:HO}
def lZ.lt(x:lZ P w H h a o):a < h.objs.size:=by
 cases o with
 |lst xs=>let(_,_,_,_,e):=x;show cn e
 |tup xs=>let(_,_,_,p):=x;show p.lt
 |dK kvs=>let(_,_,_,_,o,_,_,e,_):=x;show cn e
 |dT kvs=>let(_,_,_,_,o,_,_,e,_):=x;show cn e
 |set S n=>let(o,_,_,_,e,_):=x;show cn e
 |ins C dx fs=>let(_,_,_,e,_):=x;show cn e
 |own y=>let(_,e):=x;show cn e
 |xd fs=>let(_,(_,_,_,e,_),_):=x;show cn e
 |N9 lo hi=>let(_,_,_,e):=x;show cn e
 |QC g u=>let(e,_):=x;show cn e
 |tbl ps=>show cn (show h.get? a=some _ from x)
 |met f y=>show cn (show h.get? a=some _ from x)
 |ext φ=>let(_,(_,e),_):=x;show cn e
def Paired.jh:∀{g:List α} {j:List β},Paired F g j->(∀a b,F a b->G a b)->Paired G g j
 |_,_,.nil,_=> .nil
 |_,_,.cons r t,f=> .cons (f _ _ r) (Paired.jh t f)
def lZ.UX(x:lZ P w H h a o)(k:∀b u,(b=a\/H b=some (.own a))->h.get? b=some u->h'.get? b=some u)
  (D:∀b,H b=some (.own a)->H' b=some (.own a))(J:∀b xs,H b=some (.tup xs)->H' b=some (.tup xs)):lZ P w H' h' a o:=by
 induction o with
 |lst xs=>let(z,j,n,r,e):=x;show(z,j,n,r,k _ _ (.inl rfl) e)
 |tup xs=>let(z,j,r,g,e,c):=x;show(z,j,r,g,k _ _ (.inl rfl) e,c)
 |dK kvs=>let(z,y,vs,r,g,es,ep,e,c):=x;show(z,y,vs,r,g,es,ep,k _ _ (.inl rfl) e,c)
 |dT kvs=>
  let(z,y,xs,r,g,es,ep,e,c):=x;show(z,y,xs,Paired.jh r λp q z=>(z.1,J _ _ z.2.1,z.2.2),g,es,ep,k _ _ (.inl rfl) e,c)
 |set S n=>let(g,es,ep,t,e,c):=x;show(g,es,ep,t,k _ _ (.inl rfl) e,c)
 |ins C dx fs=>
  let(d,z,ne,e,mA,(B,es,ep,M,c),r):=x;show(D _ d,z,ne,k _ _ (.inl rfl) e,mA,(B,es,ep,k _ _ (.inr d) M,c),r)
 |own y=>let(g,e):=x;show(g,k _ _ (.inl rfl) e)
 |xd fs=>let(mA,(B,es,ep,e,c),r):=x;show(mA,(B,es,ep,k _ _ (.inl rfl) e,c),r)
 |N9 lo hi=>let(t,u,v,e):=x;show(t,u,v,k _ _ (.inl rfl) e)
 |QC g u N=>let(e,q):=x;show(k _ _ (.inl rfl) e,N q)
 |tbl ps=>
  have e:h.get? a=some {cls:= .none,data:= .fields ps}:=x;change h'.get? a=some {cls:= .none,data:= .fields ps};show k a _ (.inl rfl) e
 |met f y=>
  have e:h.get? a=some (Ai (.ref f) (.ref y)):=x;change h'.get? a=some (Ai (.ref f) (.ref y));show k a _ (.inl rfl) e
 |ext φ=>let(p,(o,e),st):=x;show(st _ _ p λo q=>k _ _ (.inl rfl) q,(o,k _ _ (.inl rfl) e),st)
def Ew.lt(x:Ew P w H h)(e:H a=some o):a < h.objs.size:=(x a o e).lt
def Ew.fresh(x:Ew P w H h)(e:h.objs.size<=a):H a=none:=by
 cases q:H a with
 |none=>rfl
 |some u=>show absurd (bF (x.lt q) e) (jH _)
def Ew.kept(x:Ew P w H h)(k:∀b u,h.get? b=some u->h'.get? b=some u):Ew P w H h':=λa o e=>
 (x a o e).UX (λb u _ q=>k b u q) (λ_ q=>q) λ_ _ q=>q
def Ew.laid(x:Ew P w H h)(k:∀b u,h.get? b=some u->h'.get? b=some u)(z:h.objs.size<=a)(new:lZ P w (upd H a o) h' a o):Ew P w (upd H a o) h':=λb u e=>by
 have g:=x.fresh z
 by_cases j:b=a
 ·subst j;rw[aV] at e;cases e;show new
 ·rw[bc j] at e;show(x b u e).UX (λc v _ q=>k c v q) (λc q=>by rw[bc (bb q g)];show q) λc xs q=>by rw[bc (bb q g)];show q
end
abbrev Rd(H:Hp)(a:aW)(u:HO):Prop:=H a=some u\/∃o,H a=some (.QC o u)
def Rd.ok(r:Rd H a u)(x:Ew P w H h):lZ P w H h a u:=by
 rcases r with r|⟨o,r⟩
 ·show x a u r
 ·let(_,q):=x a _ r;show q
abbrev Mut:Option HO->Prop
 |some (.lst _)=>True
 |some (.dK _)=>True
 |some (.dT _)=>True
 |some (.set _ _)=>True
 |some (.ins _ _ _)=>True
 |some (.ext _)=>True
 |_=>False
section
variable{P:fm}{w:e_}{H:Hp}{h h':jj}{x e:aW}{o':HO}
def Ew.write(ok:Ew P w H h)(D:Mut (H x))(O:e=x\/H e=some (.own x))(k:∀b u,b≠e->h.get? b=some u->h'.get? b=some u)(N:∃u,h'.get? e=some u)
  (new:lZ P w (upd H x o') h' x o'):Ew P w (upd H x o') h':=λb u q=>by
 have j:∀c y,H c=some (.own y)->c≠x:=λc y r z=>by subst z;rw[r] at D;show D
 have B:∀c xs,H c=some (.tup xs)->c≠x:=λc xs r z=>by subst z;rw[r] at D;show D
 by_cases J:b=x
 ·subst J;rw[aV] at q;cases q;show new
 ·rw[bc J] at q
  by_cases g:b=e
  ·have Q:H b=some (.own x):=by
     rcases O with z|z
     ·show absurd (g.trans z) J
     ·rw[g];show z
   rw[q] at Q;cases Q;let(v,U):=N;show(v,by rw[g];show U)
  ·show(ok b u q).UX (λc v M r=>k c v ?_ r) (λc r=>by rw[bc (j c b r)];show r) λc xs r=>by rw[bc (B c xs r)];show r
   rcases M with rfl|M
   ·show g
   ·rintro rfl;rcases O with z|z
    ·show j c b M z
    ·rw[M] at z;cases z;show J rfl
end
structure Un(fs ex:List aW)(H H':Hp)(h h':jj):Prop where
 keep:∀b o,h.get? b=some o->H b=none->b∉fs->b∉ex->h'.get? b=some o
 slot:∀b o,h.get? b=some o->H b=none->b∈fs->b∉ex->∃g,h'.get? b=some {o with slots:=g}
 free:∀b o,h.get? b=some o->H b=none->b∉ex->H' b=none
 there:∀b o,h.get? b=some o->b∉ex->∃o',h'.get? b=some o'
 tups:∀b xs,H b=some (.tup xs)->H' b=some (.tup xs)
 frzs:∀b o u,H b=some (.QC o u)->H' b=some (.QC o u)
 tbls:∀b ps,H b=some (.tbl ps)->∃more,H' b=some (.tbl (ps++more))
section
variable{fs aK ex aP:List aW}{H H1 H2:Hp}{h h1 h2 h':jj}{a x e:aW}{o:HO}
def Un.any(u:Un fs ex H H1 h h1)(q:h.get? b=some g)(n:H b=none)(hx:b∉ex):∃z,h1.get? b=some {g with slots:=z}:=by
 by_cases j:b∈fs
 ·show u.slot b g q n j hx
 ·show(g.slots,u.keep b g q n j hx)
def Un.kept(k:∀b u,h.get? b=some u->h'.get? b=some u):Un fs ex H H h h':=
 (λb g q _ _ _=>k b g q,λb g q _ _ _=>(g.slots,k b g q),λ_ _ _ n _=>n,λb g q _=>(g,k b g q),λ_ _ q=>q,λ_ _ _ q=>q,λ_ ps q=>(#[],by rw[q];simp))
def Un.refl:Un fs ex H H h h:=Un.kept λ_ _ q=>q
def Un.laid(k:∀b u,h.get? b=some u->h'.get? b=some u)(j:h.objs.size<=a)(g:H a=none):Un fs ex H (upd H a o) h h' where
 keep:=λb u q _ _ _=>k b u q
 slot:=λb u q _ _ _=>(u.slots,k b u q)
 free:=λb u q n _=>by rw[bc (fu (bF (cn q) j))];show n
 there:=λb u q _=>(u,k b u q)
 tups:=λb xs q=>by rw[bc (bb q g)];show q
 frzs:=λb u xs q=>by rw[bc (bb q g)];show q
 tbls:=λb ps q=>(#[],by rw[bc (bb q g),q];simp)
def Un.write(j:Mut (H x))(M:e=x\/H e=some (.own x))(k:∀b u,b≠e->h.get? b=some u->h'.get? b=some u)(B:∃u,h'.get? e=some u):Un fs ex H (upd H x o) h h':=by
 have hx:∀b,H b=none->b≠x:=λb n z=>by subst z;rw[n] at j;show j
 have J:∀b,H b=none->b≠e:=λb n z=>by
  subst z;rcases M with r|r
  ·show hx b n r
  ·rw[n] at r;cases r
 have D:∀b u,H b=some u->¬Mut (some u)->b≠x:=λb u q N z=>by subst z;rw[q] at j;show N j
 show(λb u q n _ _=>k b u (J b n) q,λb u q n _ _=>(u.slots,k b u (J b n) q),λb u q n _=>by rw[bc (hx b n)];show n,λb u q _=>?_,
  λb xs q=>by rw[bc (D b _ q λz=>z)];show q,λb u xs q=>by rw[bc (D b _ q λz=>z)];show q,λb ps q=>(#[],by rw[bc (D b _ q λz=>z),q];simp))
 by_cases g:b=e
 ·subst g;show B
 ·show(u,k b u g q)
end
abbrev trk(h:jj)(H:Hp):List aW:=(du h.objs.size).filter λa=>(H a).isSome
abbrev QE(h:jj)(H:Hp):jj:=PySem.W.hideAll h (trk h H)
def Wi(h:jj)(H:Hp):(QE h H).objs.size=h.objs.size:=PySem.W.hideAll_size _ _
def YS(e:h.get? b=some o)(n:H b=none):(QE h H).get? b=some o:=
 PySem.W.hideAll_get _ e λg=>by
  have q:(H b).isSome=true:=(c8.mp g).2;rw[n] at q;simp at q
def ab9(e:(QE h H).get? b=some o):h.get? b=some o/\H b=none:=by
 have g:h.get? b=some o:=PySem.W.of_hideAll (trk h H) e;show(g,?_)
 cases q:H b with
 |none=>rfl
 |some x=>
  have j:b∈trk h H:=c8.mpr (eY.mpr (cn g),by simp[q]);have z:(QE h H).get? b=none:=PySem.W.hideAll_none (trk h H) j;rw[z] at e;cases e
structure Mod(K:bj)(mg:bV->Option bM)(base:jj):Prop where
 kin:K.In base
 glob:base.Ns mainGlobals mg
 blt:∃g,base.Ns builtinsNs g/\∀x:bV,x≠"__name__"->g x=bootBuiltins x
 nolimit:base.NoLimit
structure Cx where
 prog:fm
 w:e_
 K:bj
 mg:bV->Option bM
 base:jj
 A:t5
 N:List bV
 s_0:b9
 H_0:Hp
 env:S9
 outer:List S9
 stack:List S9
 ex:List aW
 fn:bV->Bool
 calm:Bool
 pn:List (aW×uG)
 xe:bM->b9->Prop
abbrev Yd(l:List S9):List aW:=l.filterMap (·.frame)
meta abbrev Cx.fs(X:Cx):List aW:=Yd X.outer
abbrev Vis(g:E8)(x:bV):Prop:=g.names.lookup x=some .local\/g.names.lookup x=some .cell\/g.names.lookup x=some .free
abbrev Loc(g:E8)(x:bV):Prop:=g.names.lookup x=some .local\/g.names.lookup x=some .cell
abbrev Look(env:S9)(h:jj)(m:bV->Option bM)(x:bV)(u:bM):Prop:=
 (env.kindOf x=some .local/\m x=some u)\/((env.kindOf x=some .cell\/env.kindOf x=some .free)/\∃c,env.cells.lookup x=some c/\h.IsCell c (some u))
structure Cx.Ok(X:Cx):Prop where
 mod:Mod X.K X.mg X.base
 kind:X.env.scope.kind= .function
 glob:X.env.globals=mainGlobals
 blt:X.env.builtins=builtinsNs
 above:X.s_0.heap.objs.size<=X.env.locals
 inj:∀x y c,X.env.cells.lookup x=some c->X.env.cells.lookup y=some c->x=y
 has:∀x,(X.env.kindOf x=some .cell\/X.env.kindOf x=some .free)->∃c,X.env.cells.lookup x=some c
 cab:∀x c,X.fn x=true->X.env.cells.lookup x=some c->X.s_0.heap.objs.size<=c
 hd:X.calm=true->X.A.handled=none
 frames:X.A.frames=some X.stack
 stk:X.stack=X.outer\/(X.stack=X.env ::X.outer/\X.env.frame=some X.env.locals)
 exf:∀b∈X.ex,b≠X.env.locals/\∀x c,X.env.cells.lookup x=some c->c≠b
 bs:∀b o,X.base.get? b=some o->X.s_0.heap.get? b=some o/\X.H_0 b=none
 bsz:X.base.objs.size<=X.s_0.heap.objs.size
 YU:∀b o,X.base.get? b=some o->b∉X.ex
 Y7:∀b∈X.ex,b∉X.fs
 LN:X.s_0.heap.FunFrames X.base X.outer
 frf:∀b∈X.fs,X.H_0 b=none
structure Inv(X:Cx)(pins:List (aW×uG))(σ:List (Option V))(H:Hp)(s:b9):Prop where
 ok:X.Ok
 os:s.os=X.s_0.os
 bare:FK s.gens
 base:Un X.fs X.ex X.H_0 H X.s_0.heap s.heap
 loc:∃m,s.heap.Ns X.env.locals m/\∀(i:Nat) (x:bV) (v:V),X.N[i]? =some x->σ[i]? =some (some v)->Vis X.env.scope x->∃u,RelV v u/\Look X.env s.heap m x u
 cell:∀x c,X.env.cells.lookup x=some c->∃v,s.heap.IsCell c v
 free:H X.env.locals=none
 EN:∀x c,X.env.cells.lookup x=some c->H c=none
 pin:∀p∈X.pn++pins,s.heap.get? p.1=some p.2/\H p.1=none/\p.1≠X.env.locals/\p.1∉X.fs/\∀v,p.2.data≠ .cell v
 gV:Ew X.prog X.w H s.heap
 len:↑σ=↑X.N
section
variable{X:Cx}{pins:List (aW×uG)}{σ:List (Option V)}{H H':Hp}{s:b9}{h':jj}
def Cx.Ok.aiK(ok:X.Ok)(e:X.base.get? b=some o):b∉X.fs:=λg=>by
 have:=(ok.LN.mem g).1;rw[e] at this;cases this
def Inv.bs(I:Inv X pins σ H s):∀b o,X.base.get? b=some o->s.heap.get? b=some o/\H b=none:=λb o e=>
 (I.base.keep b o (I.ok.bs b o e).1 (I.ok.bs b o e).2 (I.ok.aiK e) (I.ok.YU b o e),I.base.free b o (I.ok.bs b o e).1 (I.ok.bs b o e).2 (I.ok.YU b o e))
def Inv.bk(I:Inv X pins σ H s):∀b o,X.base.get? b=some o->s.heap.get? b=some o:=λb o e=>(I.bs b o e).1
def Inv.mod(I:Inv X pins σ H s):Mod X.K X.mg X.base:=I.ok.mod
def Inv.NX(I:Inv X pins σ H s):X.K.In s.heap:=I.ok.mod.kin.keeps I.bk
def Inv.lt(I:Inv X pins σ H s):X.env.locals < s.heap.objs.size:=let(_,g,_):=I.loc;g.lt
def Inv.sz(I:Inv X pins σ H s):X.s_0.heap.objs.size<=s.heap.objs.size:=cJ I.ok.above (iI I.lt)
def Inv.aiT(I:Inv X pins σ H s)(h:s.heap.objs.size<=a):a∉X.fs:=λg=>by
 let(_,o,j,_):=I.ok.LN.mem g;show absurd (bF (cn j) (cJ I.sz h)) (jH _)
def Inv.cne(I:Inv X pins σ H s):∀x c,X.env.cells.lookup x=some c->c≠X.env.locals:=λx c e z=>by
 let(v,o,B,hd):=I.cell x c e;let(m,(o',es,ep,g,j,_),_):=I.loc;rw[z,g] at B;cases B;rw[j] at hd;cases hd
def Inv.LN(I:Inv X pins σ H s):s.heap.FunFrames X.base X.outer:=by
 have all:∀(l:List S9),(∀b∈Yd l,b∈X.fs)->X.s_0.heap.FunFrames X.base l->s.heap.FunFrames X.base l:=by
  intro l
  induction l with
  |nil=>intro _ _;trivial
  |cons env r J=>
   intro D M;let(N,(L,o,g,O,Q,hd),U):=M;have j:L∈X.fs:=D L (by unfold Yd;rw[xS,g];show bg);let(Y,e):=I.base.slot L o Q (I.ok.frf L j) j λz=>I.ok.Y7 L z j;show(N,(L,_,g,O,e,hd),J (λb B=>D b (by unfold Yd;rw[xS,g];show aZ _ B)) U)
 show all X.outer (λ_ B=>B) I.ok.LN
def Inv.stack(I:Inv X pins σ H s):s.heap.FunFrames X.base X.stack:=by
 rcases I.ok.stk with e|⟨e,g⟩
 ·rw[e];show I.LN
 ·rw[e];let(m,j,_):=I.loc;show .cons (by rw[I.ok.kind];decide) g j ?_ I.LN;show Heap.get?_none_of_le (cJ I.ok.bsz I.ok.above)
def Inv.US(I:Inv X pins σ H s):∀b∈Yd X.stack,b∈X.env.locals ::X.fs:=λb g=>by
 rcases I.ok.stk with e|⟨e,j⟩
 ·rw[e] at g;show aZ _ g
 ·rw[e] at g;unfold Yd at g;rw[xS,j] at g;show g
def Inv.U_(I:Inv X pins σ H s):∀b∈Yd X.stack,H b=none:=λb g=>by
 rcases bo.mp (I.US b g) with e|g
 ·rw[e];show I.free
 ·let(_,o,j,_):=I.ok.LN.mem g;show I.base.free b o j (I.ok.frf b g) λz=>I.ok.Y7 b z g
def Inv.step{ch:List aW}(I:Inv X pins σ H s)
  (g:∀b∈ch,(b∈X.ex\/X.s_0.heap.objs.size<=b)/\b≠X.env.locals/\(∀x c,X.env.cells.lookup x=some c->c≠b)/\∀p∈X.pn++pins,p.1≠b)
  (keep:∀b o,b≠X.env.locals->b∉X.fs->b∉ch->s.heap.get? b=some o->H b=none->h'.get? b=some o)
  (slot:∀b o,b≠X.env.locals->b∈X.fs->b∉ch->s.heap.get? b=some o->H b=none->∃Q,h'.get? b=some {o with slots:=Q})(free:∀b o,b∉ch->s.heap.get? b=some o->H b=none->H' b=none)
  (there:∀b o,b∉ch->s.heap.get? b=some o->∃o',h'.get? b=some o')
  (tups:∀b xs,H b=some (.tup xs)->H' b=some (.tup xs))(frzs:∀b o u,H b=some (.QC o u)->H' b=some (.QC o u))(tbls:∀b ps,H b=some (.tbl ps)->∃more,H' b=some (.tbl (ps++more)))
  (ns:∀m,s.heap.Ns X.env.locals m->h'.Ns X.env.locals m)(gV:Ew X.prog X.w H' h')(hg:FK g'):
  Inv X pins σ H' {s with heap:=h',gens:=g',drawn:=d',toks:=t'}:=by
 have N:∀b o,X.s_0.heap.get? b=some o->b≠X.env.locals:=λb o e=>fu (bF (cn e) I.ok.above)
 have B:∀b o,X.s_0.heap.get? b=some o->b∉X.ex->b∉ch:=λb o e hx J=>by
  rcases(g b J).1 with z|z
  ·show hx z
  ·show absurd (bF (cn e) z) (jH _)
 have cellK:∀x c,X.env.cells.lookup x=some c->∀v,s.heap.IsCell c v->h'.IsCell c v:=λx c e v (o,M,hd)=>by
  have j:c∉ch:=λz=>(g c z).2.2.1 x c e rfl
  by_cases Y:c∈X.fs
  ·let(Q,q):=slot c o (I.cne x c e) Y j M (I.EN x c e);show(_,q,hd)
  ·show(o,keep c o (I.cne x c e) Y j M (I.EN x c e),hd)
 show(I.ok,I.os,hg,(λb o e n J hx=>?_,λb o e n J hx=>?_,λb o e n hx=>?_,λb o e hx=>?_,λb xs e=>tups b xs (I.base.tups b xs e),λb o xs e=>frzs b o xs (I.base.frzs b o xs e),λb ps e=>?_),?_,λx c e=>?_,?_,λx c e=>?_,λp Z=>?_,gV,I.len)
 ·show keep b o (N b o e) J (B b o e hx) (I.base.keep b o e n J hx) (I.base.free b o e n hx)
 ·let(Q,D):=I.base.slot b o e n J hx;let(U,O):=slot b _ (N b o e) J (B b o e hx) D (I.base.free b o e n hx);show(U,O)
 ·let(o',D):=I.base.there b o e hx;show free b o' (B b o e hx) D (I.base.free b o e n hx)
 ·let(o',D):=I.base.there b o e hx;show there b o' (B b o e hx) D
 ·let(m1,D):=I.base.tbls b ps e;let(m2,O):=tbls b _ D;show(m1++m2,by rw[O,Array.append_assoc])
 ·let(m,hn,hl):=I.loc;show(m,ns m hn,λi x v D O e3=>?_);let(u,r,l):=hl i x v D O e3;show(u,r,?_);rcases l with l|⟨k,c,e,z⟩
  ·show .inl l
  ·show .inr (k,c,e,cellK x c e _ z)
 ·let(v,z):=I.cell x c e;show(v,cellK x c e v z)
 ·let(m,(o,_,_,M,_),_):=I.loc;show free _ o (λz=>(g _ z).2.1 rfl) M I.free
 ·let(v,o,M,hd):=I.cell x c e;show free c o (λz=>(g c z).2.2.1 x c e rfl) M (I.EN x c e)
 ·let(e,n,ne,nf,d):=I.pin p Z;have j:p.1∉ch:=λz=>(g p.1 z).2.2.2 p Z rfl;show(keep p.1 p.2 ne nf j e n,free p.1 p.2 j e n,ne,nf,d)
def Inv.un(I:Inv X pins σ H s)(u:Un X.fs [] H H' s.heap h')(gV:Ew X.prog X.w H' h'):Inv X pins σ H' {s with heap:=h',toks:=t'}:=by
 let(m,(o,es,ep,J,r),_):=id I.loc;let(Q,M):=u.any J I.free ⋯
 show I.step (g':=s.gens) (d':=s.drawn) (ch:=[]) (λ_ z=>nomatch z) (λb o _ j _ e n=>u.keep b o e n j ⋯) (λb o _ j _ e n=>u.slot b o e n j ⋯) (λb o _ e n=>u.free b o e n ⋯) (λb o _ e=>u.there b o e ⋯) u.tups u.frzs u.tbls (λU N=>by
  let(o',B,D,g,O):=N;rw[J] at g;cases g;show(_,B,D,M,O)) gV I.bare
def Inv.call(I:Inv X pins σ H s)(u:Un (Yd X.stack) ch H H' s.heap h')(gV:Ew X.prog X.w H' h')(O:FK g')
  (j:∀b∈ch,(b∈X.ex\/X.s_0.heap.objs.size<=b)/\b≠X.env.locals/\(∀x c,X.env.cells.lookup x=some c->c≠b)/\∀p∈X.pn++pins,p.1≠b):
  Inv X pins σ H' {s with heap:=h',gens:=g',drawn:=d',toks:=t'}:=by
 let(m,(o,es,ep,N,r),_):=id I.loc;let(Z,D):=u.any N I.free λz=>(j _ z).2.1 rfl
 show I.step (ch:=ch) j (λb o D Q g e n=>u.keep b o e n (λz=>(bo.mp (I.US b z)).elim D Q) g) (λb o _ _ g e n=>u.any e n g) (λb o g e n=>u.free b o e n g) (λb o g e=>u.there b o e g) u.tups u.frzs u.tbls (λm' U=>by
  let(o',J,M,B,Y):=U;rw[N] at B;cases B;show(_,J,M,D,Y)) gV O
def Inv.turned(I:Inv X pins σ H s)(k:∀b o,b≠it->s.heap.get? b=some o->h'.get? b=some o)(D:H it=none)(B:it≠X.env.locals)
  (h1:it∈X.ex\/X.s_0.heap.objs.size<=it)(h2:∀x c,X.env.cells.lookup x=some c->c≠it)(J:∀p∈X.pn++pins,p.1≠it):Inv X pins σ H {s with heap:=h',toks:=t'}:=by
 have j:∀b u,H b=some u->b≠it:=λb u e z=>by rw[z,D] at e;cases e
 show I.step (g':=s.gens) (d':=s.drawn) (ch:=[it]) (λb M=>?_) (λb o _ _ g e _=>k b o (λz=>g (by simp[z])) e) (λb o _ _ g e _=>(o.slots,k b o (λz=>g (by simp[z])) e)) (λ_ _ _ _ n=>n)
  (λb o g e=>(o,k b o (λz=>g (by simp[z])) e)) (λ_ _ e=>e) (λ_ _ _ e=>e) (λb ps e=>(#[],by rw[e];simp)) (λm N=>?_) (λb u e=>?_) I.bare
 ·have e:b=it:=by simpa using M
  subst e;show(h1,B,h2,J)
 ·let(o,es,ep,O,r):=N;show(o,es,ep,k _ o (d5 B) O,r)
 ·show(I.gV b u e).UX (λc v g q=>k c v ?_ q) (λ_ q=>q) λ_ _ q=>q;rcases g with z|z
  ·rw[z];show j b u e
  ·show j c _ z
def Inv.tok(I:Inv X pins σ H s)(t:Nat):Inv X pins σ H {s with toks:=t}:=I.un (h':=s.heap) (t':=t) Un.refl I.gV
def Inv.kept(I:Inv X pins σ H s)(k:∀b u,s.heap.get? b=some u->h'.get? b=some u):Inv X pins σ H {s with heap:=h',toks:=t'}:=I.un (Un.kept k) (I.gV.kept k)
def Inv.laid(I:Inv X pins σ H s)(k:∀b u,s.heap.get? b=some u->h'.get? b=some u)(g:s.heap.objs.size<=a)(new:lZ X.prog X.w (upd H a o) h' a o):
 Inv X pins σ (upd H a o) {s with heap:=h',toks:=t'}:=I.un (Un.laid k g (I.gV.fresh g)) (I.gV.laid k g new)
def Inv.write(I:Inv X pins σ H s)(j:Mut (H x))(z:e=x\/H e=some (.own x))(k:∀b u,b≠e->s.heap.get? b=some u->h'.get? b=some u)(g:∃u,h'.get? e=some u)
 (new:lZ X.prog X.w (upd H x o) h' x o):Inv X pins σ (upd H x o) {s with heap:=h',toks:=t'}:=I.un (Un.write j z k g) (I.gV.write j z k g new)
def Inv.weak(I:Inv X pins σ H s)(z:↑j=↑σ)(w:∀(i:Nat) v,j[i]? =some (some v)->σ[i]? =some (some v)):Inv X pins j H s:=
 (I.ok,I.os,I.bare,I.base,let(m,B,g):=I.loc;(m,B,λi x v D J M=>g i x v D (w i v J) M),I.cell,I.free,I.EN,I.pin,I.gV,z.trans I.len)
def Inv.Vv(I:Inv X pins σ H s)(h:∀p∈g,s.heap.get? p.1=some p.2/\H p.1=none/\p.1≠X.env.locals/\p.1∉X.fs/\∀v,p.2.data≠ .cell v):Inv X g σ H s:=
 (I.ok,I.os,I.bare,I.base,I.loc,I.cell,I.free,I.EN,λp j=>(cj.mp j).elim (λz=>I.pin p (cf _ z)) (h p),I.gV,I.len)
def Mx{N:List bV}(g:N.Nodup){i j:Nat}(a:N[i]? =some x)(b:N[j]? =some x):i=j:=by
 let(h1,z):=aX.mp a;let(h2,B):=aX.mp b;show(KW g).mp (z.trans B.symm)
def Pc(I:Inv X pins σ H s)(hN:X.N.Nodup)(hi:X.N[i]? =some x)(hx:Loc X.env.scope x)(r:RelV v u)
  (h:∀s',Inv X pins (σ.set i (some v)) H s'->(∃a,yp a s.heap s'.heap/\(a=X.env.locals\/X.env.cells.lookup x=some a))->Q () s')(hf:X.fn x=true\/X.env.scope.names.lookup x=some .local:=by first|show .inl rfl|show .inr rfl|assumption):wpAny M A (storeName X.env x u) Q E s:=by
 let(m,hn,hl):=id I.loc;have ar:(X.env.scope.kind== .class || (X.env.scope.kind== .module && X.env.locals !=X.env.globals))=false:=by rw[I.ok.kind];rfl
 have av:i < ↑σ:=by rw[I.len];show(aX.mp hi).1
 have cne:=I.cne
 have tracked:∀{a:aW} {h':jj},(∃o,s.heap.get? a=some o/\H a=none)->yp a s.heap h'->Ew X.prog X.w H h':=λ{a h'} ha g b ob e=>by
  let(_,_,J):=ha;show(I.gV b ob e).UX (λc w' D q=>(g.2 c ?_).trans q) (λ_ q=>q) λ_ _ q=>q;rintro rfl;rcases D with rfl|D
  ·rw[J] at e;cases e
  ·rw[J] at D;cases D
 rcases hx with U|U
 ·show wpAny_storeName_local U hn (λh' bt g=>?_) ar;let(oL,_,_,bx,_):=id hn;show h _ (I.ok,I.os,I.bare,(λb o e n Y hx=>?_,λb o e n Y hx=>?_,I.base.free,λb o e hx=>?_,I.base.tups,I.base.frzs,I.base.tbls),(_,bt,λj y v' B O e3=>?_),λy c e=>?_,I.free,I.EN,λp hp=>?_,tracked (oL,bx,I.free) g,by simpa using I.len) (_,g,.inl rfl)
  ·show(g.2 b (fu (bF (cn e) I.ok.above))).trans (I.base.keep b o e n Y hx)
  ·let(sl,B):=I.base.slot b o e n Y hx;show(sl,(g.2 b (fu (bF (cn e) I.ok.above))).trans B)
  ·let(o',B):=I.base.there b o e hx;show(o',(g.2 b (fu (bF (cn e) I.ok.above))).trans B)
  ·by_cases Z:j=i
   ·subst Z;rw[hi] at B;cases B;rw[kL av] at O
    cases O
    show(u,r,.inl (U,⋯))
   ·rw[mn (d5 Z)] at O;let(u',r',q):=hl j y v' B O e3;show(u',r',?_);rcases q with⟨k,e⟩|⟨k,c,e,z⟩
    ·show .inl (k,?_);have:y≠x:=λe=>Z (Mx hN B (e ▸ hi));simp[this,e]
    ·show .inr (k,c,e,z.sameBut g (cne y c e))
  ·let(w',z):=I.cell y c e;show(w',z.sameBut g (cne y c e))
  ·let(e,n,ne,nf,d):=I.pin p hp;show((g.2 p.1 ne).trans e,n,ne,nf,d)
 ·have ah:X.fn x=true:=by
    rcases hf with z|z
    ·show z
    ·rw[z] at U;cases U
  let(c,D):=I.ok.has x (.inl U);let(w',z):=I.cell x c D;show wpAny_storeName_cell I.ok.kind U D z (λh' aA g=>?_);let(oc,aE,bk):=id z;show h {s with heap:=h'} (I.ok,I.os,I.bare,(λb o e n Y hx=>?_,λb o e n Y hx=>?_,I.base.free,λb o e hx=>?_,I.base.tups,I.base.frzs,I.base.tbls),(m,hn.sameBut g (d5 (cne x c D)),λj y v' B O e3=>?_),λy c' e=>?_,I.free,I.EN,λp hp=>?_,tracked (oc,aE,I.EN x c D) g,by simpa using I.len) (c,g,.inr D)
  ·show(g.2 b (fu (bF (cn e) (I.ok.cab x c ah D)))).trans (I.base.keep b o e n Y hx)
  ·let(sl,B):=I.base.slot b o e n Y hx;show(sl,(g.2 b (fu (bF (cn e) (I.ok.cab x c ah D)))).trans B)
  ·let(o',B):=I.base.there b o e hx;show(o',(g.2 b (fu (bF (cn e) (I.ok.cab x c ah D)))).trans B)
  ·by_cases Z:j=i
   ·subst Z;rw[hi] at B;cases B;rw[kL av] at O
    cases O
    show(u,r,.inr (.inl U,c,D,aA))
   ·rw[mn (d5 Z)] at O;let(u',r',q):=hl j y v' B O e3;show(u',r',?_);rcases q with q|⟨k,c',e,z'⟩
    ·show .inl q
    ·show .inr (k,c',e,z'.sameBut g ?_);rintro rfl;show Z (Mx hN B (I.ok.inj _ _ _ e D ▸ hi))
  ·by_cases bl:c'=c
   ·subst bl;show(_,aA)
   ·let(w2,z2):=I.cell y c' e;show(w2,z2.sameBut g bl)
  ·let(e,n,ne,nf,d):=I.pin p hp;show((g.2 p.1 ?_).trans e,n,ne,nf,d);intro q;rw[q,aE] at e;have q':oc=p.2:=bQ e;show d w' (by rw[←q'];show bk)
def Nk(I:Inv X pins σ H s)(g:X.N.Nodup)(hi:X.N[i]? =some x)(hx:Loc X.env.scope x)(r:RelV v u)
  (h:∀s',Inv X pins (σ.set i (some v)) H s'->Q () s')(j:X.fn x=true\/X.env.scope.names.lookup x=some .local:=by first|show .inl rfl|show .inr rfl|assumption):wpAny M A (storeName X.env x u) Q E s:=
 Pc I g hi hx r (λs' z _=>h s' z) j
def Inv.af5(I:Inv X pins σ H s)(j:s'.os=s.os)(u:Un (Yd X.stack) ch H H' s.heap s'.heap)(gV:Ew X.prog X.w H' s'.heap)(z:FK s'.gens)
  (g:∀b∈ch,(b∈X.ex\/X.s_0.heap.objs.size<=b)/\b≠X.env.locals/\(∀x c,X.env.cells.lookup x=some c->c≠b)/\∀p∈X.pn++pins,p.1≠b):Inv X pins σ H' s':=by
 let(h',g',d',t',o'):=s';have e:o'=s.os:=j;subst e;show I.call (g':=g') (t':=t') (d':=d') u gV z g
end
meta abbrev XK:=bM->Option aW->Hp->Prop
meta abbrev St:=List (Option V)
meta abbrev VK:=V->Hp->Prop
meta abbrev TE:=St->Hp->VK->Prop
meta abbrev TT:=St->Hp->(Bool->Hp->Prop)->Prop
meta abbrev TA:=St->Hp->(List V->Hp->Prop)->Prop
structure Ends where
 nx:St->Hp->Prop
 rt:VK
 bk:St->Hp->Prop:=λ_ _=>False
 ct:St->Hp->Prop:=λ_ _=>False
meta abbrev TS:=Ends->St->Hp->Prop
inductive EP(X:Cx)(pins:List (aW×uG))(σ:St)(Q:VK)(u:bM)(s':b9):Prop
 |mk (v:V) (H':Hp) (I:Inv X pins σ H' s') (r:RelV v u) (q:Q v H'):EP X pins σ Q u s'
inductive TP(X:Cx)(pins:List (aW×uG))(σ:St)(Q:Bool->Hp->Prop)(b:Bool)(s':b9):Prop
 |mk (H':Hp) (I:Inv X pins σ H' s') (q:Q b H'):TP X pins σ Q b s'
inductive AP(X:Cx)(pins:List (aW×uG))(σ:St)(Q:List V->Hp->Prop)(us:List bM)(s':b9):Prop
 |mk (vs:List V) (H':Hp) (I:Inv X pins σ H' s') (r:Vals vs us) (q:Q vs H'):AP X pins σ Q us s'
abbrev SP(X:Cx)(pins:List (aW×uG))(D:Ends)(f:Flow)(s':b9):Prop:=
 match f with
 | .next=>∃g H',Inv X pins g H' s'/\D.nx g H'
 | .brk=>∃g H',Inv X pins g H' s'/\D.bk g H'
 | .cont=>∃g H',Inv X pins g H' s'/\D.ct g H'
 | .ret u=>∃v g H',Inv X pins g H' s'/\RelV v u/\D.rt v H'
abbrev PE(X:Cx)(e:jS)(t:TE):Prop:=
 ∀(pins:List (aW×uG)) (s:b9) (σ:St) (H:Hp) (Q:VK),Inv X pins σ H s->t σ H Q->wpAny (model X.prog X.w) X.A (eval e X.env) (EP X pins σ Q) X.xe s
abbrev PT(X:Cx)(e:jS)(t:TT):Prop:=
 ∀(pins:List (aW×uG)) (s:b9) (σ:St) (H:Hp) (Q:Bool->Hp->Prop),Inv X pins σ H s->t σ H Q->wpAny (model X.prog X.w) X.A (isTrue e X.env (eval e X.env)) (TP X pins σ Q) X.xe s
abbrev PW(X:Cx)(e:jS)(t:TT):Prop:=
 ∀(whole:Sem bM) (pins:List (aW×uG)) (s:b9) (σ:St) (H:Hp) (Q:Bool->Hp->Prop),Inv X pins σ H s->t σ H Q->wpAny (model X.prog X.w) X.A (isTrue e X.env whole) (TP X pins σ Q) X.xe s
def PW.pt(h:PW X e t):PT X e t:=h _
abbrev PA(X:Cx)(es:List jS)(t:TA):Prop:=
 ∀(pos:Ie) (pins:List (aW×uG)) (s:b9) (σ:St) (H:Hp) (Q:List V->Hp->Prop),Inv X pins σ H s->t σ H Q->wpAny (model X.prog X.w) X.A (spliced (backTo pos (starEach es X.env))) (AP X pins σ Q) X.xe s
abbrev PS(X:Cx)(st:fG)(t:TS):Prop:=
 ∀(pins:List (aW×uG)) (s:b9) (σ:St) (H:Hp) (D:Ends),Inv X pins σ H s->t D σ H->wpAny (model X.prog X.w) X.A (exec st X.env) (SP X pins D) X.xe s
abbrev Xh(X:Cx)(st:List fG)(t:TS):Prop:=
 ∀(pins:List (aW×uG)) (s:b9) (σ:St) (H:Hp) (D:Ends),Inv X pins σ H s->t D σ H->wpAny (model X.prog X.w) X.A (execs st X.env) (SP X pins D) X.xe s
def jI(h:wpAny M A t Q E s)(g:∀a s,Q a s->j a s):wpAny M A t j E s:=ja h g λ_ _ x=>x
section
variable{X:Cx}
abbrev kAt(i:Nat):St->Option V:=Wc (λσ=>List.rec none (λx _ _=>x) σ) (λ_ f σ=>List.rec none (λ_ r _=>f r) σ) i
abbrev kA(σ:St)(i:Nat)(k:V->Prop):Prop:=Option.rec False k (kAt i σ)
abbrev kB(x:V)(k:Bool->Prop):Prop:=V.rec (motive:=λ_=>Prop) False k (λ_=>False) (λ_=>False) (λ_=>False) (λ_=>False) (λ_=>False) (λ_=>False) x
abbrev kI(x:V)(k:Int->Prop):Prop:=V.rec (motive:=λ_=>Prop) False (λ_=>False) k (λ_=>False) (λ_=>False) (λ_=>False) (λ_=>False) (λ_=>False) x
abbrev kR(x:V)(k:aW->Prop):Prop:=V.rec (motive:=λ_=>Prop) False (λ_=>False) (λ_=>False) (λ_=>False) (λ_=>False) (λ_=>False) k (λ_=>False) x
abbrev k1(vs:List V)(k:V->Prop):Prop:=match vs with|[x]=>k x|_=>False
abbrev kF(o:Option HO)(k:aW->aW->List (bV×V)->Prop):Prop:=match o with|some (.ins C dx fs)=>k C dx fs|_=>False
abbrev kO(o:Option V)(k:V->Prop):Prop:=match o with|some v=>k v|none=>False
def agd:kF (some (.ins C dx fs)) k=k C dx fs:=rfl
def afL:kO (some v) k=k v:=rfl
def kQ{H:Hp}(h:H a=some (.ins C dx fs)):kF (H a) k=k C dx fs:=by rw[h];rfl
def agD(h:b≠a):kF (upd H a o b) k=kF (H b) k:=by rw[bc h]
def afN:kF (upd H a (.ins C dx fs) a) k=k C dx fs:=by rw[aV];rfl
def zV(h:o=some (.ins C dx fs))(q:k C dx fs):kF o k:=by rw[h];show q
def aco(h:kF o k):∃C dx fs,o=some (.ins C dx fs)/\k C dx fs:=by
 unfold kF at h
 split at h
 ·show(_,_,_,rfl,h)
 ·show h.elim
def ahx(h:kO o k):∃v,o=some v/\k v:=
 match o,h with
 |some _,h=>(_,rfl,h)
def KG:kA (some v ::σ) 0 k=k v:=rfl
def ah7:kA (x ::σ) (i+1) k=kA σ i k:=rfl
def LL:kB (.bl b) k=k b:=rfl
def NB:kI (.int i) k=k i:=rfl
def Us:kR (.ref a) k=k a:=rfl
def ag1:k1 [x] k=k x:=rfl
def YD:∀{i:Nat} {σ:St},kAt i σ=some v->σ[i]? =some (some v)
 |0,[],h=>nomatch (show(none:Option V)=some v from h)
 |0,x ::σ,h=>congrArg some (show x=some v from h)
 |i+1,[],h=>nomatch (show(none:Option V)=some v from h)
 |i+1,x ::σ,h=>YD (i:=i) (σ:=σ) h
def acU(h:kA σ i k):∃v,σ[i]? =some (some v)/\k v:=by
 unfold kA at h
 cases e:kAt i σ with
 |none=>rw[e] at h;show h.elim
 |some v=>rw[e] at h;show(v,YD e,h)
def Dc(h:kB x k):∃b,x= .bl b/\k b:=by
 cases x <;> first|show(_,rfl,h)|show h.elim
def pY(h:kI x k):∃b,x= .int b/\k b:=by
 cases x <;> first|show(_,rfl,h)|show h.elim
def qF(h:kR x k):∃b,x= .ref b/\k b:=by
 cases x <;> first|show(_,rfl,h)|show h.elim
def Pb(h:k1 x k):∃b,x=[b]/\k b:=
 match x,h with
 |[_],h=>(_,rfl,h)
abbrev aeH(i:Nat):TE:=λσ H Q=>kA σ i λv=>Q v H
abbrev tC(v:V):TE:=λ_ H Q=>Q v H
def adU(D:X.N[i]? =some x)(J:Vis X.env.scope x)(hd:(x==("__debug__" :bV))=false:=by decide)(z:(x==("__classdict__" :bV))=false:=by decide):PE X (.Name x pos) (aeH i):=by
 intro pins s σ H Q I h;let(v,e,h):=acU h;let(m,M,O):=I.loc;let(u,r,l):=O i x v D e J;have fin:EP X pins σ Q u s:=(v,H,I,r,h);rcases l with⟨j,U⟩|⟨j,c,B,g⟩
 ·show NQ (Ff I.ok.kind j M U fin) hd
 ·rcases j with j|j
  ·show NQ (Gp I.ok.kind j B g fin) hd
  ·show NQ (wpAny_loadName_free I.ok.kind j B g fin z) hd
def bU{i j pos}:PE X (.Constant (.int i) j pos) (tC (.int i)):=λ_ _ _ H _ I h=>wpAny_Constant_int (.int i,H,I.tok _,(_,rfl),h)
def ur{b j pos}:PE X (.Constant (.bool b) j pos) (tC (.bl b)):=λ_ _ _ H _ I h=>Constant_bool (.bl b,H,I,rfl,h)
def UG{j pos}:PE X (.Constant .none j pos) (tC .vI):=λ_ _ _ H _ I h=>Constant_none (.vI,H,I,rfl,h)
def tu{x j pos}:PE X (.Constant (.str x) j pos) (tC (.str x)):=λ_ _ _ H _ I h=>Calls.Constant_str (.str x,H,I.tok _,(_,rfl),h)
abbrev Gl(X:Cx)(x:bV):Prop:=X.env.kindOf x=some .globalImplicit
def Mm(I:Inv X pins σ H s)(g:Gl X x)(j:X.mg x=some u)(h:Q u s)
  (hd:(x==("__debug__" :bV))=false:=by decide):wpAny (model X.prog X.w) X.A (eval (.Name x pos) X.env) Q E s:=
 zw I.ok.kind g (Calls.loadGlobal_global (by rw[I.ok.glob];show I.mod.glob.keeps I.bk) j h) hd
def HG(I:Inv X pins σ H s)(g:Gl X x)(j:X.mg x=none)(z:bootBuiltins x=some u)(h:Q u s)
  (B:x≠"__name__" :=by decide)(hd:(x==("__debug__" :bV))=false:=by decide):wpAny (model X.prog X.w) X.A (eval (.Name x pos) X.env) Q E s:=by
 let(D,h1,h2):=I.mod.blt;show zw I.ok.kind g (Calls.loadGlobal_builtin (by rw[I.ok.glob];show I.mod.glob.keeps I.bk) j (by rw[I.ok.blt];show h1.keeps I.bk) ((h2 x B).trans z) h) hd
def iZ(g:Gl X x)(j:X.mg x=some u)(r:RelV v u)(hd:(x==("__debug__" :bV))=false:=by decide):PE X (.Name x pos) (tC v):=
 λ_ _ _ H _ I h=>Mm I g j (v,H,I,r,h) hd
variable{a b:jS}{ta tb:TE}{pos:Ie}
abbrev PC(X:Cx)(g:CmpOp)(a b:jS)(t:TE):Prop:=
 ∀(pins:List (aW×uG)) (s:b9) (σ:St) (H:Hp) (Q:VK),Inv X pins σ H s->t σ H Q->
  wpAny (model X.prog X.w) X.A (eval a X.env) (λv j=>wpAny (model X.prog X.w) X.A (eval b X.env) (λu z=>wpAny (model X.prog X.w) X.A (compareOp g v u) (EP X pins σ Q) X.xe z) X.xe j) X.xe s
def ZV(b:jS)(h:g≠ .In)(h2:g≠ .NotIn):behindInMarks g b=false:=by
 have j:(g==Z5)=false:=by cases g <;> first|rfl|show absurd rfl h
 have z:(g==Tj)=false:=by cases g <;> first|rfl|show absurd rfl h2
 cases b <;> simp[behindInMarks,j,z]
abbrev tB(t:TE):TT:=λσ H Q=>t σ H λx H1=>kB x λc=>Q c H1
def UP(h:PC X op a b t)(h1:behindInMarks op b=false:=by first|show ZV _ (by decide) (by decide)|rfl):PT X (.Compare a [op] [b] pos) (tB t):=by
 intro pins s σ H Q I hw;show DZ (jI (h pins s σ H _ I hw) λv B h1=>jI h1 λu D h2=>jI h2 λc J (x,H1,g,j,z)=>?_) h1;let(d,rfl,q):=Dc z
 cases j
 show gd (H1,g,q)
def qa(h:PE X e t)(g:∀whole,isTrue e X.env whole=(do let v ←whole;standAt e.pos;holding [v] (truthy v)):=by intro _;rfl):PT X e (tB t):=by
 intro pins s σ H Q I hw;show isTrue_plain (jI (h pins s σ H _ I hw) λv D (x,H1,j,z,B)=>?_) (g _);let(d,rfl,q):=Dc B
 cases z
 show gd (H1,j,q)
variable{tA aN:TT}{rest:List jS}
abbrev afj(t u:TT):TT:=λσ H Q=>t σ H λc H1=>if c=true then u σ H1 Q else Q false H1
abbrev tOr(t u:TT):TT:=λσ H Q=>t σ H λc H1=>if c=true then Q true H1 else u σ H1 Q
abbrev aho(t:TT):TT:=λσ H Q=>t σ H λc H1=>Q (!c) H1
def IT(g:PT X a tA):PW X (.BoolOp .And [a] pos) tA:=by
 intro j pins s σ H Q I h;show isTrue_and (jI (g pins s σ H Q I h) λc z e=>?_)
 cases c with
 |true=>show isTrue_and_nil e
 |false=>show e
def QA(g:PT X a tA):PW X (.BoolOp .Or [a] pos) tA:=by
 intro j pins s σ H Q I h;show isTrue_or (jI (g pins s σ H Q I h) λc z e=>?_)
 cases c with
 |false=>show isTrue_or_nil e
 |true=>show e
def MW(z:PT X a tA)(B:PW X (.BoolOp .And (b ::rest) pos) aN):PW X (.BoolOp .And (a ::b ::rest) pos) (afj tA aN):=by
 intro D pins s σ H Q I h;show isTrue_and (jI (z pins s σ H _ I h) λc J (H1,g,j)=>?_)
 cases c with
 |true=>show B D pins J σ H1 Q g j
 |false=>show(H1,g,j)
def VO(z:PT X a tA)(B:PW X (.BoolOp .Or (b ::rest) pos) aN):PW X (.BoolOp .Or (a ::b ::rest) pos) (tOr tA aN):=by
 intro D pins s σ H Q I h;show isTrue_or (jI (z pins s σ H _ I h) λc J (H1,g,j)=>?_)
 cases c with
 |true=>show(H1,g,j)
 |false=>show B D pins J σ H1 Q g j
def xi(g:PT X a tA):PT X (.UnaryOp .Not a pos) (aho tA):=by
 intro pins s σ H Q I h;show isTrue_not (jI (g pins s σ H (λc H1=>Q (!c) H1) I h) λc B (H1,j,z)=>(H1,j,z))
abbrev acm(ta tb:TE):TE:=λσ H Q=>ta σ H λx H1=>kB x λc=>if c=true then tb σ H1 Q else Q (.bl false) H1
abbrev agT(ta tb:TE):TE:=λσ H Q=>ta σ H λx H1=>kB x λc=>if c=true then Q (.bl true) H1 else tb σ H1 Q
abbrev acD(ta:TE):TE:=λσ H Q=>ta σ H λx H1=>kB x λc=>Q (.bl (!c)) H1
def Yv{g}(h:PE X a t):PE X (.BoolOp g [a] pos) t:=λpins s σ H Q I hw=>BoolOp_one (h pins s σ H Q I hw)
def XB(z:PE X a ta)(B:PE X (.BoolOp .And (b ::rest) pos) tb):PE X (.BoolOp .And (a ::b ::rest) pos) (acm ta tb):=by
 intro pins s σ H Q I h;show BoolOp_and (jI (z pins s σ H _ I h) λv D (x,H1,j,J,g)=>?_);let(c,rfl,g):=Dc g
 cases J
 show gd ?_
 cases c with
 |true=>show B pins D σ H1 Q j g
 |false=>show(.bl false,H1,j,rfl,g)
def acK(z:PE X a ta)(B:PE X (.BoolOp .Or (b ::rest) pos) tb):PE X (.BoolOp .Or (a ::b ::rest) pos) (agT ta tb):=by
 intro pins s σ H Q I h;show BoolOp_or (jI (z pins s σ H _ I h) λv D (x,H1,j,J,g)=>?_);let(c,rfl,g):=Dc g
 cases J
 show gd ?_
 cases c with
 |false=>show B pins D σ H1 Q j g
 |true=>show(.bl true,H1,j,rfl,g)
def aeE(j:PE X a ta):PE X (.UnaryOp .Not a pos) (acD ta):=by
 intro pins s σ H Q I h;show UnaryOp_ (jI (j pins s σ H _ I h) λv D (x,H1,z,B,g)=>?_);let(c,rfl,g):=Dc g
 cases B
 show not_of (gd (.bl (!c),H1,z,rfl,g))
abbrev tIf(t:TT)(ta tb:TE):TE:=λσ H Q=>t σ H λc H1=>if c=true then ta σ H1 Q else tb σ H1 Q
def IF(B:PT X c tA)(D:PE X a ta)(J:PE X b tb):PE X (.IfExp c a b pos) (tIf tA ta tb):=by
 intro pins s σ H Q I h;show wpAny_IfExp (jI (B pins s σ H _ I h) λd g (H1,j,z)=>?_)
 cases d with
 |true=>show D pins g σ H1 Q j z
 |false=>show J pins g σ H1 Q j z
end
abbrev dg(K:bj)(H:Hp)(a:aW)(xs:List V):Prop:=
 Rd H a (.lst xs)\/
  ∃(o:uG) (g:Array bM) (n:Nat),K.lookup a=some o/\o.cls= .type "list"/\o.dict=none/\o.data= .seq g n/\g.size<=sizeLine/\Vals xs g.toList
abbrev qH(K:bj)(H:Hp)(a:aW)(xs:List V):Prop:=
 Rd H a (.tup xs)\/
  ∃(o:uG) (g:Array bM) (n:Nat),K.lookup a=some o/\o.cls= .type "tuple"/\o.data= .seq g n/\g.size<=sizeLine/\Vals xs g.toList
abbrev aiX:bM->Option V
 | .none=>some .vI
 | .bool b=>some (.bl b)
 | .int i _=>some (.int i)
 | .str x _=>some (.str x)
 | .bytes b _=>some (.uo b)
 | .float b _=>some (.flt b)
 | .ref a=>some (.ref a)
 | .type n=>some (.ty n)
 |_=>none
def RelV.abs(r:RelV x u):aiX u=some x:=by
 cases x with
 |vI=>cases r;rfl
 |bl _=>cases r;rfl
 |int _=>let(t,rfl):=r;rfl
 |str _=>let(t,rfl):=r;rfl
 |uo _=>let(t,rfl):=r;rfl
 |flt _=>let(t,rfl):=r;rfl
 |ref _=>cases r;rfl
 |ty _=>cases r;rfl
def RelV.inj(r:RelV x u)(q:RelV y u):x=y:=bQ (r.abs.symm.trans q.abs)
def Vals.inj:∀{xs ys:List V} {us:List bM},Vals xs us->Vals ys us->xs=ys
 |_,_,_,.nil,.nil=>rfl
 |_,_,_,.cons r t,.cons g t'=>by rw[r.inj g,Vals.inj t t']
section
variable{X:Cx}{pins:List (aW×uG)}{σ:St}{H:Hp}{s:b9}{a:aW}{xs ys:List V}
def dg.of{K:bj}(h:H a=some (.lst xs)):dg K H a xs:= .inl (.inl h)
def qH.of{K:bj}(h:H a=some (.tup xs)):qH K H a xs:= .inl (.inl h)
def Inv.list(I:Inv X pins σ H s)(h:dg X.K H a xs):∃g:List bM,Vals xs g/\PlainL s.heap a g.toArray/\↑xs<=sizeLine:=by
 rcases h with h|⟨o,g,n,j,B,hd,D,J,r⟩
 ·let(z,g,n,r,e):=h.ok I.gV;show(g,r,(_,n,e,rfl,rfl,rfl),z)
 ·show(g.toList,r,(o,n,I.NX a o j,B,hd,by simpa using D),?_);have e:=↑r;simp only[xP] at e;lia
def Inv.tuple(I:Inv X pins σ H s)(h:qH X.K H a xs):∃g:List bM,Vals xs g/\IsTup s.heap a g.toArray/\↑xs<=sizeLine:=by
 rcases h with h|⟨o,g,n,j,B,D,J,r⟩
 ·let(z,g,r,p):=h.ok I.gV;show(g,r,p,z)
 ·show(g.toList,r,(o,I.NX a o j,B,n,by simpa using D),?_);have e:=↑r;simp only[xP] at e;lia
def Inv.E6(I:Inv X pins σ H s)(h:dg X.K H a xs)(h':dg X.K H a ys):xs=ys:=by
 let(g,r,(o,n,e,_,_,d),_):=I.list h;let(its',z,(o',n',j,_,_,d'),_):=I.list h';rw[e] at j;cases j;rw[d] at d';injection d' with B _;have:g=its':=by simpa using congrArg JA B
 subst this;show r.inj z
def Inv.Wr(I:Inv X pins σ H s)(h:qH X.K H a xs)(h':qH X.K H a ys):xs=ys:=by
 let(g,r,(o,e,_,n,d),_):=I.tuple h;let(its',z,(o',j,_,n',d'),_):=I.tuple h';rw[e] at j;cases j;rw[d] at d';injection d' with B _;have:g=its':=by simpa using congrArg JA B
 subst this;show r.inj z
end
meta abbrev Cx.LK(X:Cx)(E:bM->b9->Prop):Cx:={X with xe:=E}
meta abbrev Cx.nox(X:Cx):Cx:=X.LK λ_ _=>False
def Cx.Ok.LK{X:Cx}(ok:X.Ok)(E:bM->b9->Prop):(X.LK E).Ok:=
 (ok.mod,ok.kind,ok.glob,ok.blt,ok.above,ok.inj,ok.has,ok.cab,ok.hd,ok.frames,ok.stk,ok.exf,ok.bs,ok.bsz,ok.YU,ok.Y7,ok.LN,ok.frf)
def Cx.Ok.Aq{X:Cx}(ok:(X.LK E).Ok):X.Ok:=
 (ok.mod,ok.kind,ok.glob,ok.blt,ok.above,ok.inj,ok.has,ok.cab,ok.hd,ok.frames,ok.stk,ok.exf,ok.bs,ok.bsz,ok.YU,ok.Y7,ok.LN,ok.frf)
section
variable{X:Cx}{pins:List (aW×uG)}{σ:St}{H:Hp}{s:b9}{E:bM->b9->Prop}
def Inv.LK(I:Inv X pins σ H s)(E:bM->b9->Prop):Inv (X.LK E) pins σ H s:=(I.ok.LK E,I.os,I.bare,I.base,I.loc,I.cell,I.free,I.EN,I.pin,I.gV,I.len)
def Inv.Aq(I:Inv (X.LK E) pins σ H s):Inv X pins σ H s:=(I.ok.Aq,I.os,I.bare,I.base,I.loc,I.cell,I.free,I.EN,I.pin,I.gV,I.len)
def SP.Aq(h:SP (X.LK E) pins D f s'):SP X pins D f s':=by
 cases f with
 |next=>obtain⟨g,H',I,q⟩:=h;show(g,H',I.Aq,q)
 |brk=>obtain⟨g,H',I,q⟩:=h;show(g,H',I.Aq,q)
 |cont=>obtain⟨g,H',I,q⟩:=h;show(g,H',I.Aq,q)
 |ret u=>obtain⟨v,g,H',I,r,q⟩:=h;show(v,g,H',I.Aq,r,q)
def PE.nox(h:PE X.nox e t):PE X e t:=λpins s σ H Q I hw=>
 ja (h pins s σ H Q (I.LK _) hw) (λ_ _ (v,H',g,r,q)=>(v,H',g.Aq,r,q)) λ_ _ z=>fj z
def PT.nox(h:PT X.nox e t):PT X e t:=λpins s σ H Q I hw=>
 ja (h pins s σ H Q (I.LK _) hw) (λ_ _ (H',g,q)=>(H',g.Aq,q)) λ_ _ z=>fj z
def Xh.nox{st:List fG}(h:Xh X.nox st t):Xh X st t:=λpins s σ H D I hw=>
 ja (h pins s σ H D (I.LK _) hw) (λ_ _ q=>q.Aq) λ_ _ z=>fj z
end
section
variable{X:Cx}{st:fG}{rest:List fG}{t u:TS}{e:jS}{te:TE}{pos:Ie}
abbrev acw:TS:=λD σ H=>D.nx σ H
abbrev adx(t u:TS):TS:=λD σ H=>t {D with nx:=u D} σ H
def dG:Xh X [] acw:=λ_ _ σ H _ I h=>xu (σ,H,I,h)
def aU(h1:PS X st t)(h2:Xh X rest u):Xh X (st ::rest) (adx t u):=by
 intro pins s σ H D I h;show K5 (jI (h1 pins s σ H {D with nx:=u D} I h) λf g q=>?_)
 cases f with
 |next=>
  obtain⟨j,H',z,q⟩:=q;show h2 pins g j H' D z q
 |ret v=>show q
 |brk=>show q
 |cont=>show q
def bh(h1:PS X st t):Xh X [st] t:=by
 intro pins s σ H D I h;show K5 (jI (h1 pins s σ H D I h) λf g q=>?_)
 cases f with
 |next=>show xu q
 |ret v=>show q
 |brk=>show q
 |cont=>show q
abbrev acW:TS:=λD σ H=>D.ct σ H
def S0:PS X (.Continue pos) acW:=λ_ _ σ H _ I h=>wpAny_Continue (σ,H,I,h)
def Inv.quiet(I:Inv X pins σ H s):interactive X.env=false:=by simp[interactive,I.ok.kind]
abbrev acG(te:TE):TS:=λD σ H=>te σ H λ_ H1=>D.nx σ H1
def dP(g:PE X e te)(j:swapsWith e none pos.line X.env=pure false:=by rfl):PS X (.Expr e pos) (acG te):=by
 intro pins s σ H D I h;show wpAny_Expr_any (jI (g pins s σ H _ I h) λv J (x,H1,z,M,B)=>(σ,H1,z,B)) I.quiet j
abbrev ags(te:TE):TS:=λD σ H=>te σ H D.rt
def cE(g:PE X e te):PS X (.Return (some e) pos) (ags te):=by
 intro pins s σ H D I h;show wpAny_Return_some (jI (g pins s σ H _ I h) λv J (x,H1,j,z,B)=>(x,σ,H1,j,z,B))
abbrev ahv(c:TT)(t u:TS):TS:=λD σ H=>c σ H λb H1=>if b=true then t D σ H1 else u D σ H1
def eG(B:PT X c tc)(J:Xh X a t)(M:Xh X b u):PS X (.If c a b pos) (ahv tc t u):=by
 intro pins s σ H D I h;show wpAny_If (jI (B pins s σ H _ I h) λd g (H1,j,z)=>?_)
 cases d with
 |true=>show J pins g σ H1 D j z
 |false=>show M pins g σ H1 D j z
end
meta abbrev TG:=V->St->Hp->(St->Hp->Prop)->Prop
meta abbrev TGs:=List V->St->Hp->(St->Hp->Prop)->Prop
abbrev PG(X:Cx)(target:jS)(t:TG):Prop:=
 ∀(pins:List (aW×uG)) (s:b9) (σ:St) (H:Hp) (v:V) (u:bM) (Q:St->Hp->Prop),Inv X pins σ H s->RelV v u->t v σ H Q->
  wpAny (model X.prog X.w) X.A (assign target X.env u) (λ_ s'=>∃g H',Inv X pins g H' s'/\Q g H') X.xe s
abbrev PGs(X:Cx)(ts:List jS)(t:TGs):Prop:=
 ∀(pins:List (aW×uG)) (s:b9) (σ:St) (H:Hp) (vs:List V) (us:List bM) (Q:St->Hp->Prop),Inv X pins σ H s->Vals vs us->t vs σ H Q->
  wpAny (model X.prog X.w) X.A (assignInOrder ((assignEach ts X.env).map (·.2)) us) (λ_ s'=>∃g H',Inv X pins g H' s'/\Q g H') X.xe s
meta abbrev agU:=V->V->V->Hp->(Hp->Prop)->Prop
abbrev ag0(X:Cx)(t:agU):Prop:=
 ∀(pins:List (aW×uG)) (s:b9) (σ:St) (H:Hp) (o i v:V) (g j u:bM) (Q:Hp->Prop),Inv X pins σ H s->RelV o g->RelV i j->RelV v u->t o i v H Q->
  wpAny (model X.prog X.w) X.A (setItem g j u) (λ_ s'=>∃H',Inv X pins σ H' s'/\Q H') X.xe s
meta abbrev TIp:=V->V->Hp->VK->Prop
abbrev PIp(X:Cx)(g:Operator)(t:TIp):Prop:=
 ∀(pins:List (aW×uG)) (s:b9) (σ:St) (H:Hp) (x y:V) (v u:bM) (Q:VK),Inv X pins σ H s->RelV x v->RelV y u->t x y H Q->
  wpAny (model X.prog X.w) X.A (inplaceOp g v u) (EP X pins σ Q) X.xe s
section
variable{X:Cx}{pos:Ie}
abbrev RE(i:Nat):TG:=λv σ H Q=>Q (σ.set i (some v)) H
def b6(i:Nat)(g:X.N.Nodup:=by assumption)(hi:X.N[i]? =some x:=by rfl)(hx:Loc X.env.scope x:=by first|show .inl rfl|show .inr rfl)(j:X.fn x=true\/X.env.scope.names.lookup x=some .local:=by first|show .inl rfl|show .inr rfl|assumption):PG X (.Name x pos) (RE i):=by
 intro pins s σ H v u Q I r h;show JR (Nk I g hi hx r (λs' z=>(_,H,z,h)) j)
abbrev af9:TGs:=λvs σ H Q=>vs=[]/\Q σ H
abbrev acC(t:TG)(u:TGs):TGs:=λvs σ H Q=>∃v r,vs=v ::r/\t v σ H λg H'=>u r g H' Q
def g8:PGs X [] af9:=by
 intro pins s σ H vs us Q I r h;let(e,h):=h;subst e
 cases r
 show assignInOrder_nil (σ,H,I,h)
def ck(h1:PG X e t)(h2:PGs X es u)
  (g:(assignEach (e ::es) X.env).map (·.2)=assign e X.env ::(assignEach es X.env).map (·.2):=by rfl):PGs X (e ::es) (acC t u):=by
 intro pins s σ H vs us Q I r h;let(v,N,j,h):=h;subst j
 cases r with
 |cons r z=>
  rw[g];show assignInOrder_cons (jI (h1 pins s σ H _ _ _ I r h) λ_ B (D,H1,J,M)=>?_);show h2 pins B D H1 _ _ Q J z M
abbrev aev(K:bj)(n:Nat)(t:TGs):TG:=λv σ H Q=>∃a xs,v= .ref a/\qH K H a xs/\↑xs=n/\t xs σ H Q
def jw(j:X.calm=true)(h:PGs X es t)
  (z:↑(assignEach es X.env)=n:=by rfl)(ag:(assignEach es X.env).findIdx? (·.1)=none:=by rfl):PG X (.Tuple es k pos) (aev X.K n t):=by
 intro pins s σ H v u Q I r g;let(a,xs,B,D,J,g):=g;subst B
 cases r
 let(M,rv,N,U):=I.tuple D;show assign_Tuple_tuple (I.ok.hd j) N (by simp[z,←J,rv.length]) ag λh' hx=>?_;have O:Inv X pins σ H {s with heap:=h'}:=I.kept (t':=s.toks) λb o e=>hx b o (fu (cn e)) e;show h pins _ σ H xs _ Q O (by simpa using rv) g
abbrev ahh(to g:TE)(t:agU):TG:=λv σ H Q=>to σ H λo H1=>g σ H1 λi H2=>t o i v H2 λj=>Q σ j
def D3(z:PE X o to)(hi:PE X i B)(D:ag0 X t)
  (J:∀v,assign (.Subscript o i pos) X.env v=(do
   let g ←holding [v] (eval o X.env);let j ←holding [v,g] (eval i X.env)
   standAt pos
   holding [v,g,j] (setItem g j v)
   release [v,g,j] []):=by intro _;rfl):PG X (.Subscript o i pos) (ahh to B t):=by
 intro pins s σ H v u Q I r h;rw[J];show bL (GL (jI (z pins s σ H _ I h) λg M (x,H1,N,O,U)=>?_));show bL (GL (jI (hi pins M σ H1 _ N U) λj Y (y,H2,Z,r2,q2)=>?_));show bL (GJ (bL (GL (jI (D pins Y σ H2 x y v g j u _ Z O r2 r q2) λ_ s3 (H3,I3,q3)=>?_))));show wpAny_release (σ,H3,I3,q3)
abbrev aaH(te:TE)(g:TG):TS:=λD σ H=>te σ H λx H1=>g x σ H1 D.nx
def jN(j:PE X e te)(z:PG X tg g)(B:swapsWithSole [tg] e pos.line X.env=pure false:=by rfl)(J:swappedStores [tg] e X.env=pure none:=by rfl)
  (h1:(assignEach [tg] X.env).map (·.2)=[assign tg X.env]:=by rfl):PS X (.Assign [tg] e pos) (aaH te g):=by
 intro pins s σ H D I h;show wpAny_Assign_stores (jI (j pins s σ H _ I h) λv M (x,H1,N,O,Q)=>?_) B J;rw[h1];show jI (z pins M σ H1 x v _ N O Q) λ_ U q=>q
def c9(i:Nat)(g:PE X e te)(j:X.N.Nodup:=by assumption)(hi:X.N[i]? =some x:=by rfl)(hx:Loc X.env.scope x:=by first|show .inl rfl|show .inr rfl)(z:swapsWith e (some (.Name x aF)) pos.line X.env=pure false:=by rfl)(B:X.fn x=true\/X.env.scope.names.lookup x=some .local:=by first|show .inl rfl|show .inr rfl|assumption):
  PS X (.Assign [.Name x aF] e pos) (aaH te (RE i)):=by
 intro pins s σ H D I h;show wpAny_Assign_Name (jI (g pins s σ H _ I h) λv U (y,H1,J,M,O)=>?_) z;show Nk J j hi hx M (λY Q=>(_,H1,Q,O)) B
abbrev ahH(i:Nat)(te:TE)(g:TIp):TS:=λD σ H=>kA σ i λx=>te σ H λy H1=>g x y H1 λz H2=>D.nx (σ.set i (some z)) H2
def CP(i:Nat)(M:PE X e te)(O:PIp X J Q)(U:X.N.Nodup:=by assumption)(hi:X.N[i]? =some x:=by rfl)(hx:Loc X.env.scope x:=by first|show .inl rfl|show .inr rfl)(Y:X.fn x=true\/X.env.scope.names.lookup x=some .local:=by first|show .inl rfl|show .inr rfl|assumption):
  PS X (.AugAssign (.Name x aF) J e pos) (ahH i te Q):=by
 intro pins s σ H D I h;let(v,Z,h):=acU h;let(m,hn,hl):=I.loc;have B:Vis X.env.scope x:=by rcases hx with k|k;show .inl k;show .inr (.inl k)
 let(u,r,l):=hl i x v hi Z B;show wpAny_AugAssign_Name ?_
 have go:wpAny (model X.prog X.w) X.A (eval e X.env) (λw s₂=>wpAny (model X.prog X.w) X.A (inplaceOp J u w) (λr s₃=>wpAny (model X.prog X.w) X.A (storeName X.env x r) (λ_=>SP X pins D .next) X.xe s₃) X.xe s₂) X.xe s:=by
  show jI (M pins s σ H _ I h) λw s1 (y,H1,I1,r1,q1)=>?_;show jI (O pins s1 σ H1 v y u w _ I1 r r1 q1) λz s2 (zv,H2,I2,r2,q2)=>?_;show Nk I2 U hi hx r2 (λs3 I3=>(_,H2,I3,q2)) Y
 rcases l with⟨g,hm⟩|⟨g,c,hc,j⟩
 ·show Ff I.ok.kind g hn hm go
 ·rcases g with g|g
  ·show Gp I.ok.kind g hc j go
  ·rcases hx with k|k
   ·have:X.env.scope.names.lookup x=some .free:=g;rw[k] at this;cases this
   ·have:X.env.scope.names.lookup x=some .free:=g;rw[k] at this;cases this
abbrev ipI(f:Int->Int->Int):TIp:=λx y H Q=>kI x λi=>kI y λj=>Q (.int (f i j)) H
def ZP:PIp X .Add (ipI λi j=>i+j):=by
 intro pins s σ H x y v u Q I g z h;let(i,B,h2):=pY h;let(j,D,q):=pY h2;subst B;subst D;let(t,rfl):=g;let(t',rfl):=z;show iadd_int (.int _,H,I.tok _,(_,rfl),q)
end
section
variable{X:Cx}{pos:Ie}
abbrev adF(c:TT)(tb:TS):TS:=λD σ H=>∃W:Nat->St->Hp->Prop,(∃m,W m σ H)/\∀m σ H,W m σ H->
 c σ H λb H1=>if b=true then ∃N:St->Hp->Prop,(∀g H',N g H'->∃j,j < m/\W j g H')/\tb {D with nx:=N,ct:=N,bk:=D.nx} σ H1 else D.nx σ H1
def ve(Y:PassesOwn (model X.prog X.w) X.A X.env X.xe)(hc:PT X c tc)(hb:Xh X body tb):PS X (.While c body [] pos) (adF tc tb):=by
 intro pins s σ H D I h;let(W,(m0,w0),turn):=h;show wpAny_While (codeAny_whileLoop (λn s'=>∃Z H',Inv X pins Z H' s'/\W n Z H') ?_ m0 (σ,H,I,w0));rintro n s1 ⟨z,H1,I1,w1⟩;show lY Y (jI (hc pins s1 z H1 _ I1 (turn n z H1 w1)) λb s2 (H2,I2,B)=>?_)
 cases b with
 |true=>
  let(N,hN,B):=B;rw[h9 rfl];show lY Y (jI (hb pins s2 z H2 _ I2 B) λf s3 J=>?_)
  cases f with
  |next=>
   obtain⟨g,j,M,n3⟩:=J;let(O,Q,U):=hN g j n3;show(O,Q,g,j,M,U)
  |cont=>
   obtain⟨g,j,M,n3⟩:=J;let(O,Q,U):=hN g j n3;show(O,Q,g,j,M,U)
  |brk=>show J
  |ret v=>show J
 |false=>
  rw[h8 fT];show xu (z,H2,I2,B)
end
structure It where
 go:Nat->Hp->Prop
 yld:Nat->Hp->V->Hp->Prop
 stop:Nat->Hp->Prop
abbrev LM(X:Cx)(pins:List (aW×uG))(H:Hp)(b:aW):Prop:=
 H b=none/\b≠X.env.locals/\b∉X.fs/\(b∈X.ex\/X.s_0.heap.objs.size<=b)/\(∀x c,X.env.cells.lookup x=some c->c≠b)/\∀p∈X.pn++pins,p.1≠b
def Inv.Uo(I:Inv X pins σ H s)(g:s.heap.objs.size<=b)(j:H' b=none):LM X pins H' b:=by
 show(j,vp (bF I.lt g),I.aiT g,.inr (cJ I.sz g),λx c e z=>?_,λp B z=>?_)
 ·let(v,q):=I.cell x c e;show absurd (bF q.lt (by rw[z];show g)) (jH _)
 ·show absurd (bF (cn (I.pin p B).1) (by rw[z];show g)) (jH _)
structure Turn(P:fm)(w:e_)(K:bj)(tg:jS)(J:It)(g:List aW)(j:aW)(tn:Nat->jj->Prop):Prop where
 mem:j∈g
 obj:∀i h,tn i h->∀b∈g,∃o,h.get? b=some o/\∀v,o.data≠ .cell v
 keep:∀i h h',tn i h->(∀b∈g,∀o,h.get? b=some o->h'.get? b=some o)->tn i h'
 item:∀(X:Cx),X.prog=P->X.w=w->X.K=K->X.calm=true->∀(i:Nat) (pins:List (aW×uG)) (s:b9) (σ:St) (H:Hp) (E:bM->b9->Prop),Inv X pins σ H s->(∀b∈g,LM X pins H b)->tn i s.heap->J.go i H->
  wpAny (model P w) X.A (pyNext (.ref j)) (λr z=>∃u,r=some u/\
   wpAny (model P w) X.A (letOwnedTupleGo tg (.ref j) u) (λ_ B=>∃x H',Inv X pins σ H' B/\RelV x u/\J.yld i H x H'/\tn (i+1) B.heap/\∀b∈g,H' b=none) E z) E s
 done:∀(X:Cx),X.prog=P->X.w=w->X.K=K->X.calm=true->∀(i:Nat) (pins:List (aW×uG)) (s:b9) (σ:St) (H:Hp) (E:bM->b9->Prop),Inv X pins σ H s->(∀b∈g,LM X pins H b)->tn i s.heap->J.stop i H->
  wpAny (model P w) X.A (pyNext (.ref j)) (λr z=>r=none/\Inv X pins σ H z) E s
 self:∀(A:t5) (i:Nat) (s:b9) (Q:bM->b9->Prop) (E:bM->b9->Prop),tn i s.heap->Q (.ref j) s->wpAny (model P w) A (pyIter (.ref j)) Q E s
meta abbrev TI:=St->Hp->(It->Hp->Prop)->Prop
abbrev PIE(X:Cx)(pins:List (aW×uG))(σ:St)(tg:jS)(R:It->Hp->Prop)(g:bM)(j:b9):Prop:=
 ∃(z:aW) (B:List aW) (tn:Nat->jj->Prop) (J:It) (H':Hp),g= .ref z/\Inv X pins σ H' j/\Turn X.prog X.w X.K tg J B z tn/\tn 0 j.heap/\(∀b∈B,LM X pins H' b)/\R J H'
abbrev PI(X:Cx)(tg iter:jS)(g:TI):Prop:=
 ∀(pins:List (aW×uG)) (s:b9) (σ:St) (H:Hp) (R:It->Hp->Prop),Inv X pins σ H s->g σ H R->
  wpAny (model X.prog X.w) X.A (eval iter X.env) (λv j=>wpAny (model X.prog X.w) X.A (pyIter v) (PIE X pins σ tg R) X.xe j) X.xe s
def XN(j:s.heap.get? it=some o)(z:o.cls= .type n)(hd:o.data= .fields vs)
  (B:["enumerate","zip","dict_itemiterator","dict_reverseitemiterator","odict_iterator","itertools.zip_longest","itertools.pairwise"].contains n=false)(g:Q () s):wpAny M A (letOwnedTupleGo tg (.ref it) u) Q E s:=by
 unfold letOwnedTupleGo
 cases tg <;> first
  |show dF g
  |(cases u <;> first
   |show dF g
   |(show bL (wpAny_load j ?_)
     rw[z,hd];change wpAny M A (if (["enumerate","zip","dict_itemiterator","dict_reverseitemiterator","odict_iterator","itertools.zip_longest","itertools.pairwise"].contains n && vs[0]? ==some (rawInt _))=true then _ else _) Q E s;rw[h8 (by intro h;rw[B,gJ] at h;cases h)];show dF g))
abbrev Itl(K:bj)(a:aW):It:=
 (λi H=>∃xs x,dg K H a xs/\xs[i]? =some x,λi H x H'=>H'=H/\∀xs,dg K H a xs->xs[i]? =some x,λi H=>∃xs,dg K H a xs/\↑xs<=i)
abbrev Itr(lo:Int)(n:Nat):It:=(λi _=>i < n,λi H x H'=>H'=H/\x= .int (lo+i),λi _=>n<=i)
def W2{P:fm}{w:e_}{K:bj}{tg:jS}(a g:aW):Turn P w K tg (Itl K a) [g] g (λi h=>h.IsListIter g a i) where
 mem:=by simp
 obj:=λi h st b j=>by
  have e:b=g:=by simpa using j
  subst e;let(o,e,c,d):=st;show(o,e,λv z=>by rw[d] at z;cases z)
 keep:=λi h h' st k=>st.at λo e=>k g ⋯ o e
 item:=by
  intro X J M N hc i pins s σ H E I B st O;subst J M N;let(xs,x,D,hx):=O;let(Q,rv,p,hz):=I.list D;let(u,hu,ru):=rv.get hx;let(U,Y,f2,Z,f4,f5):=B g ⋯;show wpAny_pyNext_list_item st p.isList (x:=u) (by simpa using hu) λh' st' sb=>?_;have I1:Inv X pins σ H {s with heap:=h'}:=I.turned (t':=s.toks) (λb o j e=>(sb.2 b j).trans e) U Y Z f4 f5;let(o,e,c,d):=id st';show(u,rfl,XN (s:={s with heap:=h'}) e c d (by decide) (x,H,I1,ru,(rfl,λys hy=>by rw[I.E6 hy D];show hx),st',λb j=>(B b j).1))
 done:=by
  intro X J M N hc i pins s σ H E I B st O;subst J M N;let(xs,D,hx):=O;let(Q,rv,p,hz):=I.list D;let(U,Y,f2,Z,f4,f5):=B g ⋯;have hl:=↑rv;show wpAny_pyNext_list_end (I.ok.hd hc) st p.isList (by simp;lia) λh' eb=>(rfl,I.turned (t':=s.toks) (λb o j e=>eb b o j e) U Y Z f4 f5)
 self:=λ_ _ _ _ _ st h=>wpAny_pyIter_listiter st h
def Uq{P:fm}{w:e_}{K:bj}{tg:jS}(g:aW)(lo:Int)(n:Nat):Turn P w K tg (Itr lo n) [g] g (λi h=>Fb h g (lo+(i:Nat)*1) ((n:Int) - (i:Nat)) 1) where
 mem:=by simp
 obj:=λi h st b j=>by
  have e:b=g:=by simpa using j
  subst e
  show(_,st,λv z=>by
   have z':Data.fields _=Data.cell v:=z
   cases z')
 keep:=λi h h' st k=>k g ⋯ _ st
 item:=by
  intro X D J M N i pins s σ H E I B st O;subst D J M;let(Q,U,f2,Y,Z,f5):=B g ⋯;have W:=Te (prog:=X.prog) (w:=X.w) (I.ok.hd N) g lo 1 n;show W.item i s _ _ O st λv h' tk hv st' kk=>?_;let(t,rfl):=hv;have I1:Inv X pins σ H {s with heap:=h',toks:=tk}:=I.turned (λb o j e=>kk b o (by simpa using j) e) Q U Y Z f5;show(_,rfl,XN (s:={s with heap:=h',toks:=tk}) (n:="range_iterator") st' rfl rfl (by decide) (.int (lo+i),H,I1,(t,?_),(rfl,rfl),st',λb j=>(B b j).1));rw[Int.mul_one]
 done:=by
  intro X D J M N i pins s σ H E I B st O;subst D J M;let(Q,U,f2,Y,Z,f5):=B g ⋯;show C6 (I.ok.hd N) st (by have:n<=i:=O;lia) λh' eb=>(rfl,I.turned (t':=s.toks) (λb o j e=>eb b o j e) Q U Y Z f5)
 self:=λ_ _ _ _ _ st h=>C7 st h
section
variable{X:Cx}{tg:jS}
abbrev acB(K:bj)(tl:TE):TI:=λσ H R=>tl σ H λx H1=>kR x λa=>(∃xs,dg K H1 a xs)/\R (Itl K a) H1
def jE(z:PE X l tl):PI X tg l (acB X.K tl):=by
 intro pins s σ H R I h;show jI (z pins s σ H _ I h) λv g (x,H1,j,B,D)=>?_;let(a,e,(xs,J),q):=qF D;subst e
 cases B
 let(M,rv,p,O):=j.list J;show JP p.isList ?_;show(g.heap.objs.size,[g.heap.objs.size],_,_,H1,rfl,j.kept (t':=g.toks) λb o e=>bE _ e,W2 a _,(_,cZ _ rfl,rfl,rfl),λb N=>?_,q);have e:b=g.heap.objs.size:=by simpa using N
 subst e;show j.Uo (aT _) (j.gV.fresh (aT _))
def XD{lo hi:Int}(I:Inv X pins σ H s)(h1:-(2^62)<=lo)(h2:lo < 2^62)(j:-(2^62)<=hi)(z:hi < 2^62)
  (q:R (Itr lo (hi - lo).toNat) H):wpAny (model X.prog X.w) X.A (pyIter (.ref s.heap.objs.size)) (PIE X pins σ tg R) E {s with heap:=s.heap.push {cls:= .type "range",data:= .fields #[.int lo t,.int hi u,.int 1 v]},toks:=tk}:=by
 show Ia (S8 ..) (small_one h1 h2 j z) ?_;have g:Inv X pins σ H {s with heap:=s.heap.push {cls:= .type "range",data:= .fields #[.int lo t,.int hi u,.int 1 v]},toks:=tk}:=I.kept λb o e=>bE _ e
 show((s.heap.push {cls:= .type "range",data:= .fields #[.int lo t,.int hi u,.int 1 v]}).objs.size,[(s.heap.push {cls:= .type "range",data:= .fields #[.int lo t,.int hi u,.int 1 v]}).objs.size],_,_,H,rfl,
  g.kept (t':=tk) λb o e=>bE _ e,Uq _ lo (hi - lo).toNat,?_,λb B=>?_,q)
 ·have D:lo+((0:Nat):Int)*1=lo:=by simp
  have J:(((hi - lo).toNat:Nat):Int) - ((0:Nat):Int)=uD lo hi 1:=by rw[rangeSize_one];split <;> lia
  change Fb _ _ (lo+((0:Nat):Int)*1) ((((hi - lo).toNat:Nat):Int) - ((0:Nat):Int)) 1;rw[D,J];show cZ _ rfl
 ·have e:b=(s.heap.push {cls:= .type "range",data:= .fields #[.int lo t,.int hi u,.int 1 v]}).objs.size:=by simpa using B
  subst e;show g.Uo (aT _) (g.gV.fresh (aT _))
abbrev ace(ta:TA):TI:=λσ H R=>ta σ H λvs H1=>k1 vs λy=>kI y λj=>-(2^62)<=j/\j < 2^62/\R (Itr 0 j.toNat) H1
def BK(z:Gl X "range")(B:X.mg "range" =none)(D:PA X [a] ta)(J:starEach [a] X.env=[(false,eval a X.env,)]:=by rfl):PI X tg (.Call (.Name "range" p) [a] [] pos) (ace ta):=by
 intro pins s σ H R I h;show Wh (HG I z B boot_range (gX (jI (D pos pins s σ H _ I h) λus U (vs,H1,M,N,g)=>?_) J rfl));let(_,rfl,h2):=Pb g;let(j,rfl,g,O,q):=pY h2
 cases N with
 |cons r Q=>
  cases Q
  let(t,rfl):=r;show call_range_1 (XD M (by lia) (by lia) g O (by simpa using q))
abbrev aez(B:TI)(g:TG)(tb:TS):TS:=λD σ H=>B σ H λJ H1=>∃W:Nat->Nat->St->Hp->Prop,(∃m,W 0 m σ H1)/\∀i m σ H,W i m σ H->
 (J.stop i H/\D.nx σ H)\/(J.go i H/\∃N:St->Hp->Prop,(∀j H',N j H'->∃z,z < m/\W (i+1) z j H')/\∀x H',J.yld i H x H'->g x σ H' λM H2=>tb {D with nx:=N,ct:=N,bk:=D.nx} M H2)
abbrev Nr(g:List aW)(h:jj):List (aW×uG):=g.filterMap λb=>(h.get? b).map λo=>(b,o,)
def HC(g:b∈j)(e:h.get? b=some o):(b,o,)∈Nr j h:=HY.mpr (b,g,by rw[e];rfl)
def WO(g:p∈Nr j h):p.1∈j/\h.get? p.1=some p.2:=by
 let(b,z,e):=HY.mp g
 cases q:h.get? b with
 |none=>rw[q] at e;cases e
 |some o=>
  rw[q] at e;have B:(b,o,)=p:=bQ e;subst B;show(z,q)
def Inv.pinned(I:Inv X pins σ H s)(D:∀b∈g,LM X pins H b)(J:∀b∈g,∃o,s.heap.get? b=some o/\∀v,o.data≠ .cell v):Inv X (pins++Nr g s.heap) σ H s:=
 I.Vv λp M=>(cj.mp M).elim (λz=>I.pin p (bW _ z)) λz=>by
  let(j,e):=WO z;let(N,O,Q,_):=D p.1 j;let(o,B,d):=J p.1 j;rw[e] at B;cases B;show(e,N,O,Q,d)
def Inv.IV(I:Inv X (pins++pl) σ H s):Inv X pins σ H s:=I.Vv λp g=>I.pin p (bW _ (cf _ g))
def jO(Y:PassesOwn (model X.prog X.w) X.A X.env X.xe)(hc:X.calm=true)(hi:PI X tg iter wi)(hg:PG X tg g)(j:Xh X body tb)
  (hs:∀x,foldedSetIterable iter X.env x=pure x:=by intro _;rfl):PS X (.For tg iter body [] pos) (aez wi g tb):=by
 intro pins s σ H D I h;show wpAny_For (jI (hi pins s σ H _ I h) λv s1 h1=>jI h1 λbk s2 h2=>?_) hs;let(it,Z,tn,J,H2,e,I2,T,av,f2,W,(m0,w0),turn):=h2;subst e;have z:∀{H':Hp},(∀b∈Z,H' b=none)->∀b∈Z,LM X pins H' b:=λhn b j=>(hn b j,(f2 b j).2);show codeAny_forLoop_any (λn s'=>∃i σ' H',Inv X pins σ' H' s'/\tn i s'.heap/\(∀b∈Z,H' b=none)/\W i n σ' H') ?_ m0 (0,σ,H2,I2,av,λb j=>(f2 b j).1,w0);rintro n s3 ⟨i,σ3,H3,I3,ah,ar,w3⟩;rcases turn i n σ3 H3 w3 with⟨stop,qn⟩|⟨go,N,hN,step⟩
 ·show lY Y (jI (T.done X rfl rfl rfl hc i pins s3 σ3 H3 X.xe I3 (z ar) ah stop) λr s4 (hr,I4)=>?_);subst hr;show xu (σ3,H3,I4,qn)
 ·show lY Y (jI (T.item X rfl rfl rfl hc i pins s3 σ3 H3 X.xe I3 (z ar) ah go) λr s4 (u,hr,h4)=>?_);subst hr;show lY Y (jI h4 λ_ s5 (x,H5,I5,r5,y5,U,aA)=>?_);have aE:=I5.pinned (z aA) (T.obj _ _ U);show lY Y (jI (hg _ s5 σ3 H5 x u _ aE r5 (step x H5 y5)) λ_ s6 (σ6,H6,I6,q6)=>?_);show lY Y (jI (j _ s6 σ6 H6 _ I6 q6) λf s7 Q=>?_)
  have again:∀{B:St} {M:Hp},Inv X (pins++Nr Z s5.heap) B M s7->N B M->∃m,m < n/\∃i σ' H',Inv X pins σ' H' s7/\tn i s7.heap/\(∀b∈Z,H' b=none)/\W i m σ' H':=λ{B M} O n7=>by
   let(m',hm,w7):=hN B M n7;show(m',hm,i+1,B,M,O.IV,T.keep _ _ _ U λb j o e=>(O.pin (b,o,) (bW _ (bW _ (HC j e)))).1,λb j=>?_,w7);let(o,e,d):=T.obj _ _ U b j;show(O.pin (b,o,) (bW _ (bW _ (HC j e)))).2.1
  cases f with
  |next=>obtain⟨B,M,O,n7⟩:=Q;show again O n7
  |cont=>obtain⟨B,M,O,n7⟩:=Q;show again O n7
  |brk=>obtain⟨B,M,O,Q⟩:=Q;show(B,M,O.IV,Q)
  |ret v=>obtain⟨x7,B,M,O,r7,Q⟩:=Q;show(x7,B,M,O.IV,r7,Q)
end
def lr{K:bj}{g:TG}{tb:TS}{D:Ends}(Pv:Nat->St->Hp->Prop)(M:Pv 0 σ H)(O:∀i σ H,i<=↑xs->Pv i σ H->dg K H a xs)
  (Q:∀i x σ H,xs[i]? =some x->Pv i σ H->g x σ H λz H2=>tb {D with nx:=Pv (i+1),ct:=Pv (i+1),bk:=D.nx} z H2)(hd:∀σ H,Pv ↑xs σ H->D.nx σ H):
  ∃W:Nat->Nat->St->Hp->Prop,(∃m,W 0 m σ H)/\∀i m σ H,W i m σ H->
   ((Itl K a).stop i H/\D.nx σ H)\/((Itl K a).go i H/\∃N:St->Hp->Prop,(∀B H',N B H'->∃J,J < m/\W (i+1) J B H')/\∀x H',(Itl K a).yld i H x H'->g x σ H' λz H2=>tb {D with nx:=N,ct:=N,bk:=D.nx} z H2):=by
 show(λi m σ H=>m=↑xs - i/\i<=↑xs/\Pv i σ H,(↑xs,⋯,d6 _,M),?_);rintro i m σ H ⟨rfl,hi,p⟩;have q:=O i σ H hi p
 by_cases j:i < ↑xs
 ·show .inr ((xs,xs[i],q,by simp[j]),Pv (i+1),λB H' U=>(↑xs - (i+1),by lia,rfl,j,U),λx H' y=>?_);let(e,y):=y;subst e;show Q i x σ _ (y xs q) p
 ·have e:i=↑xs:=by lia
  subst e;show .inl ((xs,q,aT _),hd σ H p)
def J4{lo:Int}{g:TG}{tb:TS}{D:Ends}(Pv:Nat->St->Hp->Prop)(M:Pv 0 σ H)
  (O:∀i σ H,i < n->Pv i σ H->g (.int (lo+i)) σ H λz H2=>tb {D with nx:=Pv (i+1),ct:=Pv (i+1),bk:=D.nx} z H2)(hd:∀σ H,Pv n σ H->D.nx σ H):
  ∃W:Nat->Nat->St->Hp->Prop,(∃m,W 0 m σ H)/\∀i m σ H,W i m σ H->
   ((Itr lo n).stop i H/\D.nx σ H)\/((Itr lo n).go i H/\∃N:St->Hp->Prop,(∀B H',N B H'->∃J,J < m/\W (i+1) J B H')/\∀x H',(Itr lo n).yld i H x H'->g x σ H' λz H2=>tb {D with nx:=N,ct:=N,bk:=D.nx} z H2):=by
 show(λi m σ H=>m=n - i/\i<=n/\Pv i σ H,(n,⋯,d6 _,M),?_);rintro i m σ H ⟨rfl,hi,p⟩
 by_cases j:i < n
 ·show .inr (j,Pv (i+1),λB H' Q=>(n - (i+1),by lia,rfl,j,Q),λx H' y=>?_);let(e,y):=y;subst e y;show O i σ _ j p
 ·have e:i=n:=by lia
  subst e;show .inl (aT _,hd σ H p)
meta abbrev R2:=V->V->Hp->VK->Prop
abbrev DI(X:Cx)(f:bM->bM->Sem bM)(r:R2):Prop:=
 ∀(pins:List (aW×uG)) (s:b9) (σ:St) (H:Hp) (x y:V) (v u:bM) (Q:VK),Inv X pins σ H s->RelV x v->RelV y u->r x y H Q->
  wpAny (model X.prog X.w) X.A (f v u) (EP X pins σ Q) X.xe s
abbrev UnR(X:Cx)(f:bM->Sem bM)(r:V->Hp->VK->Prop):Prop:=
 ∀(pins:List (aW×uG)) (s:b9) (σ:St) (H:Hp) (x:V) (v:bM) (Q:VK),Inv X pins σ H s->RelV x v->r x H Q->
  wpAny (model X.prog X.w) X.A (f v) (EP X pins σ Q) X.xe s
abbrev Ox(X:Cx)(f:bM)(r:List V->Hp->VK->Prop):Prop:=
 ∀(pins:List (aW×uG)) (s:b9) (σ:St) (H:Hp) (xs:List V) (us:List bM) (Q:VK),Inv X pins σ H s->Vals xs us->r xs H Q->
  wpAny (model X.prog X.w) X.A (call f us) (EP X pins σ Q) X.xe s
abbrev tOp(r:R2)(ta tb:TE):TE:=λσ H Q=>ta σ H λx H1=>tb σ H1 λy H2=>r x y H2 Q
abbrev tUn(r:V->Hp->VK->Prop)(ta:TE):TE:=λσ H Q=>ta σ H λx H1=>r x H1 Q
abbrev rI(C:Int->Int->Prop)(g:Int->Int->V):R2:=λx y H Q=>kI x λi=>kI y λj=>C i j/\Q (g i j) H
abbrev Xs(g:Int->Int->V):R2:=λx y H Q=>kI x λi=>kI y λj=>Q (g i j) H
abbrev rU(g:Int->V):V->Hp->VK->Prop:=λx H Q=>kI x λi=>Q (g i) H
section
variable{X:Cx}{a b c:jS}{ta tb tc:TE}{pos:Ie}
def aeI(j:PE X a ta)(z:PE X b tb){R:V->V->Hp->Prop}(I:Inv X pins σ H s)
  (h:ta σ H λx H1=>tb σ H1 λy H2=>R x y H2){f:bM->bM->Sem bM}
  (B:∀v u g x y H2,Inv X pins σ H2 g->RelV x v->RelV y u->R x y H2->wpAny (model X.prog X.w) X.A (f v u) Q X.xe g):
  wpAny (model X.prog X.w) X.A (eval a X.env) (λv D=>wpAny (model X.prog X.w) X.A (eval b X.env) (λu J=>wpAny (model X.prog X.w) X.A (f v u) Q X.xe J) X.xe D) X.xe s:=by
 show jI (j pins s σ H _ I h) λv M (x,H1,N,O,U)=>?_;show jI (z pins M σ H1 _ N U) λu g (y,H2,Y,Z,q2)=>?_;show B v u g x y H2 Y O Z q2
def cY(g:DI X (binaryOp j) r)(z:PE X a ta)(B:PE X b tb):PE X (.BinOp a j b pos) (tOp r ta tb):=by
 intro pins s σ H Q I h;show wpAny_BinOp (aeI z B I h λv u D x y H2 J M N q=>g pins D σ H2 x y v u Q J M N q)
def Jk(g:UnR X (unaryOp j) r)(z:PE X a ta):PE X (.UnaryOp j a pos) (tUn r ta):=by
 intro pins s σ H Q I h;show UnaryOp_ (jI (z pins s σ H _ I h) λv B (x,H1,D,J,M)=>g pins B σ H1 x v Q D J M)
def opI{g:Int->Int->Int}
  (rule:∀(i j:Int) (t u:Tok) (s:b9) (Q:bM->b9->Prop) (E:bM->b9->Prop),C i j->Q (.int (g i j) s.toks) {s with toks:=s.toks+1}->wpAny (model X.prog X.w) X.A (f (.int i t) (.int j u)) Q E s):
  DI X f (rI C λi j=> .int (g i j)):=by
 intro pins s σ H x y v u Q I z B h;let(i,rfl,h2):=pY h;let(j,rfl,D,q):=pY h2;let(t,rfl):=z;let(t',rfl):=B;show rule i j t t' s _ _ D (.int (g i j),H,I.tok _,(_,rfl),q)
def Y2{g:Int->Int->Int}
  (rule:∀(i j:Int) (t u:Tok) (s:b9) (Q:bM->b9->Prop) (E:bM->b9->Prop),Q (.int (g i j) s.toks) {s with toks:=s.toks+1}->wpAny (model X.prog X.w) X.A (f (.int i t) (.int j u)) Q E s):
  DI X f (Xs λi j=> .int (g i j)):=by
 intro pins s σ H x y v u Q I z B h;let(i,rfl,h2):=pY h;let(j,rfl,q):=pY h2;let(t,rfl):=z;let(t',rfl):=B;show rule i j t t' s _ _ (.int (g i j),H,I.tok _,(_,rfl),q)
def ab_{g:Int->Int->Bool}
  (rule:∀(i j:Int) (t u:Tok) (s:b9) (Q:bM->b9->Prop) (E:bM->b9->Prop),Q (.bool (g i j)) s->wpAny (model X.prog X.w) X.A (f (.int i t) (.int j u)) Q E s):
  DI X f (Xs λi j=> .bl (g i j)):=by
 intro pins s σ H x y v u Q I z B h;let(i,rfl,h2):=pY h;let(j,rfl,q):=pY h2;let(t,rfl):=z;let(t',rfl):=B;show rule i j t t' s _ _ (.bl (g i j),H,I,rfl,q)
abbrev aim(i j:Int):Prop:=0 < j/\j < 1073741824
abbrev aej(i j:Int):Prop:=(-(2^64) < i/\i < 2^64)\/(-(2^64) < j/\j < 2^64)
def aej.ok(h:aej i j):IntMulOk i j:=by
 rcases h with⟨h1,h2⟩|⟨h1,h2⟩
 ·show .of_left (intBits_le_64 h1 h2)
 ·show .of_right (intBits_le_64 h1 h2)
def TZ(k:Nat):(0:Int)<=2^k:=by
 rw[two_pow_cast];show zt _
def Ex:DI X (binaryOp .Add) (Xs λi j=> .int (i+j)):=Y2 λ_ _ _ _ _ _ _ q=>add_int q
def Ao:DI X (binaryOp .Sub) (Xs λi j=> .int (i - j)):=Y2 λ_ _ _ _ _ _ _ q=>sub_int q
def Ms:DI X (binaryOp .Mult) (rI aej λi j=> .int (i*j)):=opI λ_ _ _ _ _ _ _ g q=>mul_int q g.ok
def V9:DI X (binaryOp .FloorDiv) (rI aim λi j=> .int (i / j)):=opI λi j _ _ _ _ _ g q=>by
 have h1:(0:Int) < j:=g.1;have h2:j < 1073741824:=g.2;show floordiv_int (by lia) (by rw[zx i (by lia)];show q) (.inl (C2 (by lia)))
def X2:DI X (binaryOp .Mod) (rI (λ_ j=>0 < j) λi j=> .int (i % j)):=opI λi j _ _ _ _ _ g q=>by
 have h1:(0:Int) < j:=g;show mod_int' (by lia) (by rw[Int.fmod_eq_emod_of_nonneg i (by lia)];show q)
def AG:DI X (binaryOp .RShift) (rI (λ_ j=>0<=j) λi j=> .int (i / 2^j.toNat)):=opI λi j _ _ _ _ _ g q=>
 rshift_int g (by rw[zx i (TZ _)];show q)
def nQ:DI X (binaryOp .BitAnd) (Xs λi j=> .int (dZ i j)):=Y2 λ_ _ _ _ _ _ _ q=>and_int q
def Bu:DI X (binaryOp .BitOr) (Xs λi j=> .int (jG i j)):=Y2 λ_ _ _ _ _ _ _ q=>or_int q
def E4:DI X (binaryOp .BitXor) (Xs λi j=> .int (zh i j)):=Y2 λ_ _ _ _ _ _ _ q=>xor_int q
def unI{g:Int->Int}
  (rule:∀(i:Int) (t:Tok) (s:b9) (Q:bM->b9->Prop) (E:bM->b9->Prop),Q (.int (g i) s.toks) {s with toks:=s.toks+1}->wpAny (model X.prog X.w) X.A (f (.int i t)) Q E s):
  UnR X f (rU λi=> .int (g i)):=by
 intro pins s σ H x v Q I j h;let(i,rfl,q):=pY h;let(t,rfl):=j;show rule i t s _ _ (.int (g i),H,I.tok _,(_,rfl),q)
def He:UnR X (unaryOp .USub) (rU λi=> .int (-i)):=unI λ_ _ _ _ _ q=>neg_int q
def YI:UnR X (unaryOp .Invert) (rU λi=> .int (dS i)):=unI λ_ _ _ _ _ q=>invert_int q
end
section
variable{X:Cx}{a b c:jS}{ta tb tc:TE}{pos:Ie}
def J_(I:Inv X pins σ H s)(q:Q (.bl k) H)(e:k=g):EP X pins σ Q (.bool g) s:=by
 subst e;show(.bl k,H,I,rfl,q)
abbrev rEq:R2:=λx y H Q=>match x,y with| .int i,.int j=>Q (.bl (decide (i=j))) H| .str i,.str j=>Q (.bl (decide (i=j))) H|_,_=>False
abbrev rNe:R2:=λx y H Q=>match x,y with| .int i,.int j=>Q (.bl (!decide (i=j))) H| .str i,.str j=>Q (.bl (!decide (i=j))) H|_,_=>False
def abE [DecidableEq α][BEq α][LawfulBEq α]{i j:α}:decide (i=j)=(i==j):=by
 rw[Ds];simp
def iU:DI X (compareOp .Eq) rEq:=by
 intro pins s σ H x y v u Q I g j h
 cases x with
 |int=>cases y with
  |int=>let(t,rfl):=g;let(t',rfl):=j;show eq_int (J_ I h abE)
  |_=>show fj h
 |str=>cases y with
  |str=>let(t,rfl):=g;let(t',rfl):=j;show eq_str (J_ I h abE)
  |_=>show fj h
 |_=>show fj h
def BH:DI X (compareOp .NotEq) rNe:=by
 intro pins s σ H x y v u Q I g j h
 cases x with
 |int=>cases y with
  |int=>let(t,rfl):=g;let(t',rfl):=j;show ne_int (J_ I h (congrArg not abE))
  |_=>show fj h
 |str=>cases y with
  |str=>let(t,rfl):=g;let(t',rfl):=j;show ne_str (J_ I h (congrArg not abE))
  |_=>show fj h
 |_=>show fj h
def VZ:DI X (compareOp .Lt) (Xs λi j=> .bl (decide (i < j))):=ab_ λ_ _ _ _ _ _ _ q=>lt_int q
def OA:DI X (compareOp .LtE) (Xs λi j=> .bl (decide (i<=j))):=ab_ λ_ _ _ _ _ _ _ q=>le_int q
def OV:DI X (compareOp .Gt) (Xs λi j=> .bl (decide (j < i))):=ab_ λ_ _ _ _ _ _ _ q=>gt_int q
def Y1:DI X (compareOp .GtE) (Xs λi j=> .bl (decide (j<=i))):=ab_ λ_ _ _ _ _ _ _ q=>ge_int q
def Vu:DI X (compareOp .IsNot) (λx y H Q=>y= .vI/\Q (.bl (!decide (x= .vI))) H):=by
 intro pins s σ H x y v u Q I g j h;let(rfl,q):=h
 cases j
 show isnot_none_gen (J_ I q ?_)
 cases x <;> first
  |(cases g;rfl)
  |(obtain⟨t,rfl⟩:=g;rfl)
def dk(b:jS)(h:g≠ .In:=by decide)(h2:g≠ .NotIn:=by decide):behindInMarks g b=false:=by
 have j:(g==Z5)=false:=by cases g <;> first|rfl|show absurd rfl h
 have z:(g==Tj)=false:=by cases g <;> first|rfl|show absurd rfl h2
 cases b <;> simp[behindInMarks,j,z]
def Jf(j:DI X (compareOp g) r)(z:PE X a ta)(B:PE X b tb)(D:behindInMarks g b=false):PE X (.Compare a [g] [b] pos) (tOp r ta tb):=by
 intro pins s σ H Q I h;show wpAny_Compare1 (aeI z B I h λv u J x y H2 M N O q=>j pins J σ H2 x y v u Q M N O q) D
abbrev YN(t:TE):TT:=λσ H Q=>t σ H λx H'=>kB x λk=>Q k H'
def cx(B:DI X (compareOp j) r)(D:PE X a ta)(J:PE X b tb)(M:behindInMarks j b=false):PT X (.Compare a [j] [b] pos) (YN (tOp r ta tb)):=by
 intro pins s σ H Q I h
 show DZ (jI (D pins s σ H _ I h) λv N (x,H1,O,U,Y)=>jI (J pins N σ H1 _ O Y) λu Z (y,H2,I2,r2,q2)=>
  jI (B pins Z σ H2 x y v u _ I2 U r2 q2) λc s3 (z,H3,I3,r3,g)=>?_) M
 let(k,e,g):=Dc g;subst e
 cases r3
 show gd (H3,I3,g)
abbrev T6(r j:R2)(ta tb tc:TE):TE:=λσ H Q=>ta σ H λx H1=>tb σ H1 λy H2=>r x y H2 λz g=>kB z λk=>
 (if k=true then tc σ g λB D=>j y B D Q else Q (.bl false) g)
def Zi(O:DI X (compareOp D) r)(B:DI X (compareOp g) U)(Y:PE X a ta)(Z:PE X b tb)(hc:PE X c tc)
  (hm:lastMarks [D,g] [b,c]=false:=by with_unfolding_all rfl):PE X (.Compare a [D,g] [b,c] pos) (T6 r U ta tb tc):=by
 intro pins s σ H Q I h
 show Compare_chain (jI (Y pins s σ H _ I h) λv s1 (x,H1,I1,r1,q1)=>NS (jI (Z pins s1 σ H1 _ I1 q1) λu s2 (y,H2,I2,J,q2)=>
  jI (O pins s2 σ H2 x y v u _ I2 r1 J q2) λd s3 (z,M,N,r3,j)=>?_)) hm
 let(k,e,j):=Dc j;subst e
 cases r3
 show gd ?_
 cases k with
 |false=>show U9 (.bl false,M,N,rfl,j)
 |true=>show U8 (chain_last (jI (hc pins s3 σ M _ N j) λw' s4 (z',H4,I4,r4,q4)=>B pins s4 σ H4 y z' u w' Q I4 J r4 q4))
def Zq(U:DI X (compareOp J) r)(B:DI X (compareOp g) Y)(Z:PE X a ta)(hb:PE X b tb)(hc:PE X c tc)
  (hm:lastMarks [J,g] [b,c]=false:=by with_unfolding_all rfl):PT X (.Compare a [J,g] [b,c] pos) (YN (T6 r Y ta tb tc)):=by
 intro pins s σ H Q I h
 show isTrue_chain (jI (Z pins s σ H _ I h) λv s1 (x,H1,I1,r1,q1)=>test_link (jI (hb pins s1 σ H1 _ I1 q1) λu s2 (y,H2,I2,M,q2)=>
  jI (U pins s2 σ H2 x y v u _ I2 r1 M q2) λd s3 (z,N,O,r3,j)=>?_)) hm
 let(k,e,j):=Dc j;subst e
 cases r3
 show gd ?_
 cases k with
 |false=>
  let(k',e',q'):=Dc j
  cases e'
  show U9 (N,O,q')
 |true=>
  show U8 (test_last (jI (hc pins s3 σ N _ O j) λw' s4 (z',H4,I4,r4,q4)=>jI (B pins s4 σ H4 y z' u w' _ I4 M r4 q4) λd' s5 (z2,H5,I5,r5,D)=>?_));let(k2,e2,D):=Dc D;subst e2
  cases r5
  show gd (H5,I5,D)
def Qr:(sizeLine:Nat) < 2^63:=by rw[sizeLine_eq];decide
def Ui:DI X (binaryOp .Add) (λx y H Q=>∃i j,x= .str i/\y= .str j/\↑i+↑j<=sizeLine/\Q (.str (i++j)) H):=by
 intro pins s σ H x y v u Q I g z h;let(i,j,rfl,rfl,B,q):=h;let(t,rfl):=g;let(t',rfl):=z;show add_str (λt' tk=>(.str (i++j),H,I.tok _,(_,rfl),q)) B
def vals1(r:Vals [x] us):∃u,us=[u]/\RelV x u:=by
 cases r with
 |cons g j=>cases j;show(_,rfl,g)
end
structure U0(h:jj)(x dx C:aW)(mA:bV->Option bM):Prop where
 obj:h.get? x=some (ke C dx)
 ns:h.Ns1 dx mA
 ne:dx≠x
def Xb{h:jj}(n:h.Ns1 dx mA):∃j,h.get? dx=some j/\∀name,zg name j=some (mA name):=by
 let(o,es,ep,B,hd,D,_,J):=n;show(o,B,λname=>?_);have e:=J name;unfold nsFind findBy at e;rw[←Array.find?_toList] at e;unfold zg;rw[hd];dsimp only
 split
 ·rename_i y q;rw[q] at e;show congrArg some e
 ·rename_i q;rw[q] at e
  have a:es.toList.any (·.refKey)=false:=by
   rw[vt];intro y M;let(z,t,g):=D y (Array.mem_toList_iff.mp M);simp[DictEntry.refKey,g]
  have N:¬es.toList.any (·.refKey)=true:=by rw[a];show fT
  rw[h8 N];show congrArg some e
def U0.look(I:U0 h x dx C mA):∃g,PySem.W.InstAt h x (ke C dx) C (some g)/\∀name,zg name g=some (mA name):=
 let(g,j,z):=Xb I.ns
 (g,(I.obj,rfl,rfl,j),z)
section
variable{prog:fm}{w:e_}{A:t5}{E:bM->b9->Prop}{s:b9}{K:bj}{x dx C f:aW}{mA:bV->Option bM}{name:bV}{v:bM}
def get_map(X:K.In s.heap)(I:U0 s.heap x dx C mA)(j:wq K C name=true)(z:Aj K C=true)
  (B:jT K (.ref C) name=some none)(D:mA name=some v)(g:KO v=true)(h:Q v {s with toks:=s.toks+1}):
  wpAny (model prog w) A (getAttr (.ref x) name expr) Q E s:=by
 let(N,J,M):=I.look;show PySem.W.get_value X J (xO j).1 (PySem.W.findObj_own z B rfl (by rw[M,D])) g h
def Yy(X:K.In s.heap)(I:U0 s.heap x dx C mA)(g:wq K C name=true)
  (j:jT K (.ref C) name=some (some (.ref f)))(z:Jw K (.ref f)=true)(B:mA name=none)(h:Q (.ref f,[.ref x],) s):
  wpAny (model prog w) A (getMethod (.ref x) name pl) Q E s:=by
 let(D,J,M):=I.look;show PySem.W.method_fn X J (xO g).1 (xO g).2 j (beq_iff_eq.mp z) (by change(zg name D).map (·.isSome)=some false;rw[M,B];rfl) h
def abo(X:K.In s.heap)(I:U0 s.heap x dx C mA)
  (N:jT K (.ref C) "__setattr__" =some (some (.builtin "object.__setattr__")))(O:JF K C=true)(U:Dm K C name=some none)(Y:Aj K C=true)
  (Z:Jz mA ns)(hsz:↑ns<=sizeLine)
  (h:∀h',U0 h' x dx C (λy=>if y=name then some v else mA y)->yp dx s.heap h'->Q () {s with heap:=h',toks:=s.toks+2}):
  wpAny (model prog w) A (setAttr (.ref x) name v) Q E s:=by
 let(od,J,hl):=I.look;show PySem.W.set_plain X J N (PySem.W.osa_open (s:={s with toks:=s.toks+1}) (r:=none) X J O U λb=>?_);let(cd,hc,z):=PySem.W.any_some Y;have hx:s.heap.get? x=some (.ref C,some dx,.plain,#[]):=I.obj;show bL (dF (bL (bL (wpAny_loadPart hx (bL (U7 (s:={s with toks:=s.toks+1}) (PySem.W.looks_clsIn X hc) ?_))))));rw[z];show dF (a:=some dx) (bL (dF (bL ?_)));show wpAny_nsSet1 (s:={s with toks:=s.toks+1}) I.ns λh' g j=>?_;let(oD,ah,ar,B,D,M):=g.count (Wd name v Z);show bL (wpAny_lookBehind B (by rw[D];show pastItsLine_dict (cJ M (by rw[a_];lia))) ?_);show dF (h _ ((j.2 _ (d5 I.ne)).trans I.obj,g,I.ne) j)
def ZN(X:K.In s.heap)(z:LQ K C=true)
  (hi:jT K (.ref C) "__init__" =some (some (.ref f)))(B:PySem.W.typeIn K (.ref f)=some (.type "function"))
  (h:codeAny (model prog w) (A.under (.builtin "type.__call__" (.ref C ::vs,j))) (.call (.ref f) (.ref (s.heap.objs.size+1) ::vs,j)) (PySem.W.InitBack (s.heap.objs.size+1) R)
   {s with heap:=(s.heap.push iy).push (ke C s.heap.objs.size)}):
  codeAny (model prog w) A (.call (.ref C) (vs,j)) R s:=by
 let(D,g,d,t,os):=s;show PySem.W.make_core (PySem.W.makes_of X z) (PySem.W.looks_findIn X hi) (λself=>PySem.W.bind_fn X self B) (.inl rfl) h
end
abbrev bC(f:bV)(v:V):List (bV×V)->List (bV×V)
 |[]=>[(f,v,)]
 |(g,x,) ::r=>if g=f then(g,v,) ::r else(g,x,) ::bC f v r
def K8(f g:bV)(v:V):∀fs:List (bV×V),(bC f v fs).lookup g=if g=f then some v else fs.lookup g
 |[]=>by
  change qo g [(f,v,)]=_
  by_cases h:g=f
  ·have j:(g==f)=true:=beq_iff_eq.mpr h;simp only[qo,j,h9 h]
  ·have j:(g==f)=false:=beq_eq_false_iff_ne.mpr h;simp only[qo,j,h8 h]
 |(k,x,) ::r=>by
  have B:=K8 f g v r;rw[show bC f v ((k,x,) ::r)=(if k=f then(k,v,) ::r else(k,x,) ::bC f v r) from rfl]
  by_cases z:k=f
  ·rw[h9 z]
   by_cases h:g=k
   ·have j:(g==k)=true:=beq_iff_eq.mpr h;simp only[qo,j,h9 (h.trans z)]
   ·have j:(g==k)=false:=beq_eq_false_iff_ne.mpr h;simp only[qo,j,h8 (λe:g=f=>h (e.trans z.symm))]
  ·rw[h8 z]
   by_cases h:g=k
   ·have j:(g==k)=true:=beq_iff_eq.mpr h;simp only[qo,j,h8 (λe:g=f=>z (h.symm.trans e))]
   ·have j:(g==k)=false:=beq_eq_false_iff_ne.mpr h;simp only[qo,j];show B
def J6(f:bV)(v:V):∀fs:List (bV×V),f∈(bC f v fs).map (·.1)/\∀g,g∈fs.map (·.1)->g∈(bC f v fs).map (·.1)
 |[]=>(by simp[bC],λg h=>by simp at h)
 |(k,x,) ::r=>by
  let(z,B):=J6 f v r;rw[show bC f v ((k,x,) ::r)=(if k=f then(k,v,) ::r else(k,x,) ::bC f v r) from rfl]
  by_cases j:k=f
  ·rw[h9 j];subst j;show(⋯,λg h=>by simpa using h)
  ·rw[h8 j];show(?_,λg h=>?_)
   ·rw[cg];show aZ _ z
   ·rw[cg] at h ⊢;rcases bo.mp h with e|e
    ·show bo.mpr (.inl e)
    ·show aZ _ (B g e)
def Li(f:bV)(v:V):∀fs:List (bV×V),↑(bC f v fs)<=↑fs+1
 |[]=>by simp[bC]
 |(k,x,) ::r=>by
  have j:=Li f v r;rw[show bC f v ((k,x,) ::r)=(if k=f then(k,v,) ::r else(k,x,) ::bC f v r) from rfl]
  by_cases g:k=f
  ·rw[h9 g,a_,a_];lia
  ·rw[h8 g,a_,a_];lia
def CO.some_of(r:CO (some v) o):∃u,o=some u/\RelV v u:=by
 cases o with
 |none=>show(show False from r).elim
 |some u=>show(u,rfl,r)
def CO.none_of(r:CO none o):o=none:=by
 cases o with
 |none=>rfl
 |some u=>show(show False from r).elim
def Xm(r:RelV v u):KO u=true:=by
 cases v with
 |vI=>cases(show u=CS from r);rfl
 |bl b=>cases(show u=U5 b from r);rfl
 |int i=>let(t,e):=(show ∃t,u=uA i t from r);cases e;rfl
 |str x=>let(t,e):=(show ∃t,u=KJ x t from r);cases e;rfl
 |uo b=>let(t,e):=(show ∃t,u=Th b t from r);cases e;rfl
 |flt b=>let(t,e):=(show ∃t,u=Tg b t from r);cases e;rfl
 |ref a=>cases(show u=f7 a from r);rfl
 |ty n=>cases(show u=wm n from r);rfl
section
variable{P:fm}{w:e_}{H H':Hp}{h h':jj}{a C dx:aW}{fs aK:List (bV×V)}
def QH(gV:Ew P w H h)(e:H a=some (.ins C dx fs)):∃mA,U0 h a dx C mA/\(∀f,CO (fs.lookup f) (mA f))/\Jz mA (fs.map (·.1))/\↑fs<=1000/\H dx=some (.own a):=by
 let(d,z,ne,g,mA,n,r,q):=(show lZ P w H h a (.ins C dx fs) from gV a _ e);show(mA,(g,n,ne),r,q,z,d)
end
structure JV(K:bj)(C:aW):Prop where
 pg:wq K C Str.empty=true
 hd:Aj K C=true
 po:JF K C=true
 sa:jT K (.ref C) "__setattr__" =some (some (.builtin "object.__setattr__"))
def JV.get{K:bj}(c:JV K C)(f:bV):wq K C f=true:=c.pg
abbrev dR(K:bj)(C:aW)(f:bV):Prop:=jT K (.ref C) f=some none
def dR.afH{K:bj}(n:dR K C f):Dm K C f=some none:=by
 unfold Dm;rw[show jT K (.ref C) f=some none from n]
 rfl
structure Meth(K:bj)(C:aW)(m:bV)(f:aW):Prop where
 at_:jT K (.ref C) m=some (some (.ref f))
 fn:Jw K (.ref f)=true
 kp:vj K (.ref f)=true
section
variable{X:Cx}{pins:List (aW×uG)}{σ:St}{H:Hp}{s:b9}{a C dx:aW}{fs:List (bV×V)}{f:bV}{v:V}{A:t5}{E:bM->b9->Prop}
def Nt(I:Inv X pins σ H s)(e:H a=some (.ins C dx fs))(c:JV X.K C)(n:dR X.K C f)(l:fs.lookup f=some v)
  (h:∀u s',Inv X pins σ H s'->RelV v u->Q u s'):wpAny (model X.prog X.w) A (getAttr (.ref a) f b) Q E s:=by
 let(mA,O,r,_,_,_):=QH I.gV e;let(u,hu,g):=CO.some_of (v:=v) (o:=mA f) (by rw[←l];show r f);show get_map I.NX O (c.get f) c.hd n hu (Xm g) (h u _ (I.tok _) g)
def Mz(I:Inv X pins σ H s)(e:H a=some (.ins C dx fs))(c:JV X.K C)(k:Meth X.K C m g)(l:fs.lookup m=none)
  (h:Q (.ref g,[.ref a],) s):wpAny (model X.prog X.w) A (getMethod (.ref a) m pl) Q E s:=by
 let(mA,O,r,_,_,_):=QH I.gV e;have j:mA m=none:=CO.none_of (by rw[←l];show r m);show Yy I.NX O (c.get m) k.at_ k.fn j h
def Nl(I:Inv X pins σ H s)(e:H a=some (.ins C dx fs))(c:JV X.K C)(n:dR X.K C f)(hl:↑fs < 1000)(J:RelV y u)
  (h:∀s',Inv X pins σ (upd H a (.ins C dx (bC f y fs))) s'->Q () s'):wpAny (model X.prog X.w) A (setAttr (.ref a) f u) Q E s:=by
 let(mA,O,r,B,_,D):=QH I.gV e;have M:↑(fs.map (·.1))<=sizeLine:=by rw[aQ,sizeLine_eq];lia
 show abo I.NX O c.sa c.po n.afH c.hd B M λh' j N=>h _ ?_;have hd:∃o,h'.get? dx=some o:=let(o,_,_,U,_):=j.ns;(o,U);show I.write (x:=a) (e:=dx) (by rw[e];show zd) (.inr D) (λb q Y z=>(N.2 b Y).trans z) hd ?_;show(by rw[bc O.ne];show D,?_,O.ne,j.obj,_,j.ns,λg=>?_,λg Z=>?_)
 ·have:=Li f y fs;lia
 ·change CO ((bC f y fs).lookup g) (if g=f then some u else mA g);rw[K8]
  by_cases q:g=f
  ·rw[h9 q,h9 q];show J
  ·rw[h8 q,h8 q];show r g
 ·by_cases q:g=f
  ·rw[q];show(J6 f y fs).1
  ·show(J6 f y fs).2 g (B g λz=>Z ?_);change(if g=f then some u else mA g)=none;rw[h8 q];show z
def Inv.made(I:Inv X pins σ H s):Inv X pins σ (upd (upd H s.heap.objs.size (.own (s.heap.objs.size+1))) (s.heap.objs.size+1) (.ins C s.heap.objs.size []))
  {s with heap:=(s.heap.push iy).push (ke C s.heap.objs.size)}:=by
 have g:(s.heap.push iy).get? s.heap.objs.size=some iy:=cZ s.heap rfl
 have j:((s.heap.push iy).push (ke C s.heap.objs.size)).get? (s.heap.objs.size+1)=some (ke C s.heap.objs.size):=by
  have:=cZ (s.heap.push iy) (o:=ke C s.heap.objs.size) rfl
  rwa [eZ] at this
 have z:(s.heap.push iy).Ns s.heap.objs.size (λ_=>none):=(iy,#[],_,g,rfl,(λe B=>absurd B ⋯),λ_=>rfl);have D:=I.laid (a:=s.heap.objs.size) (o:= .own (s.heap.objs.size+1)) (h':=s.heap.push iy) (t':=s.toks) (λb u q=>bE _ q) (aT _) (_,g);show D.laid (a:=s.heap.objs.size+1) (o:= .ins C s.heap.objs.size []) (t':=s.toks) (λb u q=>bE _ q) (CZ (eZ _ _)) ?_;have ne:s.heap.objs.size≠s.heap.objs.size+1:=fu (qD _);show(by rw[bc ne,aV],d6 _,ne,j,λ_=>none,(Heap.Ns1.of_empty z).at λo q=>bE _ q,λ_=>zd,λy J=>absurd rfl J)
def abS(g:attributeBase e f env (eval e env)=eval e env)
  (h:wpAny (model prog w) A (eval e env) (λo j=>wpAny (model prog w) A (getAttr o f true) Q E j) E s):wpAny (model prog w) A (eval (.Attribute e f pos) env) Q E s:=
 Attribute_any_ h (by rw[arm_eval_Attribute,g])
end
abbrev aan(K:bj)(ta:TE)(f:bV):TE:=λσ H Q=>ta σ H λx H1=>kR x λa=>kF (H1 a) λC dx fs=>(JV K C/\dR K C f)/\kO (fs.lookup f) λv=>Q v H1
abbrev afJ(K:bj)(ta tv:TE)(f:bV):TS:=λD σ H=>tv σ H λy H1=>ta σ H1 λx H2=>kR x λa=>kF (H2 a) λC dx fs=>(JV K C/\dR K C f)/\↑fs < 1000/\
 D.nx σ (upd H2 a (.ins C dx (bC f y fs)))
abbrev adG(X:Cx)(g:Operator)(rd:V->V->Hp->VK->Prop):Prop:=
 ∀(pins:List (aW×uG)) (s:b9) (σ:St) (H:Hp) (x y:V) (u v:bM) (Q:VK),Inv X pins σ H s->RelV x u->RelV y v->rd x y H Q->wpAny (model X.prog X.w) X.A (inplaceOp g u v) (EP X pins σ Q) X.xe s
abbrev VS(K:bj)(ta tv:TE)(rd:V->V->Hp->VK->Prop)(f:bV):TS:=λD σ H=>ta σ H λx H1=>∃a C dx fs v,x= .ref a/\H1 a=some (.ins C dx fs)/\JV K C/\dR K C f/\fs.lookup f=some v/\
 tv σ H1 λy H2=>rd v y H2 λz j=>∃g aK,j a=some (.ins C g aK)/\↑aK < 1000/\D.nx σ (upd j a (.ins C g (bC f z aK)))
section
variable{X:Cx}{o e value:jS}{f:bV}{pos aF az:Ie}{ta tv:TE}
def bN(g:PE X e ta)(j:attributeBase e f X.env (eval e X.env)=eval e X.env):PE X (.Attribute e f pos) (aan X.K ta f):=by
 intro pins s σ H Q I h;show abS j (jI (g pins s σ H _ I h) λu Y (x,H1,z,B,D)=>?_);let(a,ex,J):=qF D;let(C,dx,fs,M,(c,n),N):=aco J;let(v,l,q):=ahx N;subst ex;obtain rfl:u=f7 a:=B;show Nt z M c n l λu' Z O U=>(v,H1,O,U,q)
def fF(g:PE X o ta)(j:PE X value tv)(z:swapsWith value (some (.Attribute o f aF)) pos.line X.env=pure false):PS X (.Assign [.Attribute o f aF] value pos) (afJ X.K ta tv f):=by
 intro pins s σ H D I h;show plainObj_wpAny_Assign_Attribute (jI (j pins s σ H _ I h) λu B (y,H1,J,M,q)=>jI (g pins B σ H1 _ J q) λN s2 (x,H2,O,Q,U)=>?_) z;let(a,ex,Y):=qF U;let(C,dx,fs,Z,(c,n),l,q2):=aco Y;subst ex;obtain rfl:N=f7 a:=Q;show Nl O Z c n l M λs3 I3=>(σ,_,I3,q2)
def Pl(j:PE X o ta)(B:PE X value tv)(hop:adG X op rd):PS X (.AugAssign (.Attribute o f az) op value pos) (VS X.K ta tv rd f):=by
 intro pins s σ H D I h;show wpAny_AugAssign_AttributeAny (jI (j pins s σ H _ I h) λJ s1 (x,H1,M,N,a,C,dx,fs,v,ex,O,c,n,l,q)=>?_);subst ex;obtain rfl:J=f7 a:=N;show Nt M O c n l λu Q U Y=>jI (B pins Q σ H1 _ U q) λZ s3 (y,H2,I3,ry,q3)=>jI (hop pins s3 σ H2 v y u Z _ I3 Y ry q3) λw4 s4 (z,H3,I4,rz,ah,aK,g,l',q4)=>?_;show Nl I4 g c n l' rz λs5 I5=>(σ,_,I5,q4)
abbrev agA:V->V->Hp->VK->Prop:=λx y H Q=>kI x λi=>kI y λj=>Q (.int (i+j)) H
abbrev af2:V->V->Hp->VK->Prop:=λx y H Q=>kI x λi=>kI y λj=>Q (.int (i - j)) H
def adq:adG X .Add agA:=by
 rintro pins s σ H x y u v Q I g z h;let(i,rfl,h2):=pY h;let(j,rfl,q):=pY h2;let(t,rfl):=(show ∃t,u=uA i t from g);let(t',rfl):=(show ∃t',v=uA j t' from z);show Ru (.int (i+j),H,I.tok _,(_,rfl),q)
def adm:adG X .Sub af2:=by
 rintro pins s σ H x y u v Q I g z h;let(i,rfl,h2):=pY h;let(j,rfl,q):=pY h2;let(t,rfl):=(show ∃t,u=uA i t from g);let(t',rfl):=(show ∃t',v=uA j t' from z);show Rt (.int (i - j),H,I.tok _,(_,rfl),q)
end
structure vT(k:Nat)(A:t5):Prop where
 hd:A.handled=none
 dp:A.depth+3*k+5 < recursionLimit
 un:A.units+16*k+200 < cLine
def vT.mono(r:vT k A)(h:j<=k):vT j A:=(r.hd,by have:=r.dp;lia,by have:=r.un;lia)
def vT.deeper(r:vT (k+1) A)(env:S9):vT k (A.deeper env):=
 (r.hd,by have:=r.dp;change A.depth+1+3*k+5 < _;lia,by have:=r.un;change A.units+3+16*k+200 < _;lia)
def U3{A:t5}:(A.under (.builtin "type.__call__" (.ref C ::us,g))).depth=A.depth+1:=by
 first|rfl|simp[Jy,Code.weight,Code.isCreation,Code.isGuard,Code.isCaller,Tn,JC,guardIds]
def UR{A:t5}:(A.under (.builtin "type.__call__" (.ref C ::us,g))).units=A.units+1:=by
 first|rfl|simp[Jy,Code.cUnits,Tn,JC]
def vT.make(r:vT (k+1) A)(C:aW)(us:List bM)(g:List (bV×bM)):vT k (A.under (.builtin "type.__call__" (.ref C ::us,g))):=
 (r.hd,by have:=r.dp;rw[U3];lia,by have:=r.un;rw[UR];lia)
def vT.depth(r:vT k A):A.depth < recursionLimit:=by have:=r.dp;lia
def vT.units(r:vT k A):A.units+64 < cLine:=by have:=r.un;lia
abbrev aaX:TA:=λ_ H Q=>Q [] H
abbrev acu(ta:TE)(tr:TA):TA:=λσ H Q=>ta σ H λx H1=>tr σ H1 λxs H2=>Q (x ::xs) H2
section
variable{X:Cx}{e:jS}{es:List jS}{te:TE}{t:TA}{pos:Ie}
def br:PA X [] aaX:=λ_ _ _ _ H Q I h=>Ak ([],H,I,.nil,h)
def aR(g:PE X e te)(j:PA X es t)(z:starEach (e ::es) X.env=(false,eval e X.env,) ::starEach es X.env:=by rfl):PA X (e ::es) (acu te t):=by
 intro pos pins s σ H Q I h;rw[z];change wpAny _ _ (spliced ((false,eval e X.env,) ::backTo pos (starEach es X.env))) _ _ s;show t7 (jI (g pins s σ H _ I h) λu B (x,H1,D,J,M)=>?_);show jI (j pos pins B σ H1 _ D M) λus Y (xs,H2,N,O,U)=>(x ::xs,H2,N,.cons J O,U)
abbrev agt(t:TA):TE:=λσ H Q=>t σ H λxs H1=>↑xs<=sizeLine/\∀p,H1 p=none->Q (.ref p) (upd H1 p (.tup xs))
abbrev afv(t:TA):TE:=λσ H Q=>t σ H λxs H1=>↑xs<=sizeLine/\∀p,H1 p=none->Q (.ref p) (upd H1 p (.lst xs))
def mx{B}(h:PA X es t):PE X (.Tuple es B pos) (agt t):=by
 intro pins s σ H Q I D;show wpAny_Tuple_spliced (jI (h pos pins s σ H _ I D) λus g (xs,H1,j,r,z,q)=>(by rw[←r.length];show z,?_));have J:H1 g.heap.objs.size=none:=j.gV.fresh (aT _);show(.ref g.heap.objs.size,upd H1 g.heap.objs.size (.tup xs),j.laid (t':=g.toks) (λb u e=>bE _ e) (aT _) ?_,rfl,q _ J);show(z,us,r,(_,cZ _ rfl,rfl,_,rfl))
def gS(h:PA X es t):PE X (.List es pos) (afv t):=by
 intro pins s σ H Q I B;show wpAny_List_spliced (jI (h pos pins s σ H _ I B) λus g (xs,H1,j,r,z,q)=>(by rw[←r.length];show z,?_));have D:H1 g.heap.objs.size=none:=j.gV.fresh (aT _);show(.ref g.heap.objs.size,upd H1 g.heap.objs.size (.lst xs),j.laid (t':=g.toks) (λb u e=>bE _ e) (aT _) ?_,rfl,q _ D);show(z,us,0,r,cZ _ rfl)
end
meta abbrev Sp:=List V->Hp->VK->XK->Prop
meta abbrev CXT:=List S9->Hp->b9->XK->bM->b9->Prop
structure Uj(P:fm)(w:e_)(K:bj)(mg:bV->Option bM)(base:jj)(A:t5)(outer:List S9)(s:b9)(H:Hp):Prop where
 frames:A.frames=some outer
 mod:Mod K mg base
 bs:∀b o,base.get? b=some o->s.heap.get? b=some o/\H b=none
 bsz:base.objs.size<=s.heap.objs.size
 LN:s.heap.FunFrames base outer
 frf:∀b∈Yd outer,H b=none
 gV:Ew P w H s.heap
 bare:FK s.gens
abbrev CE(outer:List S9)(P:fm)(w:e_)(H:Hp)(s:b9)(Q:VK)(u:bM)(s':b9):Prop:=
 ∃v H',s'.os=s.os/\FK s'.gens/\Un (Yd outer) [] H H' s.heap s'.heap/\Ew P w H' s'.heap/\RelV v u/\Q v H'
abbrev CR(CX:CXT)(outer:List S9)(P:fm)(w:e_)(H:Hp)(s:b9)(Q:VK)(E:XK)(r:Result)(s':b9):Prop:=
 match r with
 | .ok (.ret u)=>CE outer P w H s Q u s'
 | .ok _=>False
 | .error e=>CX outer H s E e s'
structure gu(P:fm)(w:e_)(K:bj)(mg:bV->Option bM)(base:jj)(CX:CXT)(k:Nat)(f:aW)(fd:bX)(ps:List bV)(sp:Sp):Prop where
 len:∀vs H Q E,sp vs H Q E->↑vs=↑ps
 run:∀(A:t5) (outer:List S9) (s:b9) (H:Hp) (args:Args) (us:List bM) (vs:List V) (Q:VK) (E:XK),vT k A->Uj P w K mg base A outer s H->Rm s fd args (ps.zip us)->Vals vs us->sp vs H Q E->
  codeAny (model P w) A (.call (.ref f) args) (CR CX outer P w H s Q E) s
def Uj.make{K:bj}(e:Uj P w K mg base A outer s H)(C:aW)(us:List bM)(g:List (bV×bM)):
 Uj P w K mg base (A.under (.builtin "type.__call__" (.ref C ::us,g))) outer s H:=⟨by first|show e.frames|(simpa [Jy,Code.envs,JC,pushEnvs] using e.frames),e.mod,e.bs,e.bsz,e.LN,e.frf,e.gV,e.bare⟩
section
variable{X:Cx}{pins:List (aW×uG)}{σ:St}{H:Hp}{s s':b9}
def Inv.ag7(I:Inv X pins σ H s):Uj X.prog X.w X.K X.mg X.base X.A X.stack s H:=
 (I.ok.frames,I.ok.mod,I.bs,cJ I.ok.bsz I.sz,I.stack,I.U_,I.gV,I.bare)
def Inv.after(I:Inv X pins σ H s)(h:CE X.stack X.prog X.w H s Q u s'):EP X pins σ Q u s':=by
 let(v,H',os,bare,un,gV,r,q):=h;let(B,g,d,t,j):=s';obtain rfl:j=s.os:=os;show(v,H',I.call (h':=B) (g':=g) (d':=d) (t':=t) (ch:=[]) un gV bare (λb z=>absurd z ⋯),r,q)
end
abbrev Vo(sp:Sp)(aw:List V)(E:XK)(t:TA):TE:=λσ H Q=>t σ H λvs H1=>sp (vs++aw) H1 Q E
abbrev Yx(C:aW)(m:bV)(sp:Sp)(aw:List V)(E:XK)(ta:TE)(t:TA):TE:=λσ H Q=>ta σ H λx H1=>kR x λa=>(∃dx fs,H1 a=some (.ins C dx fs)/\fs.lookup m=none)/\
 t σ H1 λvs H2=>sp (x ::(vs++aw)) H2 Q E
abbrev Zo(C:aW)(sp:Sp)(aw:List V)(E:XK)(t:TA):TE:=λσ H Q=>t σ H λvs H1=>∀x dx,H1 x=none->H1 dx=none->dx≠x->
 sp (.ref x ::(vs++aw)) (upd (upd H1 dx (.own x)) x (.ins C dx [])) (λv H2=>v= .vI/\Q (.ref x) H2) E
abbrev Binds(K:bj)(fd:bX)(ps:List bV)(ds:List bM):Prop:=
 ∀(s:b9) (us:List bM),K.In s.heap->↑(us++ds)=↑ps->Rm s fd (us,[]) (ps.zip (us++ds))
def Binds.all{K:bj}(h:∀us:List bM,↑us=↑ps->bindArgs fd (us,[])=pure (ps.zip us)):Binds K fd ps []:=λs us _ g=>by
 rw[fL] at g ⊢;show .of_eq (h us g)
abbrev Passes(CX:CXT)(X:Cx)(E:XK):Prop:=∀(pins:List (aW×uG)) (σ:St) (H:Hp) (s:b9) (e:bM) (s':b9),Inv X pins σ H s->CX X.stack H s E e s'->X.xe e s'
section
variable{X:Cx}{CX:CXT}{k:Nat}{f C:aW}{fd:bX}{ps:List bV}{sp:Sp}{aw:List V}{ds:List bM}{E:XK}{x m:bV}{p pos ai:Ie}{e o:jS}{es:List jS}{ta:TE}{t:TA}
def Rg(F:gu X.prog X.w X.K X.mg X.base CX k f fd ps sp)(z:vT k X.A)(B:Binds X.K fd ps ds)(hd:Vals aw ds)(hx:Passes CX X E)
  (I:Inv X pins σ H s)(r:Vals vs us)(h:sp (vs++aw) H Q E):wpAny (model X.prog X.w) X.A (call (.ref f) us) (EP X pins σ Q) X.xe s:=by
 have j:Vals (vs++aw) (us++ds):=r.append hd;have D:↑(us++ds)=↑ps:=by rw[←j.length];show F.len _ _ _ _ h
 show wpAny_call (C0 (F.run X.A X.stack s H (us,[]) (us++ds) (vs++aw) Q E z I.ag7 (B s us I.NX D) j h) λr s' g=>?_)
 cases r with
 |error e=>show hx pins σ H s e s' I g
 |ok J=>
  cases J with
  |ret u=>show I.after g
  |next=>show fj g
  |brk=>show fj g
  |cont=>show fj g
def fJ(F:gu X.prog X.w X.K X.mg X.base CX k f fd ps sp)(B:vT k X.A)(D:Gl X x)(J:X.mg x=some (.ref f))(M:vj X.K (.ref f)=true)(N:Binds X.K fd ps ds)(hd:Vals aw ds)(hx:Passes CX X E)
  (O:PA X (e ::es) t)(g:(x==("__debug__" :bV))=false:=by decide)(U:starEach (e ::es) X.env=(false,eval e X.env,) ::starEach es X.env:=by rfl)(j:(backTo pos (starEach es X.env)).any (·.1)=false:=by rfl):
  PE X (.Call (.Name x p) (e ::es) [] pos) (Vo sp aw E t):=by
 intro pins s σ H Q I h;show ox (Mm I D J ?_ g);show t6 (h₀:=X.base) I.ok.mod.kin M (jI (O pos pins s σ H _ I h) λus Y (vs,H1,z,r,q)=>(z.NX,?_)) U j;show Rg F B N hd hx z r q
def dI(J:PE X o ta)(c:JV X.K C)(j:Meth X.K C m f)(F:gu X.prog X.w X.K X.mg X.base CX k f fd ps sp)(M:vT k X.A)(N:Binds X.K fd ps ds)(hd:Vals aw ds)(hx:Passes CX X E)(O:PA X (e ::es) t)
  (ag:starEach (e ::es) X.env=(false,eval e X.env,) ::starEach es X.env:=by rfl)(g:(backTo pos (starEach es X.env)).any (·.1)=false:=by rfl)
  (U:eval (.Call (.Attribute o m ai) (e ::es) [] pos) X.env=(do
   let z ←eval o X.env
   standAt ai.atName
   let(f,first,) ←holding [z] (getMethod z m pl)
   callWith pos f first (backTo pos (starEach (e ::es) X.env)) (backToKw pos (keywordEach [] X.env))):=by rfl):
  PE X (.Call (.Attribute o m ai) (e ::es) [] pos) (Yx C m sp aw E ta t):=by
 intro pins s σ H Q I h;show vM (pl:=pl) (jI (J pins s σ H _ I h) λu Y (x,H1,B,Z,q)=>?_) U;let(a,ex,(dx,fs,ea,l),q):=qF q;subst ex;obtain rfl:u=f7 a:=Z;show Mz B ea c j l ?_;show t6 (first:=[.ref a]) (h₀:=X.base) I.ok.mod.kin j.kp (jI (O pos pins Y σ H1 _ B q) λus s2 (vs,H2,D,r,q2)=>(D.NX,?_)) ag g;show Rg (us:= .ref a ::us) (vs:= .ref a ::vs) F M N hd hx D (.cons rfl r) q2
def oz(B:PE X o ta)(c:JV X.K C)(j:Meth X.K C m f)(F:gu X.prog X.w X.K X.mg X.base CX k f fd ps sp)(D:vT k X.A)(J:Binds X.K fd ps ds)(hd:Vals aw ds)(hx:Passes CX X E)
  (M:eval (.Call (.Attribute o m ai) [] [] pos) X.env=(do
   let z ←eval o X.env
   standAt ai.atName
   let(f,first,) ←holding [z] (getMethod z m pl)
   callWith pos f first (backTo pos (starEach [] X.env)) (backToKw pos (keywordEach [] X.env))):=by rfl):
  PE X (.Call (.Attribute o m ai) [] [] pos) (Yx C m sp aw E ta aaX):=by
 intro pins s σ H Q I h;show vM (pl:=pl) (jI (B pins s σ H _ I h) λu U (x,H1,g,N,q)=>?_) M;let(a,ex,(dx,fs,O,l),q):=qF q;subst ex;obtain rfl:u=f7 a:=N;show Mz g O c j l ?_;show Gm (first:=[.ref a]) g.NX j.kp (Rg (us:=[.ref a]) (vs:=[.ref a]) F D J hd hx g (.cons rfl .nil) q)
structure Mk(K:bj)(C f:aW):Prop where
 makes:LQ K C=true
 init:jT K (.ref C) "__init__" =some (some (.ref f))
 fn:Jw K (.ref f)=true
 kp:vj K (.ref C)=true
def RB(M:Mk X.K C f)(F:gu X.prog X.w X.K X.mg X.base CX k f fd ps sp)(D:vT (k+1) X.A)(J:Binds X.K fd ps ds)(hd:Vals aw ds)
  (hx:Passes CX X E)(I:Inv X pins σ H s)(r:Vals vs us)
  (h:∀x dx,H x=none->H dx=none->dx≠x->sp (.ref x ::(vs++aw)) (upd (upd H dx (.own x)) x (.ins C dx [])) (λv H2=>v= .vI/\Q (.ref x) H2) E):
  wpAny (model X.prog X.w) X.A (call (.ref C) us) (EP X pins σ Q) X.xe s:=by
 have z:=h (s.heap.objs.size+1) s.heap.objs.size (I.gV.fresh (Nat.le_succ _)) (I.gV.fresh (aT _)) (fu (qD _));have j:=Inv.made (C:=C) I;have B:Vals (V.ref (s.heap.objs.size+1) ::(vs++aw)) (f7 (s.heap.objs.size+1) ::(us++ds)):= .cons rfl (r.append hd)
 have N:↑(f7 (s.heap.objs.size+1) ::us++ds)=↑ps:=by
  have e:=↑B;rw[F.len _ _ _ _ z] at e;show e.symm
 show wpAny_call (ZN (f:=f) I.NX M.makes M.init (beq_iff_eq.mp M.fn) (C0 (F.run _ X.stack _ _ (f7 (s.heap.objs.size+1) ::us,[]) (f7 (s.heap.objs.size+1) ::(us++ds)) _ _ E (D.make C us [])
  (j.ag7.make C us []) (J _ (f7 (s.heap.objs.size+1) ::us) j.NX N) B z) λr s' g=>?_))
 cases r with
 |error e=>show hx pins σ _ _ e s' j g
 |ok O=>
  cases O with
  |ret u=>
   let(v,H',U,rv,ev,Y):=j.after g;subst ev;show(rv,(V.ref (s.heap.objs.size+1),H',U,rfl,Y))
  |next=>show fj g
  |brk=>show fj g
  |cont=>show fj g
def x_(M:Mk X.K C f)(F:gu X.prog X.w X.K X.mg X.base CX k f fd ps sp)(B:vT (k+1) X.A)(D:Gl X x)(J:X.mg x=some (.ref C))(N:Binds X.K fd ps ds)(hd:Vals aw ds)(hx:Passes CX X E)
  (O:PA X (e ::es) t)(g:(x==("__debug__" :bV))=false:=by decide)(U:starEach (e ::es) X.env=(false,eval e X.env,) ::starEach es X.env:=by rfl)(j:(backTo pos (starEach es X.env)).any (·.1)=false:=by rfl):
  PE X (.Call (.Name x p) (e ::es) [] pos) (Zo C sp aw E t):=by
 intro pins s σ H Q I h;show ox (Mm I D J ?_ g);show t6 (h₀:=X.base) I.ok.mod.kin M.kp (jI (O pos pins s σ H _ I h) λus Y (vs,H1,z,r,q)=>(z.NX,?_)) U j;show RB M F B N hd hx z r q
def MZ(M:Mk X.K C f)(F:gu X.prog X.w X.K X.mg X.base CX k f fd ps sp)(j:vT (k+1) X.A)(z:Gl X x)(B:X.mg x=some (.ref C))(D:Binds X.K fd ps ds)(hd:Vals aw ds)(hx:Passes CX X E)
  (g:(x==("__debug__" :bV))=false:=by decide):PE X (.Call (.Name x p) [] [] pos) (Zo C sp aw E aaX):=by
 intro pins s σ H Q I h;show ox (Mm I z B ?_ g);show Gm I.NX M.kp (RB (us:=[]) M F j D hd hx I .nil h)
end
structure cH(N P:List bV)(g:E8):Prop where
 kind:g.kind= .function
 co:g.isCoroutine=false
 gen:g.isGenerator=false
 nd:N.Nodup
 pre:N.take ↑P=P
 par:∀x∈P,g.names.lookup x=some .local\/g.names.lookup x=some .cell
 adp:∀y∈g.names,y.2≠ .free
def O2{kindOf:bV->Option lA}:∀{binds:List (bV×bM)} {m:bV->Option bM},(∀v,(x,v,)∉binds)->bindL kindOf binds m x=m x
 |[],_,_=>rfl
 |(n,v,) ::r,m,h=>by
  unfold bindL;rw[O2 λw g=>h w (aZ _ g)]
  split
  ·have:x≠n:=by rintro rfl;show h v bg
   simp[this]
  ·rfl
def Pw{kindOf:bV->Option lA}:∀{binds:List (bV×bM)} {m:bV->Option bM},(∀v,(x,v,)∉binds)->bindC kindOf binds m x=m x
 |[],_,_=>rfl
 |(n,v,) ::r,m,h=>by
  unfold bindC;rw[Pw λw g=>h w (aZ _ g)]
  split
  ·rfl
  ·have:x≠n:=by rintro rfl;show h v bg
   simp[this]
def OL{kindOf:bV->Option lA}:∀{P:List bV} {vs:List bM} {i:Nat} {m:bV->Option bM},P.Nodup->P[i]? =some x->vs[i]? =some v->kindOf x=some .local->
  bindL kindOf (P.zip vs) m x=some v
 |[],_,_,_,_,h,_,_=>by simp at h
 |_ ::_,[],_,_,_,_,h,_=>by simp at h
 |p ::P,w ::vs,0,m,nd,h1,h2,g=>by
  simp at h1 h2;subst h1;subst h2;change bindL kindOf ((p,w,) ::P.zip vs) m p=_;unfold bindL;rw[O2 λv j=>(kf.mp nd).1 (Dq j).1,h9 g];simp
 |p ::P,w ::vs,i+1,m,nd,h1,h2,g=>by
  change bindL kindOf ((p,w,) ::P.zip vs) m x=_;unfold bindL;show OL (i:=i) (kf.mp nd).2 (by simpa using h1) (by simpa using h2) g
def Pu{kindOf:bV->Option lA}:∀{P:List bV} {vs:List bM} {i:Nat} {m:bV->Option bM},P.Nodup->P[i]? =some x->vs[i]? =some v->kindOf x≠some .local->
  bindC kindOf (P.zip vs) m x=some v
 |[],_,_,_,_,h,_,_=>by simp at h
 |_ ::_,[],_,_,_,_,h,_=>by simp at h
 |p ::P,w ::vs,0,m,nd,h1,h2,g=>by
  simp at h1 h2;subst h1;subst h2;change bindC kindOf ((p,w,) ::P.zip vs) m p=_;unfold bindC;rw[Pw λv j=>(kf.mp nd).1 (Dq j).1,h8 g];simp
 |p ::P,w ::vs,i+1,m,nd,h1,h2,g=>by
  change bindC kindOf ((p,w,) ::P.zip vs) m x=_;unfold bindC;show Pu (i:=i) (kf.mp nd).2 (by simpa using h1) (by simpa using h2) g
abbrev start(N:List bV)(vs:List V):St:=vs.map some++bq (↑N - ↑vs) none
abbrev Uv(CX:CXT)(P:fm)(w:e_)(K:bj)(mg:bV->Option bM)(base:jj)(N:List bV)(qual:bV)(scope:E8)(f:aW)(j:bM)(A:t5)(outer:List S9)(s:b9)(H:Hp)(E:XK):Cx where
 prog:=P
 w:=w
 K:=K
 mg:=mg
 base:=base
 A:=A.deeper (envOfC qual scope s.heap.objs.size f j)
 N:=N
 s_0:=s
 H_0:=H
 env:=envOfC qual scope s.heap.objs.size f j
 outer:=outer
 stack:=envOfC qual scope s.heap.objs.size f j ::outer
 ex:=[]
 calm:=true
 fn:=λ_=>true
 pn:=[]
 xe:=λe s'=>wpAny (model P w) (A.deeper (envOfC qual scope s.heap.objs.size f j)) (leaving (envOfC qual scope s.heap.objs.size f j) e) (λ_ g=>CX outer H s E e g) (λz g=>CX outer H s E z g) s'
def RP{g:E8}(h:g.names.lookup x=some .cell):∃c,(cellsFrom n g.names []).lookup x=some c:=by
 have q:=C1 g.names n [] (.inl h);show Bc.mp q
def WW{K:bj}
  (S:cH N ps scope)(hd:A.handled=none)(g:Uj P w K mg base A outer s H)(Y:↑vs=↑ps)(r:Vals vs us)
  (x:InCallC s s.heap.objs.size (bindL (envOfC qual scope s.heap.objs.size f M).kindOf (ps.zip us) λ_=>none) (cellsFrom (s.heap.objs.size+1) scope.names []) (bindC (envOfC qual scope s.heap.objs.size f M).kindOf (ps.zip us) λ_=>none) s1):
  Inv (Uv CX P w K mg base N qual scope f M A outer s H E) [] (start N vs) H s1:=by
 have Q:↑ps<=↑N:=by have:=congrArg iw S.pre;rw[cK] at this;lia
 let(h1,tk,rfl,O):=x.done;have j:∀b:aW,b∉(Uv CX P w K mg base N qual scope f M A outer s H E).ex:=λb z=>absurd (show b∈([]:List aW) from z) ⋯
 show((g.mod,S.kind,rfl,rfl,aT _,λy z c h1 h2=>?_,λy B=>?_,λy c _ h=>?_,λ_=>hd,Around.frames_deeper g.frames,.inr (rfl,rfl),λb z=>absurd z (j b),g.bs,g.bsz,λb _ _=>j b,λb z=>absurd z (j b),g.LN,g.frf),
  rfl,g.bare,Un.kept O,(_,x.toInCall.ns,λi y v h1 h2 Z=>?_),λy c h=>(_,x.cell y c h),g.gV.fresh (aT _),λy c h=>?_,λp D=>absurd (show p∈([]:List (aW×uG)) from D) ⋯,g.gV.kept O,?_)
 ·show name_of_addr x.apart (dJ h1) (dJ h2)
 ·have B:scope.names.lookup y=some .cell\/scope.names.lookup y=some .free:=B;rcases B with B|B
  ·show RP B
  ·show absurd rfl (S.adp _ (dJ B))
 ·show iI (x.above y c (dJ h))
 ·have hi:i < ↑vs:=by
    unfold start at h2
    by_cases hi:i < ↑vs
    ·show hi
    ·rw[cX (by simpa using hi)] at h2;rw[dY] at h2
     split at h2 <;> cases h2
  have U:vs[i]? =some v:=by
   unfold start at h2;rw[eU (by simpa using hi),dA] at h2
   cases e:vs[i]? with
   |none=>rw[e] at h2;cases h2
   |some a=>rw[e] at h2;cases h2;rfl
  let(u,hu,rv):=r.get U
  have D:ps[i]? =some y:=by
   rw[←S.pre,List.getElem?_take_of_lt (by lia)];show h1
  have J:ps.Nodup:=by rw[←S.pre];show S.nd.sublist (List.take_sublist _ _)
  show(u,rv,?_);rcases S.par y (bJ D) with k|k
  ·show .inl (k,OL J D hu k)
  ·let(c,e):=RP (n:=s.heap.objs.size+1) k;show .inr (.inl k,c,e,?_);have q:=x.cell y c e;rw[Pu J D hu (by change scope.names.lookup y≠_;rw[k];decide)] at q;show q
 ·show g.gV.fresh (iI (x.above y c (dJ h)))
 ·unfold start;change _=↑N;rw[aY,aQ,fz];lia
def afl{K:bj}{Z kV doc pm g ct oc:bM}
 (lk:K.lookup f=some (oc,od,.func (CT name qual params body scope Z kV doc pm an g ct),ah))(U:NN K g qual=true)(S:cH N ps scope)
   (len:∀vs H Q E,sp vs H Q E->↑vs=↑ps)
   (j:∀(A:t5) (outer:List S9) (s:b9) (H:Hp) (vs:List V) (Q:VK) (E:XK),vT k (A.deeper (envOfC qual scope s.heap.objs.size f g))->sp vs H Q E->
    ∃t,Xh (Uv CX P w K mg base N qual scope f g A outer s H E) body t/\t {nx:=λ_ H'=>Q .vI H',rt:=Q} (start N vs) H):
   gu P w K mg base CX (k+1) f (CT name qual params body scope Z kV doc pm an g ct) ps sp:=by
  show(len,λA outer s H args us vs Q E Y D hb r M=>?_);have hl:=len _ _ _ _ M;have KX:K.In s.heap:=D.mod.kin.keeps λb o e=>(D.bs b o e).1;have lim:s.heap.NoLimit:=D.mod.nolimit.keeps λb o e=>(D.bs b o e).1
  have z:∀y∈ps.zip us,scope.names.lookup y.1=some .local\/(scope.names.lookup y.1=some .cell/\((cellsFrom (s.heap.objs.size+1) scope.names []).lookup y.1).isSome=true):=λ(n,v) hy=>by
   rcases S.par n (Dq hy).1 with q|q
   ·show .inl q
   ·show .inr (q,C1 _ _ _ (.inl q))
  show codeAny_call_function Y.depth (KX _ _ lk) rfl S.co S.gen rfl (PySem.W.codeRec_of KX U) (hb _ _ _ _ ?_);show wpAny_newFunctionEnv_cells S.kind z λenv he s1 x=>?_;subst he;show(lim.keeps x.toInCall.keep,codeAny_func ?_);let(t,ht,hq):=j A outer s H vs Q E (Y.deeper _) M;have I:Inv (Uv CX P w K mg base N qual scope f g A outer s H E) [] (start N vs) H s1:=WW S Y.hd D hl r x;show ja (ht [] s1 (start N vs) H _ I hq) (λfl s' B=>?_) λe s' B=>B
  have fin:∀{O:St} {H':Hp} {v:V} {u:bM},Inv (Uv CX P w K mg base N qual scope f g A outer s H E) [] O H' s'->RelV v u->Q v H'->CE outer P w H s Q u s':=
   λ{O H' v u} J rv q=>(v,H',J.os,J.bare,J.base,J.gV,rv,q)
  cases fl with
  |ret u=>
   obtain⟨v,O,H',J,rv,q⟩:=B;show fin J rv q
  |next=>
   obtain⟨O,H',J,q⟩:=B;show fin (v:=V.vI) (u:=CS) J rfl q
  |brk=>
   let(_,_,_,q):=B;show fj q
  |cont=>
   let(_,_,_,q):=B;show fj q
section
variable{X:Cx}{x:bV}{p pos:Ie}{e:jS}{es:List jS}{t:TA}{id T:String}{r:List V->Hp->VK->Prop}
abbrev tCB(r:List V->Hp->VK->Prop)(t:TA):TE:=λσ H Q=>t σ H λvs H1=>r vs H1 Q
def ig(z:Ox X (.builtin id) r)(B:Gl X x)(D:X.mg x=none)(J:bootBuiltins x=some (.builtin id))(M:PA X (e ::es) t)(N:x≠"__name__" :=by decide)(g:(x==("__debug__" :bV))=false:=by decide)
  (O:starEach (e ::es) X.env=(false,eval e X.env,) ::starEach es X.env:=by rfl)(j:(backTo pos (starEach es X.env)).any (·.1)=false:=by rfl):PE X (.Call (.Name x p) (e ::es) [] pos) (tCB r t):=by
 intro pins s σ H Q I h;show ox (HG I B D J ?_ N g);show K7 (jI (M pos pins s σ H _ I h) λus U (vs,H1,Y,Z,q1)=>z pins U σ H1 vs us Q Y Z q1) O j
def Xc(z:Ox X (.type T) r)(B:Gl X x)(D:X.mg x=none)(J:bootBuiltins x=some (.type T))(M:PA X (e ::es) t)(N:x≠"__name__" :=by decide)(g:(x==("__debug__" :bV))=false:=by decide)
  (O:starEach (e ::es) X.env=(false,eval e X.env,) ::starEach es X.env:=by rfl)(j:(backTo pos (starEach es X.env)).any (·.1)=false:=by rfl):PE X (.Call (.Name x p) (e ::es) [] pos) (tCB r t):=by
 intro pins s σ H Q I h;show ox (HG I B D J ?_ N g);show gX (jI (M pos pins s σ H _ I h) λus U (vs,H1,Y,Z,q1)=>z pins U σ H1 vs us Q Y Z q1) O j
end
end L2
namespace HT
open PySem PyProof.Rows
section
variable{prog:fm}{w:e_}{A:t5}{E:bM->b9->Prop}{s:b9}
abbrev PU(n d:Nat):Option Int->Nat
 |none=>d
 |some v=>if v < 0 then(v+(n:Int)).toNat else min v.toNat n
def Yp(n d:Nat):PU n d none=d:=rfl
def abb(n d k:Nat):PU n d (some (k:Int))=min k n:=by
 change(if (k:Int) < 0 then((k:Int)+(n:Int)).toNat else min (k:Int).toNat n)=min k n;rw[h8 (by lia),bP]
end
end HT
namespace L2
open PySem PySem.Spec PyProof.Rows
meta abbrev TO:=St->Hp->(Option Int->Hp->Prop)->Prop
abbrev PO(X:Cx)(e:Option jS)(t:TO):Prop:=
 ∀(pins:List (aW×uG)) (s:b9) (σ:St) (H:Hp) (Q:Option Int->Hp->Prop),Inv X pins σ H s->t σ H Q->
  wpAny (model X.prog X.w) X.A (evalPart e X.env) (λu s'=>∃o H',Inv X pins σ H' s'/\IsPart u o/\Q o H') X.xe s
abbrev V1:TO:=λ_ H Q=>Q none H
abbrev acs(t:TE):TO:=λσ H Q=>t σ H λx H1=>kI x λi=>Q (some i) H1
section
variable{X:Cx}{e:jS}{te:TE}{lo hi:Option jS}{tl th:TO}{pos p2:Ie}
def aa2:PO X none V1:=by
 intro pins s σ H Q I h;rw[evalPart_none];show dF (none,H,I,.none,h)
def IS(h:PE X e te):PO X (some e) (acs te):=by
 intro pins s σ H Q I hw;rw[evalPart_some];show jI (h pins s σ H _ I hw) λu B (x,H1,g,j,z)=>?_;let(i,rfl,q):=pY z;let(t,rfl):=j;show(some i,H1,g,.int i t,q)
abbrev SlR(X:Cx)(r:V->Option Int->Option Int->Hp->VK->Prop):Prop:=
 ∀(pins:List (aW×uG)) (s:b9) (σ:St) (H:Hp) (x:V) (v g j:bM) (lo hi:Option Int) (z:aW) (Q:VK),Inv X pins σ H s->RelV x v->s.heap.IsSliceOf z g j .none->IsPart g lo->IsPart j hi->r x lo hi H Q->
  ∃T id,typeLookup (.type T) "__getitem__" =pure (some (.builtin id))/\s.TypeIs v T/\wpAny (model X.prog X.w) X.A (getItem v (.ref z)) (EP X pins σ Q) X.xe s
abbrev tSl(r:V->Option Int->Option Int->Hp->VK->Prop)(te:TE)(tl th:TO):TE:=λσ H Q=>te σ H λx H1=>tl σ H1 λl H2=>th σ H2 λu g=>r x l u g Q
def M0(D:SlR X r)(J:PE X e te)(M:PO X lo tl)(hu:PO X hi th):PE X (.Subscript e (.Slice lo hi none p2) pos) (tSl r te tl th):=by
 intro pins s σ H Q I h;show NT (jI (J pins s σ H _ I h) λv N (x,H1,O,U,Y)=>?_);show wpAny_Slice (jI (M pins N σ H1 _ O Y) λj Z (l,H2,I2,pl,q2)=>jI (hu pins Z σ H2 _ I2 q2) λz g (u,B,I3,pu,q3)=>?_);rw[evalPart_none];show dF ?_;have I4:Inv X pins σ B {g with heap:=g.heap.push {cls:= .type "slice",data:= .fields #[j,z,.none]}}:=I3.kept (t':=g.toks) λb ob q=>bE _ q;let(T,id,hT,ht,hg):=D pins {g with heap:=g.heap.push {cls:= .type "slice",data:= .fields #[j,z,.none]}} σ B x v j z l u g.heap.objs.size Q I4 U (U4 ..) pl pu q3;change wpAny (model X.prog X.w) X.A (subscriptTail e (.Slice lo hi none p2) v (.ref g.heap.objs.size)) (EP X pins σ Q) X.xe {g with heap:=g.heap.push {cls:= .type "slice",data:= .fields #[j,z,.none]}};show tail_any (ops:=[.ref g.heap.objs.size,v]) ht hT hg (by with_unfolding_all rfl)
abbrev LA(xs:List V)(lo hi:Option Int):List V:=(xs.drop (HT.PU ↑xs 0 lo)).take (HT.PU ↑xs ↑xs hi - HT.PU ↑xs 0 lo)
def RM(xs:List V)(lo hi:Option Int):↑(LA xs lo hi)<=↑xs:=by
 unfold LA;rw[cK,gN];lia
end
abbrev WM(n:Nat)(i:Int):Option Nat:=if 0<=i then(if i < n then some i.toNat else none) else if -(n:Int)<=i then some (i+n).toNat else none
abbrev P8{α:Type}(xs:List α)(i:Int):Option α:=(WM ↑xs i).bind λj=>xs[j]?
def Vp(h:WM n i=some j):seqIndex? i n=some j/\j < n/\-(n:Int)<=i/\i < n:=by
 unfold WM at h
 by_cases h0:0<=i
 ·rw[h9 h0] at h
  by_cases h1:i < n
  ·rw[h9 h1] at h;have e:i.toNat=j:=bQ h;show(by rw[Lu h0 h1,e],by lia,by lia,h1)
  ·rw[h8 h1] at h;cases h
 ·rw[h8 h0] at h
  by_cases h1:-(n:Int)<=i
  ·rw[h9 h1] at h;have e:(i+n).toNat=j:=bQ h;show(by rw[JI (by lia) h1,e],by lia,h1,by lia)
  ·rw[h8 h1] at h;cases h
def Vk(h:P8 xs i=some v):∃j,seqIndex? i ↑xs=some j/\xs[j]? =some v/\j < ↑xs/\-(↑xs:Int)<=i/\i < ↑xs:=by
 unfold P8 at h
 cases e:WM ↑xs i with
 |none=>rw[e] at h;cases h
 |some j=>
  rw[e] at h;let(h1,h2,g,z):=Vp e;show(j,h1,h,h2,g,z)
def Jc{xs:List α}{j:Nat}{v:α}(h:xs[j]? =some v):P8 xs (j:Int)=some v:=by
 have g:j < ↑xs:=(aX.mp h).1
 have e:WM ↑xs (j:Int)=some j:=by
  unfold WM;rw[h9 (by lia),h9 (by lia)];simp
 unfold P8;rw[e];show h
abbrev abk(b:jS):Prop:=∀o i,subscripted b false o i=operate [o,i] (getItem o i)
abbrev IxR(X:Cx)(r:R2):Prop:=
 ∀(value slice:jS) (pins:List (aW×uG)) (s:b9) (σ:St) (H:Hp) (x y:V) (v u:bM) (Q:VK),Inv X pins σ H s->RelV x v->RelV y u->r x y H Q->
  subscripted slice false v u=operate [v,u] (getItem v u)->wpAny (model X.prog X.w) X.A (subscriptTail value slice v u) (EP X pins σ Q) X.xe s
abbrev MtR(X:Cx)(id:String)(r:V->List V->Hp->VK->Prop):Prop:=
 ∀(pins:List (aW×uG)) (s:b9) (σ:St) (H:Hp) (x:V) (xs:List V) (v:bM) (us:List bM) (Q:VK),Inv X pins σ H s->RelV x v->Vals xs us->r x xs H Q->
  wpAny (model X.prog X.w) X.A (call (.builtin id) (v ::us)) (EP X pins σ Q) X.xe s
section
variable{X:Cx}{a b:jS}{ta tb:TE}{pos:Ie}
def dQ(g:IxR X r)(j:PE X a ta)(z:PE X b tb)(B:abk b):PE X (.Subscript a b pos) (tOp r ta tb):=by
 intro pins s σ H Q I h;show NT (aeI j z I h λv u D x y H2 J M N q=>g a b pins D σ H2 x y v u Q J M N q (B _ _))
abbrev aeg(K:bj):R2:=λx y H Q=>kR x λp=>kI y λi=>∃xs,dg K H p xs/\∃v,P8 xs i=some v/\Q v H
abbrev ac1(K:bj):R2:=λx y H Q=>kR x λp=>kI y λi=>∃xs,qH K H p xs/\∃v,P8 xs i=some v/\Q v H
def cC:IxR X (aeg X.K):=by
 intro value slice pins s σ H x y v u Q I N O h J;let(p,rfl,h2):=qF h;let(i,rfl,xs,U,z,Y,q):=pY h2
 cases N
 let(t,rfl):=O;let(g,r,pl,hz):=I.list U;let(j,h1,h2,h3,Z,h5):=Vk Y;let(w,M,B):=r.get h2;have hl:=↑r;have hn:=Qr;have fin:EP X pins σ Q w s:=(z,H,I,B,q)
 by_cases h0:0<=i
 ·have D:i.toNat=j:=by
    rw[Lu h0 h5] at h1;show bQ h1
  show item_listR pl.isList h0 (by lia) (by rw[D];simpa using M) fin J
 ·have D:(i+(g.toArray.size:Int)).toNat=j:=by
    rw[JI (by lia) Z] at h1;rw[cV,←hl];show bQ h1
  show C8 (x:=w) pl.isList.typeIs JS.lookup
   (wpAny_getItem_list_neg (Q:=λr s'=>r=w/\EP X pins σ Q r s') pl.isList (by lia) (by rw[cV] <;> lia) (by lia) (by rw[D];simpa using M) (rfl,fin)) J
def M8:IxR X (ac1 X.K):=by
 intro value slice pins s σ H x y v u Q I B D h J;let(p,rfl,h2):=qF h;let(i,rfl,xs,M,z,N,q):=pY h2
 cases B
 let(t,rfl):=D;let(O,r,pl,Z):=I.tuple M;let(j,h1,h2,h3,h4,h5):=Vk N;let(w,U,g):=r.get h2;have Y:=↑r;have hn:=Qr;have fin:EP X pins σ Q w s:=(z,H,I,g,q)
 show C8 (x:=w) pl.typeIs slot_tuple_getitem.lookup
  (getItem_tuple (j:=j) (Q:=λr s'=>r=w/\EP X pins σ Q r s') pl (by lia) (by lia) (by rw[cV,←Y];show h1) (by simpa using U) (rfl,fin)) J
def T_(g:List bM)(n j:Nat)(u:bM):CV (·.setIfInBounds j u) {cls:= .type "list",data:= .seq g.toArray n} ={cls:= .type "list",data:= .seq (g.set j u).toArray n}:=by
 simp[CV]
def Inv.lst(I:Inv X pins σ H s)(h:H p=some (.lst xs)):
  ∃(g:List bM) (n:Nat),Vals xs g/\s.heap.get? p=some {cls:= .type "list",data:= .seq g.toArray n}/\↑xs<=sizeLine:=by
 let(z,g,n,r,e):=I.gV p _ h;show(g,n,r,e,z)
def Inv.aeS{g its':List bM}(I:Inv X pins σ H s)(h:H p=some (.lst xs))
  (z:s.heap.get? p=some {cls:= .type "list",data:= .seq g.toArray n})(j:f {cls:= .type "list",data:= .seq g.toArray n} ={cls:= .type "list",data:= .seq its'.toArray n'})(r:Vals ys its')(B:↑ys<=sizeLine)(t:Nat):
  Inv X pins σ (upd H p (.lst ys)) {s with heap:=s.heap.update p f,toks:=t}:=by
 have e:(s.heap.update p f).get? p=some {cls:= .type "list",data:= .seq its'.toArray n'}:=by
  rw[DX f z (by rw[j] <;> rfl),j]
 show I.write (x:=p) (e:=p) (by rw[h];trivial) (.inl rfl) (λb u D q=>(C4 _ _ (d5 D)).trans q) (_,e) ?_;show(B,its',n',r,e)
abbrev acg:V->V->V->Hp->(Hp->Prop)->Prop:=λo i v H Q=>kR o λp=>kI i λk=>∃xs,H p=some (.lst xs)/\∃j,WM ↑xs k=some j/\Q (upd H p (.lst (xs.set j v)))
def set_list:ag0 X acg:=by
 intro pins s σ H o i v ov iv u Q I U Y rv h;let(p,rfl,h2):=qF h;let(k,rfl,xs,J,j,Z,q):=pY h2
 cases U
 let(t,rfl):=Y;let(g,n,r,z,hz):=I.lst J;let(h1,h2,M,N):=Vp Z;have B:=↑r;have hn:=Qr
 have O:Inv X pins σ (upd H p (.lst (xs.set j v))) {s with heap:=s.heap.update p (CV (·.setIfInBounds j u))}:=
  I.aeS J z (T_ g n j u) (r.set rv j) (by rw[eQ];show hz) s.toks
 by_cases h0:0<=k
 ·have D:k.toNat=j:=by
    rw[Lu h0 N] at h1;show bQ h1
  show PySem.W.ki_setAt z h0 (by lia) (by rw[cV,←B];show N) (by rw[D];show(_,O,q))
 ·have D:(k+(g.toArray.size:Int)).toNat=j:=by
    rw[JI (by lia) M] at h1;rw[cV,←B];show bQ h1
  show PySem.W.ki_setBack z (by lia) (by rw[cV,←B];show M) (by lia) (by rw[D];show(_,O,q))
def QM(lo hi:Option Int)(n:Nat):(sliceBounds lo hi none n).1=((HT.PU n 0 lo:Nat):Int)/\(sliceBounds lo hi none n).2.1=((HT.PU n n hi:Nat):Int)/\(sliceBounds lo hi none n).2.2=1:=by
 show(?_,?_,rfl)
 ·cases lo with
   |none=>simp[sliceBounds,HT.PU]
   |some i=>
    simp only[sliceBounds,HT.PU,KQ,show(1:Int) > 0 by decide,if_true]
    by_cases h:i < 0
    ·simp only[h,if_true] <;> lia
    ·simp only[h,if_false] <;> lia
 ·cases hi with
   |none=>simp[sliceBounds,HT.PU]
   |some i=>
    simp only[sliceBounds,HT.PU,KQ,show(1:Int) > 0 by decide,if_true]
    by_cases h:i < 0
    ·simp only[h,if_true] <;> lia
    ·simp only[h,if_false] <;> lia
def N1(g:List bM)(lo hi:Option Int):slicePick g.toArray lo hi none=((g.drop (HT.PU ↑g 0 lo)).take (HT.PU ↑g ↑g hi - HT.PU ↑g 0 lo)).toArray:=by
 let(h1,h2,j):=QM lo hi g.toArray.size;unfold slicePick;rw[h1,h2,j];simp only[sliceRange_one,pick_run,cV] <;> rfl
abbrev age(K:bj):V->Option Int->Option Int->Hp->VK->Prop:=λx lo hi H Q=>kR x λa=>∃xs,dg K H a xs/\∀p,H p=none->Q (.ref p) (upd H p (.lst (LA xs lo hi)))
def PV:SlR X (age X.K):=by
 intro pins s σ H x v J M lo hi N Q I j z pl pu h;let(a,rfl,xs,hx,q):=qF h
 cases j
 let(B,r,g,D):=I.list hx;have hlen:=↑r;show("list",_,JS.lookup,g.isList.typeIs,?_);show wpAny_getItem_list_slice g.isList z pl pu .none ⋯ ?_ (by rw[cV] <;> lia);rw[N1,←hlen];show(.ref s.heap.objs.size,_,I.laid (t':=s.toks) (o:= .lst (LA xs lo hi)) (λb O q=>bE _ q) (aT _) ?_,rfl,q _ (I.gV.fresh (aT _)));show(cJ (RM xs lo hi) D,_,0,(r.drop (HT.PU ↑xs 0 lo)).take (HT.PU ↑xs ↑xs hi - HT.PU ↑xs 0 lo),cZ _ rfl)
abbrev z_:V->Bool
 | .vI=>true
 | .bl _=>true
 | .int _=>true
 | .str _=>true
 |_=>false
abbrev Z9:V->V->Bool
 | .vI,.vI=>true
 | .bl a,.bl b=>a==b
 | .bl a,.int b=>(if a then 1 else 0)==b
 | .int a,.bl b=>a==(if b then 1 else 0)
 | .int a,.int b=>a==b
 | .str a,.str b=>a==b
 |_,_=>false
def adV(j:RelV y u)(g:RelV x v)(B:z_ y=true)(z:z_ x=true):U6 A s u v (Z9 y x):=by
 cases y with
 |vI=>
  cases j
  cases x with
  |vI=>cases g;show SeqAt.EqAt.same _
  |bl b=>cases g;show SeqAt.EqAt.none_bool b
  |int b=>let(t,rfl):=g;show SeqAt.EqAt.none_int b t
  |str b=>let(t,rfl):=g;show SeqAt.EqAt.none_str b t
  |_=>show absurd (show false=true from z) fT
 |bl a=>
  cases j
  cases x with
  |vI=>cases g;show SeqAt.EqAt.bool_none a
  |bl b=>cases g;show SeqAt.EqAt.bool_bool a b
  |int b=>let(t,rfl):=g;show SeqAt.EqAt.bool_int a b t
  |str b=>let(t,rfl):=g;show SeqAt.EqAt.bool_str a b t
  |_=>show absurd (show false=true from z) fT
 |int a=>
  let(t',rfl):=j
  cases x with
  |vI=>cases g;show SeqAt.EqAt.int_none a t'
  |bl b=>cases g;show SeqAt.EqAt.int_bool a t' b
  |int b=>let(t,rfl):=g;show SeqAt.EqAt.int_int a t' b t
  |str b=>let(t,rfl):=g;show HS a t' b t
  |_=>show absurd (show false=true from z) fT
 |str a=>
  let(t',rfl):=j
  cases x with
  |vI=>cases g;show SeqAt.EqAt.str_none a t'
  |bl b=>cases g;show SeqAt.EqAt.str_bool a t' b
  |int b=>let(t,rfl):=g;show HR a t' b t
  |str b=>let(t,rfl):=g;show SeqAt.EqAt.str_str a t' b t
  |_=>show absurd (show false=true from z) fT
 |_=>show absurd (show false=true from B) fT
abbrev UL(x:V)(u:bM):Bool:=match u with
 | .none=>Z9 .vI x
 | .bool b=>Z9 (.bl b) x
 | .int i _=>Z9 (.int i) x
 | .str z _=>Z9 (.str z) x
 |_=>false
def Yl(r:RelV y u)(f:z_ y=true):UL x u=Z9 y x:=by
 cases y with
 |vI=>cases r;rfl
 |bl b=>cases r;rfl
 |int i=>let(t,rfl):=r;rfl
 |str z=>let(t,rfl):=r;rfl
 |_=>show absurd (show false=true from f) fT
def IH:∀{xs:List V} {us:List bM},Vals xs us->xs.all z_=true->us.any (UL x)=xs.any λy=>Z9 y x
 |_,_,.nil,_=>rfl
 |y ::xs,u ::us,.cons r t,f=>by
  rw[Ou,bf] at f;rw[iE,iE,Yl r f.1,IH t f.2]
def D9(g:RelV x v)(j:z_ x=true):∀{xs:List V} {us:List bM},Vals xs us->xs.all z_=true->∀u∈us,U6 A s u v (UL x u)
 |_,_,.nil,_=>λu hu=>by cases hu
 |y ::xs,u ::us,.cons r t,f=>λu' hu=>by
  rw[Ou,bf] at f;rcases bo.mp hu with rfl|hu
  ·rw[Yl r f.1];show adV r g f.1 j
  ·show D9 g j t f.2 u' hu
abbrev N5(x:V)(xs:List V):Bool:=xs.any λy=>Z9 y x
abbrev rIn(K:bj)(neg:Bool):R2:=λx y H Q=>kR y λp=>∃xs,(dg K H p xs\/qH K H p xs)/\z_ x=true/\xs.all z_=true/\Q (.bl (if neg then !N5 x xs else N5 x xs)) H
def oQ:DI X (compareOp .In) (rIn X.K false):=by
 intro pins s σ H x y v u Q I B J h;let(p,rfl,xs,j,D,fs,q):=qF h
 cases J
 rcases j with j|j
 ·let(g,r,pl,M):=I.list j;show SeqAt.in_listAt (UL x) pl.isList (λw z=>D9 B D r fs w (by simpa using z)) (.bl _,H,I,rfl,?_);rw[show g.toArray.any (UL x)=g.any (UL x) by simp,IH r fs];show q
 ·let(g,r,pl,M):=I.tuple j;show SeqAt.in_tupleAt (UL x) pl (λw z=>D9 B D r fs w (by simpa using z)) (.bl _,H,I,rfl,?_);rw[show g.toArray.any (UL x)=g.any (UL x) by simp,IH r fs];show q
def PK:DI X (compareOp .NotIn) (rIn X.K true):=by
 intro pins s σ H x y v u Q I B J h;let(p,rfl,xs,j,D,fs,q):=qF h
 cases J
 rcases j with j|j
 ·let(g,r,pl,M):=I.list j;show SeqAt.notIn_listAt (UL x) pl.isList (λw z=>D9 B D r fs w (by simpa using z)) (.bl _,H,I,rfl,?_);rw[show g.toArray.any (UL x)=g.any (UL x) by simp,IH r fs];show q
 ·let(g,r,pl,M):=I.tuple j;show SeqAt.notIn_tupleAt (UL x) pl (λw z=>D9 B D r fs w (by simpa using z)) (.bl _,H,I,rfl,?_);rw[show g.toArray.any (UL x)=g.any (UL x) by simp,IH r fs];show q
def ee:Ox X (.builtin "len") (λxs H Q=>k1 xs λx=>kR x λp=>∃ys,(dg X.K H p ys\/qH X.K H p ys)/\Q (.int ↑ys) H):=by
 intro pins s σ H xs us Q I r h;let(_,rfl,h2):=Pb h;let(p,rfl,ys,g,q):=qF h2;let(u,rfl,B):=vals1 r
 cases B
 have J:=Qr;rcases g with g|g
 ·let(j,z,pl,D):=I.list g;have hlen:=↑z;show Calls.call_len_list pl.isList (by simp only[cV] <;> lia) (.int ↑ys,H,I.tok _,(s.toks+1,by rw[cV,hlen]),q)
 ·let(j,z,pl,D):=I.tuple g;have hlen:=↑z;show len_tuple pl (by simp only[cV] <;> lia) (.int ↑ys,H,I.tok _,(s.toks+1,by rw[cV,hlen]),q)
abbrev tyV(K:bj)(T:String)(x:V)(H:Hp):Prop:=match x with
 | .str _=>T="str"
 | .int _=>T="int"
 | .ref p=>(T="list"/\∃xs,dg K H p xs)\/(T="tuple"/\∃o,K.lookup p=some o/\o.cls= .type "tuple"/\o.dict=none)\/
  (T="dict"/\((∃kvs,H p=some (.dK kvs))\/∃kvs,H p=some (.dT kvs)))\/(T="set"/\∃S n,H p=some (.set S n))
 |_=>False
def Yq(I:Inv X pins σ H s)(r:RelV x v)(ty:tyV X.K T x H):
  s.TypeIs v T/\∀a,v= .ref a->∃B,s.heap.get? a=some B/\B.dict=none:=by
 cases x with
 |str z=>
  let(t,rfl):=r
  cases(show T="str" from ty)
  show(typeIs_str s z t,λ_ e=>nomatch e)
 |int i=>
  let(t,rfl):=r
  cases(show T="int" from ty)
  show(NR s i t,λ_ e=>nomatch e)
 |ref p=>
  cases r
  rcases ty with⟨rfl,xs,D⟩|⟨rfl,o,g,J,hd⟩|⟨rfl,g⟩|⟨rfl,S,n,g⟩
  ·let(M,_,pl,_):=I.list D;show(pl.isList.typeIs,λa e=>?_)
   cases e
   let(o,n,e,c,hd,_):=pl;show(o,e,hd)
  ·show((o,I.NX p o g,J),λa e=>?_)
   cases e
   show(o,I.NX _ o g,hd)
  ·have z:∃o,s.heap.get? p=some o/\o.ExactDict:=by
     rcases g with⟨kvs,g⟩|⟨kvs,g⟩
     ·let(_,_,_,_,o,_,_,e,ex,_):=I.gV p _ g;show(o,e,ex)
     ·let(_,_,_,_,o,_,_,e,ex,_):=I.gV p _ g;show(o,e,ex)
   let(o,e,ex):=z;show((o,e,ex.1),λa j=>?_)
   cases j
   show(o,e,ex.2.1)
  ·let(o,_,_,_,e,ex,_):=I.gV p _ g;show((o,e,ex.1),λa j=>?_)
   cases j
   show(o,e,ex.2.1)
 |_=>show fj ty
abbrev aew(K:bj)(T:String)(r:V->List V->Hp->VK->Prop)(to:TE):TE:=λσ H Q=>to σ H λx H1=>tyV K T x H1/\r x [] H1 Q
abbrev tBM(K:bj)(T:String)(r:V->List V->Hp->VK->Prop)(to:TE)(t:TA):TE:=λσ H Q=>to σ H λx H1=>tyV K T x H1/\t σ H1 λxs H2=>r x xs H2 Q
variable{o e:jS}{es:List jS}{to:TE}{t:TA}{name:bV}{ai aq:Ie}{T id:String}{r:V->List V->Hp->VK->Prop}
def xk(J:PlainAttrs T)(slot:Slot T name id)(z:typeOf (.builtin id)=pure (.type "method_descriptor"))(M:MtR X id r)(N:PE X o to)
  (g:attributeBase o name X.env (eval o X.env)=eval o X.env:=by rfl)(j:(ai.endLine==aq.line)=true:=by rfl):PE X (.Call (.Attribute o name ai) [] [] aq) (aew X.K T r to):=by
 intro pins s σ H Q I h;show wpAny_Call_method0_late g j (jI (N pins s σ H _ I h) λv O (x,H1,B,D,ty,U)=>?_);let(h1,h2):=Yq B D ty;show(T,id,J,slot,z,h1,h2,ou rfl (PySem.evalArgs_none (M pins O σ H1 x [] v [] Q B D .nil U)))
def lu(O:PlainAttrs T)(slot:Slot T name id)(D:typeOf (.builtin id)=pure (.type "method_descriptor"))(U:MtR X id r)(Y:PE X o to)(Z:PA X (e ::es) t)
  (j:attributeBase o name X.env (eval o X.env)=eval o X.env:=by rfl)
  (B:((backTo aq (starEach (e ::es) X.env)).all (λx=>!x.1) && (backToKw aq (keywordEach [] X.env)).all (λx=>x.1.isSome)
   && decide (↑(e ::es)+↑([]:List Rk)+(if ([]:List Rk).isEmpty then 0 else 1) < 30))=true:=by rfl)
  (z:(ai.endLine==aq.line)=true:=by rfl)(hs:starEach (e ::es) X.env=(false,eval e X.env,) ::starEach es X.env:=by rfl)(g:(backTo aq (starEach es X.env)).any (·.1)=false:=by rfl):
  PE X (.Call (.Attribute o name ai) (e ::es) [] aq) (tBM X.K T r to t):=by
 intro pins s σ H Q I h;show wpAny_Call_method_late j B z rfl (jI (Y pins s σ H _ I h) λv s1 (x,H1,J,M,ty,q1)=>?_);let(h1,h2):=Yq J M ty;show(T,id,O,slot,D,h1,h2,?_);have N:=Z aq pins s1 σ H1 _ J q1;rw[hs] at N ⊢;show ou (by change(false || (backTo aq (starEach es X.env)).any (·.1))=false;rw[g] <;> rfl) (w_ ?_);show jI N λus s2 (vs,H2,I2,r2,q2)=>U pins s2 σ H2 x vs v us Q I2 M r2 q2
end
abbrev MtM(X:Cx)(id:String)(r:V->List V->Hp->VK->Prop):Prop:=
 ∀(pins:List (aW×uG)) (s:b9) (σ:St) (H:Hp) (x:V) (xs:List V) (v:bM) (us:List bM) (Q:VK),Inv X pins σ H s->RelV x v->Vals xs us->r x xs H Q->
  wpAny (model X.prog X.w) X.A (call (.builtin id) (v ::us)) (EP X pins σ Q) X.xe s
def Vals.one:∀{x:V} {us:List bM},Vals [x] us->∃u,us=[u]/\RelV x u
 |_,_,.cons r .nil=>(_,rfl,r)
def Vals.zero:∀{us:List bM},Vals [] us->us=[]
 |_,.nil=>rfl
def Vals.dropLast(h:Vals xs us):Vals xs.dropLast us.dropLast:=by
 induction h with
 |nil=>show .nil
 |cons r t g=>
  cases t with
  |nil=>show .nil
  |cons q t'=>show .cons r g
def Vals.rep(h:Vals xs us):∀k:Nat,Vals (bq k xs).flatten (bq k us).flatten
 |0=> .nil
 |k+1=>by
  rw[fI,fI,j6,j6];show Vals.append h (Vals.rep h k)
def T7(l:List α):l.eraseIdx (↑l - 1)=l.dropLast:=by
 induction l with
 |nil=>rfl
 |cons a r g=>
  cases r with
  |nil=>rfl
  |cons b r=>
   have e:↑(a ::b ::r) - 1=(↑(b ::r) - 1)+1:=by
    have h1:↑(a ::b ::r)=↑r+2:=rfl;have h2:↑(b ::r)=↑r+1:=rfl;lia
   rw[e,List.eraseIdx_cons_succ,g]
   all_goals rfl
def foldl_rep(g:List bM):∀(k:Nat) (acc:List bM),
  NM (λj z=>j++z) acc.toArray (bq k g.toArray)=(acc++(bq k g).flatten).toArray
 |0,acc=>by simp
 |k+1,acc=>by
  have e:acc.toArray++g.toArray=(acc++g).toArray:=by simp
  have B:(acc++g)++(bq k g).flatten=acc++(bq (k+1) g).flatten:=by
   rw[fI,j6,bO]
  rw[←B,←foldl_rep g k (acc++g),←e,fI,LV]
section
variable{X:Cx}{pins:List (aW×uG)}{σ:St}{H:Hp}{s:b9}{l b:aW}{xs ys zs:List V}
def Inv.agf{g its':List bM}(I:Inv X pins σ H s)(j:H l=some (.lst xs))
  (e:s.heap.get? l=some {cls:= .type "list",data:= .seq g.toArray n})(z:f g.toArray=its'.toArray)(B:Vals ys its')(D:↑ys<=sizeLine):
  Inv X pins σ (upd H l (.lst ys)) {s with heap:=s.heap.update l (CV f),toks:=t'}:=by
 have q:=PySem.IsL.update e f;rw[z] at q;show I.write (x:=l) (e:=l) (by rw[j];show trivial) (.inl rfl) (λM u J hu=>(C4 s.heap (CV f) (d5 J)).trans hu) (_,q) ?_;show(D,its',_,B,q)
def Inv.agn(I:Inv X pins σ H s)(j:Vals ys g)(z:↑ys<=sizeLine):
  Inv X pins σ (upd H s.heap.objs.size (.lst ys)) {s with heap:=s.heap.push {cls:= .type "list",data:= .seq g.toArray},toks:=t'}:=
 I.laid (λ_ _ q=>bE _ q) (aT _) (z,g,0,j,cZ _ rfl)
def Inv.fresh(I:Inv X pins σ H s):H s.heap.objs.size=none:=I.gV.fresh (aT _)
def Inv.XI(I:Inv X pins σ H s)(j:H l=some (.lst xs)):↑xs<=sizeLine/\∃(g:List bM) (n:Nat),Vals xs g/\↑xs=↑g/\s.heap.get? l=some {cls:= .type "list",data:= .seq g.toArray n}:=by
 let(z,g,n,r,e):=I.gV l _ j;show(z,g,n,r,↑r,e)
def ZA(h:n<=sizeLine):sI n=false:=by
 unfold sI;show decide_eq_false (by lia)
end
section
variable{X:Cx}
abbrev VN:V->List V->Hp->VK->Prop:=λx vs H Q=>kR x λl=>k1 vs λy=>∃xs,H l=some (.lst xs)/\↑xs < sizeLine/\Q .vI (upd H l (.lst (xs++[y])))
def d7:MtM X "list.append" VN:=by
 intro pins s σ H x vs v us Q I B rv h;let(l,rfl,h2):=qF h;let(y,rfl,xs,j,J,q):=Pb h2
 cases B
 let(u,rfl,D):=rv.one;let(z,g,n,r,M,e):=I.XI j;show HU F.slot_list_append (_,e,rfl) F.entry_list_append (F.args_list_append_2 _ _) (PySem.list_append l g.toArray n u (by rw[cV];lia)) (e,?_);show(.vI,_,I.agf (its':=g++[u]) j e ⋯ (r.append (.cons D .nil)) ?_,rfl,q);rw[aY,cw];lia
abbrev agH:V->List V->Hp->VK->Prop:=λx vs H Q=>kR x λl=>vs=[]/\∃xs,H l=some (.lst xs)/\∃y,xs[xs.length - 1]? =some y/\Q y (upd H l (.lst xs.dropLast))
def yN:MtM X "list.pop" agH:=by
 intro pins s σ H x vs v us Q I J rv h;let(l,rfl,rfl,xs,D,y,M,q):=qF h
 cases J
 have j:=rv.zero;subst j;let(z,g,n,r,N,e):=I.XI D;let(u,hu,O):=r.get M
 have B:g.toArray[g.toArray.size - 1]? =some u:=by
  change g.toArray[g.length - 1]? =some u;rw[←DV,←N];show hu
 show HU F.slot_list_pop (_,e,rfl) F.entry_list_pop (F.args_list_pop_1 _) (MeetsSeq.list_pop_last l g.toArray n u B (by rw[cV];lia)) (e,?_);show(y,_,I.agf (its':=g.dropLast) D e ?_ r.dropLast ?_,O,q)
 ·change g.toArray.eraseIdxIfInBounds (g.toArray.size - 1)=g.dropLast.toArray;rw[cV,List.eraseIdxIfInBounds_toArray,T7]
 ·rw[List.length_dropLast];lia
abbrev ag4:R2:=λx y H Q=>kR x λl=>kR y λb=>∃xs,H l=some (.lst xs)/\∃zs,H b=some (.lst zs)/\↑xs+↑zs<=sizeLine/\∀p,H p=none->Q (.ref p) (upd H p (.lst (xs++zs)))
def YV:DI X (binaryOp .Add) ag4:=by
 intro pins s σ H x y v u Q I B D h;let(l,rfl,h2):=qF h;let(b,rfl,xs,J,zs,M,Z,q):=qF h2
 cases B
 cases D
 let(z,j,n,r,hl,e):=I.XI J;let(z2,g,n2,N,O,U):=I.XI M;show PySem.P.add_list e U ?_ (by rw[cV,cV];lia);have Y:j.toArray++g.toArray=(j++g).toArray:=by simp
 rw[Y];show(.ref _,_,I.agn (t':=s.toks) (r.append N) (by rw[aY];lia),rfl,q _ I.fresh)
abbrev af0:R2:=λx y H Q=>kR x λl=>kI y λk=>∃xs,H l=some (.lst xs)/\-(2^63)<=k/\k < 2^63/\↑xs*k.toNat<=sizeLine/\
 ∀p,H p=none->Q (.ref p) (upd H p (.lst (bq k.toNat xs).flatten))
def len_rep(xs:List α)(k:Nat):↑(bq k xs).flatten=k*↑xs:=by
 induction k with
 |zero=>simp
 |succ k g=>rw[fI,j6,aY,g,yq,yr]
def P9:DI X (binaryOp .Mult) af0:=by
 intro pins s σ H x y v u Q I Y Z h;let(l,rfl,h2):=qF h;let(k,rfl,xs,hH,h1,h2,O,q):=pY h2
 cases Y
 let(t,rfl):=Z;let(z,g,n,r,hl,e):=I.XI hH;have hlen:g.toArray.size*k.toNat<=sizeLine:=by rw[cV,←hl];show O
 have B:¬g.toArray.size*k.toNat > (2^63 - 1) / 8:=by
  have:(sizeLine:Nat)<=(2^63 - 1) / 8:=by decide
  lia
 have D:¬(!NV k)=true:=by
  rw[fitsIndex_both h1 h2];show fT
 have j:¬sI (g.toArray.size*k.toNat)=true:=by
  rw[ZA hlen];show fT
 have J:NM (λM N=>M++N) #[] (bq (if g.toArray.isEmpty=true then 0 else k.toNat) g.toArray)=(bq k.toNat g).flatten.toArray:=by
  have f0:∀m:Nat,NM (λM N=>M++N) #[] (bq m g.toArray)=(bq m g).flatten.toArray:=λm=>by
   have:=foldl_rep g m [];rw[oK] at this;show this
  rw[f0]
  cases g with
  |nil=>simp
  |cons a r'=>rw[h8 ⋯]
 show wpAny_binaryOp_repeat_ref (T:="list") (U:="int") (by decide) (_,e,rfl) (λs'=>NR s' k t) noFill_list_mul F.fills_int_mul LZ repeat_list F.slot_int_index.lookup
  (HU LZ (NR s k t) F.entry_int_rmul (F.args_int_rmul_2 _ _) (int___rmul___int_list k t l g.toArray n)
   (e,rfl,(_,e,rfl),HU F.slot_list_mul (_,e,rfl) F.entry_list_mul (F.args_list_mul_2 _ _) (AutoListH.list___mul___list_int_3 l g.toArray n k t D B j) (e,?_)))
 rw[J];show(.ref _,_,I.agn (t':=s.toks) (r.rep k.toNat) (by rw[len_rep,vq];show O),rfl,q _ I.fresh)
end
meta abbrev XR(h:jj)(c:aW)(v:Option bM):Prop:=h.IsCell c v
abbrev aid(scope g:E8):E8:=
 {scope with names:=scope.names.map λ(n,k,)=>if (k== .free && g.kind== .function && g.names.lookup n==some .cell) then(n,.cell,) else(n,k,)}
abbrev jF(cells:List (bV×aW)):List (bV×lA)->List (bV×aW)->List (bV×aW)
 |[],acc=>acc
 |(n,k,) ::r,acc=>if k== .free then jF cells r ((n,(cells.lookup n).getD 0,) ::acc) else jF cells r acc
def Jg(env:S9)(f:bV×lA->List (bV×aW)->Sem (ForInStep (List (bV×aW))))
  (j:∀n k c,f (n,k,) c=if k== .free then(do let a ←cellOf env n;pure (.yield ((n,a,) ::c))) else pure (.yield c)):
  ∀(names:List (bV×lA)) (acc:List (bV×aW)),(∀y∈names,y.2= .free->∃c,env.cells.lookup y.1=some c)->forIn names acc f=pure (jF env.cells names acc)
 |[],acc,_=>by rw[zj];rfl
 |(n,k,) ::r,acc,h=>by
  rw[Dr,j];have z:=λacc=>Jg env f j r acc λy D=>h y (aZ _ D);unfold jF
  by_cases g:(k==sC)=true
  ·rw[h9 g,h9 g];let(c,B):=h (n,k,) bg (by simpa using g);have e:cellOf env n=pure c:=by unfold cellOf;rw[B]
   rw[e];have J:(env.cells.lookup n).getD 0=c:=by rw[B];rfl
   rw[J];show z _
  ·rw[h8 g,h8 g];show z _
def Up(h:∀y∈scope.names,y.2= .free->∃c,env.cells.lookup y.1=some c):closureFor scope env=pure (jF env.cells scope.names []):=by
 simp only[closureFor];rw[Jg env _ (λn k c=>rfl) scope.names [] h]
 rfl
def mem_lookup:∀{l:List (bV×α)} {n:bV} {c:α},(n,c,)∈l->∃c',l.lookup n=some c'
 |(k,v,) ::r,n,c,h=>by
  rw[jz]
  cases g:n==k with
  |true=>show(_,rfl)
  |false=>
   rcases bo.mp h with e|h
   ·cases e;simp at g
   ·show mem_lookup h
def zW:∀{names:List (bV×lA)} {acc:List (bV×aW)} {n:bV} {c:aW},(n,c,)∈jF cells names acc->(n,c,)∈acc\/((n,.free,)∈names/\c=(cells.lookup n).getD 0)
 |[],_,_,_,h=> .inl h
 |(m,k,) ::r,acc,n,c,h=>by
  unfold jF at h
  split at h
  ·rename_i g;have g:k= .free:=by simpa using g
   rcases zW h with h|⟨h1,h2⟩
   ·rcases bo.mp h with e|h
    ·cases e;show .inr (g ▸ bg,rfl)
    ·show .inl h
   ·show .inr (aZ _ h1,h2)
  ·rcases zW h with h|⟨h1,h2⟩
   ·show .inl h
   ·show .inr (aZ _ h1,h2)
def Ek:∀{names:List (bV×lA)} {acc:List (bV×aW)} {p:bV×aW},p∈acc->p∈jF cells names acc
 |[],_,_,h=>h
 |(m,k,) ::r,acc,p,h=>by
  unfold jF
  split
  ·show Ek (aZ _ h)
  ·show Ek h
def D7:∀{names:List (bV×lA)} {acc:List (bV×aW)} {n:bV},(n,.free,)∈names->(n,(cells.lookup n).getD 0,)∈jF cells names acc
 |(m,k,) ::r,acc,n,h=>by
  unfold jF;rcases bo.mp h with e|h
  ·cases e
   show Ek bg
  ·split
   ·show D7 h
   ·show D7 h
def Bg:∀{names:List (bV×lA)} {h:jj} {acc:List (bV×aW)} {x:bV} {c:aW},(x,c,)∈cellsFrom h.objs.size names acc->
  (x,c,)∈acc\/((x,.cell,)∈names/\h.objs.size<=c/\XR (pushCells h names) c none)
 |[],_,_,_,_,h=> .inl h
 |(n,k,) ::r,h,acc,x,c,g=>by
  unfold cellsFrom at g;unfold pushCells
  split at g
  ·rename_i j;rw[h9 j];have j:k= .cell:=by simpa using j
   rw[←eZ h {cls:= .type "cell",data:= .cell none}] at g;rcases Bg g with g|⟨h1,h2,z⟩
   ·rcases bo.mp g with e|g
    ·cases e
     show .inr (j ▸ bg,aT _,_,xw r _ _ _ (cZ _ rfl),rfl)
    ·show .inl g
   ·rw[eZ] at h2;show .inr (aZ _ h1,vx h2,z)
  ·rename_i j;rw[h8 j];rcases Bg g with g|⟨h1,h2,z⟩
   ·show .inl g
   ·show .inr (aZ _ h1,h2,z)
def Fz:∀{names:List (bV×lA)} {n:Nat} {acc:List (bV×aW)} {p:bV×aW},p∈acc->p∈cellsFrom n names acc
 |[],_,_,_,h=>h
 |(m,k,) ::r,n,acc,p,h=>by
  unfold cellsFrom
  split
  ·show Fz (aZ _ h)
  ·show Fz h
def Ks:∀{names:List (bV×lA)} {n:Nat} {acc:List (bV×aW)} {x:bV},(x,.cell,)∈names->∃c,(x,c,)∈cellsFrom n names acc
 |(m,k,) ::r,n,acc,x,h=>by
  unfold cellsFrom;rcases bo.mp h with e|h
  ·cases e
   show(n,Fz bg)
  ·split
   ·show Ks h
   ·show Ks h
def KC:∀{names:List (bV×lA)} {h:jj} {acc:List (bV×aW)} {x y:bV} {c:aW},(∀p∈acc,p.2 < h.objs.size)->(∀x y c,(x,c,)∈acc->(y,c,)∈acc->x=y)->
  (x,c,)∈cellsFrom h.objs.size names acc->(y,c,)∈cellsFrom h.objs.size names acc->x=y
 |[],_,_,_,_,_,_,hi,h1,h2=>hi _ _ _ h1 h2
 |(n,k,) ::r,h,acc,x,y,c,g,hi,h1,h2=>by
  unfold cellsFrom at h1 h2
  split at h1
  ·rename_i j;rw[h9 j] at h2;rw[←eZ h {cls:= .type "cell",data:= .cell none}] at h1 h2;show KC (h:=h.push _) (λp z=>?_) (λx y c a b=>?_) h1 h2
   ·rw[eZ];rcases bo.mp z with rfl|z
    ·show qD _
    ·show vw (g p z)
   ·rcases bo.mp a with e|a <;> rcases bo.mp b with B|b
    ·cases e;cases B;rfl
    ·cases e;show absurd (g _ b) (jH _)
    ·cases B;show absurd (g _ a) (jH _)
    ·show hi _ _ _ a b
  ·rename_i j;rw[h8 j] at h2;show KC g hi h1 h2
def SU{code:bM}
  (h:Q (newEnv scope s.heap.objs.size globals (cellsFrom (s.heap.objs.size+1) scope.names closure) qual func code (some around) builtins)
   {s with heap:=pushCells (s.heap.push {cls:= .type "dict",data:= .dict #[]}) scope.names}):
  wpAny M A (newFunctionEnv scope globals closure [] qual func code (some around) builtins) Q E s:=by
 simp only[newFunctionEnv,oo,if_true];show bL (wpAny_alloc ?_);show bL (wpAny_layCells _ (λn k c=>rfl) scope.names closure _ _ ?_);rw[show({s with heap:=s.heap.push {cls:= .type "dict",data:= .dict #[]}}:b9).heap.objs.size=s.heap.objs.size+1 from eZ ..];rw[zj];show bL (dF (dF h))
def EZ{g:E8}:∀{names:List (bV×lA)} {x:bV} {k:lA},
  (names.map λ(n,k,)=>if (k==sC && g.kind== .function && g.names.lookup n==some .cell) then(n,GI,) else(n,k,)).lookup x=some k->
  ∃B,names.lookup x=some B/\(k=B\/(B= .free/\k= .cell))
 |[],_,_,h=>by simp at h
 |(n,z,) ::r,x,k,h=>by
  have D:=@EZ g r x k;have h':qo x ((if (z==sC && g.kind== .function && g.names.lookup n==some .cell)=true then(n,GI,) else(n,z,)) ::(r.map _))=some k:=h
  cases hx:x==n with
  |true=>
   simp only[jz,hx]
   by_cases j:(z==sC && g.kind== .function && g.names.lookup n==some .cell)=true
   ·rw[h9 j] at h';simp only[jz,hx] at h'
    cases h'
    simp only[bf,beq_iff_eq] at j;show(z,rfl,.inr (j.1.1,rfl))
   ·rw[h8 j] at h';simp only[jz,hx] at h'
    cases h'
    show(_,rfl,.inl rfl)
  |false=>
   simp only[jz,hx]
   by_cases j:(z==sC && g.kind== .function && g.names.lookup n==some .cell)=true
   ·rw[h9 j] at h';simp only[jz,hx] at h';show D h'
   ·rw[h8 j] at h';simp only[jz,hx] at h';show D h'
structure Sb(N:List bV)(g scope:E8)(own:List (bV×Nat)):Prop where
 kind:scope.kind= .function
 uniq:∀y∈scope.names,scope.names.lookup y.1=some y.2
 ix:∀p∈own,N[p.2]? =some p.1
 free:∀y∈scope.names,y.2= .free->g.names.lookup y.1=some .cell\/g.names.lookup y.1=some .free
 own:∀y∈scope.names,y.2= .local\/y.2= .cell->y.1∈own.map (·.1)\/y.1∉N
abbrev wipe(σ:St):List Nat->St
 |[]=>σ
 |v ::vs=>(wipe σ vs).set v none
def Ey(σ:St):∀vs:List Nat,↑(wipe σ vs)=↑σ
 |[]=>rfl
 |v ::vs=>by unfold wipe;rw[eQ,Ey σ vs]
def Ka:∀{vs:List Nat},(wipe σ vs)[i]? =some (some x)->σ[i]? =some (some x)/\i∉vs
 |[],h=>(h,⋯)
 |v ::vs,h=>by
  unfold wipe at h
  by_cases hi:v=i
  ·subst hi
   by_cases g:v < ↑(wipe σ vs)
   ·rw[kL g] at h;cases h
   ·rw[js (by simpa using g)] at h;cases h
  ·rw[mn hi] at h;let(h1,h2):=Ka h;show(h1,by simp only[bo,not_or];show(λe=>hi e.symm,h2))
meta abbrev Cx.QW(X:Cx)(s:b9)(H:Hp)(scope:E8)(g:S9)(j:List aW):Cx:={X with s_0:=s,H_0:=H,env:=g,outer:=X.stack,ex:=j,fn:=λx=>scope.names.lookup x==some .cell,pn:=[],xe:=λ_ _=>False}
section
variable{X:Cx}{pins:List (aW×uG)}{σ:St}{H:Hp}{s:b9}
def Sl(I:Inv X pins σ H s)(ok:Sb X.N X.env.scope scope own)(hN:X.N.Nodup)(D:∀b∈fp,LM X pins H b/\b < s.heap.objs.size):
  Inv (X.QW s H scope (compEnvC scope (cellsFrom (s.heap.objs.size+1) scope.names (jF X.env.cells scope.names [])) s.heap.objs.size X.env) fp) [] (wipe σ (own.map (·.2))) H {s with heap:=pushCells (s.heap.push {cls:= .type "dict",data:= .dict #[]}) scope.names}:=by
 have ah:∀y∈scope.names,y.2= .free->∃c,X.env.cells.lookup y.1=some c:=λy Q e=>by
  rcases ok.free y Q e with k|k
  ·show I.ok.has _ (.inl k)
  ·show I.ok.has _ (.inr k)
 generalize j:compEnvC scope (cellsFrom (s.heap.objs.size+1) scope.names (jF X.env.cells scope.names [])) s.heap.objs.size X.env=g;have kp:∀b o,s.heap.get? b=some o->(pushCells (s.heap.push {cls:= .type "dict",data:= .dict #[]}) scope.names).get? b=some o:=λb o e=>xw _ _ _ _ (bE _ e);have hL:g.locals=s.heap.objs.size:=by rw[←j];rfl
 have B:g.cells=cellsFrom (s.heap.objs.size+1) scope.names (jF X.env.cells scope.names []):=by rw[←j];rfl
 have ar:g.scope=aid scope X.env.scope:=by rw[←j];rfl
 rw[←eZ s.heap {cls:= .type "dict",data:= .dict #[]}] at B
 have cm:∀{y c},(y,c,)∈jF X.env.cells scope.names []->X.env.cells.lookup y=some c/\c < s.heap.objs.size:=λ{y c} J=>by
  rcases zW J with J|⟨h1,rfl⟩
  ·cases J
  ·let(c,hc):=ah _ h1 rfl;rw[hc];let(w,z):=I.cell _ _ hc;show(rfl,z.lt)
 have mem:∀{y c},g.cells.lookup y=some c->(X.env.cells.lookup y=some c/\c < s.heap.objs.size)\/(s.heap.objs.size+1<=c/\XR (pushCells (s.heap.push {cls:= .type "dict",data:= .dict #[]}) scope.names) c none):=λ{y c} e=>by
  rw[B] at e;rcases Bg (dJ e) with J|⟨_,h2,h3⟩
  ·show .inl (cm J)
  ·rw[eZ] at h2;show .inr (h2,h3)
 have look:∀{y},scope.names.lookup y=some .free->∃c,g.cells.lookup y=some c/\X.env.cells.lookup y=some c:=λ{y} hl=>by
  have Q:(y,sC,)∈scope.names:=dJ hl;let(c',M):=mem_lookup (Fz (names:=scope.names) (n:=(s.heap.push {cls:= .type "dict",data:= .dict #[]}).objs.size) (D7 (cells:=X.env.cells) (acc:=[]) Q));rw[←B] at M;show(c',M,?_);rw[B] at M;rcases Bg (dJ M) with J|⟨h1,_,_⟩
  ·show(cm J).1
  ·have:=ok.uniq _ h1;rw[hl] at this;cases this
 have bl:(X.QW s H scope g fp).Ok:=by
  show(I.ok.mod,by change g.scope.kind=_;rw[ar];show ok.kind,by change g.globals=_;rw[←j];show I.ok.glob,by change g.builtins=_;rw[←j];show I.ok.blt,by change s.heap.objs.size<=g.locals;rw[hL];show aT _,
   λy z c Y Z=>?_,λy Q=>?_,λy c z e=>?_,I.ok.hd,I.ok.frames,.inl rfl,λb hb=>(?_,λy c e z=>?_),I.bs,cJ I.ok.bsz I.sz,λb o e hb=>?_,λb hb z=>?_,I.stack,I.U_)
  ·have Y:g.cells.lookup y=some c:=Y;have Z:g.cells.lookup z=some c:=Z;rw[B] at Y Z;show KC (λp hp=>?_) (λy z c a b=>I.ok.inj y z c (cm a).1 (cm b).1) (dJ Y) (dJ Z);rw[eZ];show vw (cm (y:=p.1) (c:=p.2) hp).2
  ·change ∃c,g.cells.lookup y=some c
   have key:∀k,g.kindOf y=some k->(k= .cell\/k= .free)->∃c,g.cells.lookup y=some c:=λk hk aA=>by
    unfold Env.kindOf at hk;rw[ar] at hk;let(k',e,r):=EZ hk
    have:k'= .cell\/k'= .free:=by
     rcases r with rfl|⟨rfl,_⟩
     ·show aA
     ·show .inr rfl
    rcases this with rfl|rfl
    ·let(c,J):=Ks (n:=(s.heap.push {cls:= .type "dict",data:= .dict #[]}).objs.size) (acc:=jF X.env.cells scope.names []) (dJ e);let(c',M):=mem_lookup J;show(c',by rw[B];show M)
    ·let(c,h1,_):=look e;show(c,h1)
   rcases Q with Q|Q
   ·show key _ Q (.inl rfl)
   ·show key _ Q (.inr rfl)
  ·have z:(scope.names.lookup y==some GI)=true:=z;have z:scope.names.lookup y=some .cell:=by simpa using z
   have e:g.cells.lookup y=some c:=e;rw[B] at e;rcases Bg (dJ e) with J|⟨_,h2,_⟩
   ·rcases zW J with J|⟨h1,_⟩
    ·cases J
    ·have q:=ok.uniq _ h1;rw[z] at q;cases q
   ·rw[eZ] at h2;show vx h2
  ·change b≠g.locals;rw[hL];show fu (D b hb).2
  ·have e:g.cells.lookup y=some c:=e;rcases mem e with⟨h1,_⟩|⟨h1,_⟩
   ·show(D b hb).1.2.2.2.2.1 y c h1 z
   ·have h2:s.heap.objs.size+1<=b:=by rw[←z];show h1
    show absurd (bF (D b hb).2 (vx h2)) (jH _)
  ·rcases(D b hb).1.2.2.2.1 with z|z
   ·show I.ok.YU b o e z
   ·show absurd (bF (cn e) (cJ I.ok.bsz z)) (jH _)
  ·rcases bo.mp (I.US b z) with z|z
   ·show(D b hb).1.2.1 z
   ·show(D b hb).1.2.2.1 z
 show(bl,rfl,I.bare,Un.kept kp,(λ_=>none,?_,λi y av Y Z O=>?_),λy c e=>?_,?_,λy c e=>?_,λp hp=>?_,I.gV.kept kp,by rw[Ey];show I.len)
 ·change Heap.Ns _ g.locals _;rw[hL];show Heap.Ns.keeps (Heap.Ns.new ..) λb o e=>xw _ _ _ _ e
 ·let(Z,bt):=Ka Z
  have U:scope.names.lookup y=some .free/\(g.kindOf y=some .cell\/g.kindOf y=some .free):=by
   have key:∀k,g.scope.names.lookup y=some k->k= .local\/k= .cell\/k= .free->scope.names.lookup y=some .free/\(g.kindOf y=some .cell\/g.kindOf y=some .free):=λk hk aA=>by
    have aE:=hk;rw[ar] at hk;let(k',e,r):=EZ hk
    have no:¬(k'= .local\/k'= .cell):=λhh=>by
     rcases ok.own _ (dJ e) hh with M|M
     ·let(p,hp,bx):=fc.mp M;have O:=ok.ix p hp;have:p.1=y:=bx;rw[this] at O;show bt (fc.mpr (p,hp,Mx hN O Y))
     ·show M (bJ Y)
    rcases r with rfl|⟨rfl,rfl⟩
    ·rcases aA with rfl|rfl|rfl
     ·show absurd (.inl rfl) no
     ·show absurd (.inr rfl) no
     ·show(e,.inr aE)
    ·show(e,.inl aE)
   have O:Vis g.scope y:=O;rcases O with O|O|O
   ·show key _ O (.inl rfl)
   ·show key _ O (.inr (.inl rfl))
   ·show key _ O (.inr (.inr rfl))
  let(m,hn,hl):=I.loc;have bk:Vis X.env.scope y:=(ok.free _ (dJ U.1) rfl).elim (λk=> .inr (.inl k)) (λk=> .inr (.inr k));let(w,r,q):=hl i y av Y Z bk;show(w,r,.inr (U.2,?_));let(c,h1,h2):=look U.1;rcases q with⟨k,_⟩|⟨_,c',M,z⟩
  ·have k:X.env.scope.names.lookup y=some .local:=k;rcases ok.free _ (dJ U.1) rfl with k'|k' <;> rw[show X.env.scope.names.lookup y=_ from k'] at k <;> cases k
  ·rw[h2] at M;cases M;show(c,h1,z.keeps kp)
 ·have e:g.cells.lookup y=some c:=e;rcases mem e with⟨h1,_⟩|⟨_,z⟩
  ·let(w,z):=I.cell y c h1;show(w,z.keeps kp)
  ·show(_,z)
 ·change H g.locals=none;rw[hL];show I.gV.fresh (aT _)
 ·have e:g.cells.lookup y=some c:=e;rcases mem e with⟨h1,_⟩|⟨h1,_⟩
  ·show I.EN y c h1
  ·show I.gV.fresh (vx h1)
 ·show absurd (show p∈([]:List (aW×uG))++[] from hp) ⋯
def aeC(I:Inv X pins σ H s)(z:H D=some (.lst xs))(J:↑xs < sizeLine)(r:RelV y v)
  (h:∀s',Inv X pins σ (upd H D (.lst (xs++[y]))) s'->Q .none s'):wpAny (model X.prog X.w) X.A (call (.builtin "list.append") [.ref D,v]) Q E s:=by
 let(M,j,n,B,e):=I.gV D _ z;have U:=↑B;show append_at (hsz:=by rw[cV];lia) e λh' N g=>?_;show h {s with heap:=h'} (I.write (t':=s.toks) (by rw[z];trivial) (.inl rfl) (λb u O q=>(N.2 b O).trans q) (_,g) (by rw[aY];show J,j++[v],n+1,B.append (.cons r .nil),?_));rw[g];simp
abbrev PTs(X:Cx)(ifs:List jS)(t:TT):Prop:=
 ∀(pins:List (aW×uG)) (s:b9) (σ:St) (H:Hp) (Q:Bool->Hp->Prop),Inv X pins σ H s->t σ H Q->
  wpAny (model X.prog X.w) X.A (forIn ifs true λc r=>if r=true then do let ok ←isTrue c X.env (eval c X.env);pure (xo ok) else pure (xo r)) (TP X pins σ Q) X.xe s
abbrev afW:TT:=λ_ H Q=>Q true H
def Ft:PTs X [] afW:=λ_ _ _ H _ I h=>wpAny_tests_nil (H,I,h)
def L4(h:PT X c t):PTs X [c] t:=λpins s σ H Q I hw=>wpAny_tests_one (h pins s σ H Q I hw)
end
def WV(h:wpAny M A t Q (λ_ _=>False) s)(g:∀a s,Q a s->j a s):wpAny M A t j E s:=ja h g λ_ _ z=>fj z
def Qc(I:Nat->b9->Prop)
  (turn:∀n s,I n s->wpAny (model prog w) A (pyNext j) (λr z=>match r with
   |none=>R (.ok .next) z
   |some v=>wpAny (model prog w) A (letOwnedTupleGo target j v) (λ_ g=>wpAny (model prog w) A (assign target env v) (λ_ J=>
    wpAny (model prog w) A (forIn ifs true λc r=>if r=true then do let ok ←isTrue c env (eval c env);pure (xo ok) else pure (xo r)) (λok B=>
     if ok=true then wpAny (model prog w) A (eval elt env) (λx M=>
      wpAny (model prog w) A (call (.builtin "list.append") [acc,x]) (λ_ N=>∃m,m < n/\I m N) (notedBy (model prog w) A env λe s'=>R (.error e) s') M) (notedBy (model prog w) A env λe s'=>R (.error e) s') B
     else ∃m,m < n/\I m B) (notedBy (model prog w) A env λe s'=>R (.error e) s') J) (notedBy (model prog w) A env λe s'=>R (.error e) s') g) (notedBy (model prog w) A env λe s'=>R (.error e) s') z) (notedBy (model prog w) A env λe s'=>R (.error e) s') s)
  (n:Nat)(h:I n s):
  codeAny (model prog w) A (.compLoop (.ListComp elt [(target,iter,ifs,0)] scope pos) 0 j acc env) R s:=by
 show codeAny_loop rfl I (λn s U=>?_) n h;change wpAny _ A ((compTurn (.ListComp elt [(target,iter,ifs,0)] scope pos) 0 j acc env).onRaise (λx=>do noteFrame x env;theTreesLotGoes x)) _ _ s;show wpAny_noted ?_;rw[compTurn_list];show bL (GJ (bL (ja (turn n s U) (λr z O=>?_) λ_ _ h'=>h')))
 cases r with
 |none=>show dF O
 |some v=>
  show bL (ja O (λ_ g D=>?_) λ_ _ h'=>h');show bL (ja D (λ_ J Y=>bL (ja Y (λok B Q=>?_) λ_ _ h'=>h')) λ_ _ h'=>h')
  cases ok with
  |false=>show dF (rfl,Q)
  |true=>
   show bL (bL (ja Q (λx M Z=>bL (ja Z (λ_ N h₅=>dF (dF (rfl,h₅))) λ_ _ h'=>h')) λ_ _ h'=>h'))
section
variable{X:Cx}
abbrev tLc(O:TI)(g:TG)(U:TT)(te:TE)(vs:List Nat):TE:=λσ H Q=>O σ H λJ H1=>∀D,H1 D=none->∃W:Nat->Nat->Hp->Prop,(∃m,W 0 m (upd H1 D (.lst [])))/\∀i m H,W i m H->
 (J.stop i H/\Q (.ref D) H)\/(J.go i H/\∃j:Hp->Prop,(∀H',j H'->∃B,B < m/\W (i+1) B H')/\∀x H',J.yld i H x H'->g x (wipe σ vs) H' λz H2=>wipe z vs=wipe σ vs/\U z H2 λb M=>
  if b=true then te z M λy N=>∃acc,N D=some (.lst acc)/\↑acc < sizeLine/\j (upd N D (.lst (acc++[y]))) else j M)
def Vi
  (hc:X.calm=true)(hN:X.N.Nodup)(I:Inv X pins σ H s)(hi:PI X tg iter wi)(ok:Sb X.N X.env.scope scope own)
  (hg:∀(s:b9) (H:Hp) (C:aW) (cl:List (bV×aW)) (M:List aW),PG (X.QW s H scope (compEnvC scope cl C X.env) M) tg g)(ht:∀(s:b9) (H:Hp) (C:aW) (cl:List (bV×aW)) (M:List aW),PTs (X.QW s H scope (compEnvC scope cl C X.env) M) ifs tt)
  (he:∀(s:b9) (H:Hp) (C:aW) (cl:List (bV×aW)) (M:List aW),PE (X.QW s H scope (compEnvC scope cl C X.env) M) elt te)(hs:∀x,foldedSetIterable iter X.env x=pure x)
  (h:tLc wi g tt te (own.map (·.2)) σ H Q)
  (b2:∀D C s' m H',Inv X pins σ H' s'->Q (.ref D) H'->s'.heap.Ns C m->LM X pins H' C->compPost (model X.prog X.w) X.A X.xe use Qf (.ref D) C (.ok .next) s'):
  wpAny (model X.prog X.w) X.A (comprehension (.ListComp elt [(tg,iter,ifs,0)] scope pos) scope X.env aF (newList []) false (eval iter X.env) use) Qf X.xe s:=by
 have ah:∀y∈scope.names,y.2= .free->∃c,X.env.cells.lookup y.1=some c:=λy hy e=>by
  rcases ok.free y hy e with k|k
  ·show I.ok.has _ (.inl k)
  ·show I.ok.has _ (.inr k)
 show wpAny_comprehension_free (use:=use) rfl hs (Up ah) ok.kind (λy hy e=>by rw[ok.uniq y hy,e])
  (jI (hi pins s σ H _ I h) λxv s1 hx=>jI hx λc1 s2 h2=>?_)
 let(it,M,tn,J,H2,e,I2,T,av,f2,q):=h2;subst e;show wpAny_newObj_type (SU ?_) (by change 0<=sizeLine;decide);generalize hD:s2.heap.objs.size=D;have b3:H2 D=none:=I2.gV.fresh (CZ hD);let(W,(m0,w0),turn):=q D b3;generalize aA:({s2 with heap:=s2.heap.push {cls:= .type "list",data:= .seq ([]:List bM).toArray}}:b9)=B
 have I3:Inv X pins σ (upd H2 D (.lst [])) B:=by
  rw[←aA];show I2.laid (t':=s2.toks) (λb o e=>bE _ e) (CZ hD) (d6 _,[],0,.nil,?_);rw[←hD];show cZ _ rfl
 have h3:B.heap=s2.heap.push {cls:= .type "list",data:= .seq ([]:List bM).toArray}:=by rw[←aA]
 have sz:∀b∈M,b < s2.heap.objs.size:=λb O=>by
  let(o,e,_):=T.obj _ _ av b O;show cn e
 have f3:∀b∈M,LM X pins (upd H2 D (.lst [])) b/\b < B.heap.objs.size:=λb O=>by
  have aE:=sz b O;show((?_,(f2 b O).2),by rw[h3,eZ];show vw aE);rw[bc (by rw[←hD];show fu aE)];show(f2 b O).1
 have b4:tn 0 B.heap:=T.keep _ _ _ av λb _ o e=>by rw[h3];show bE _ e
 have I4:=Sl I3 ok hN f3;have pg:=hg B (upd H2 D (.lst [])) B.heap.objs.size (cellsFrom (B.heap.objs.size+1) scope.names (jF X.env.cells scope.names [])) M;have pt:=ht B (upd H2 D (.lst [])) B.heap.objs.size (cellsFrom (B.heap.objs.size+1) scope.names (jF X.env.cells scope.names [])) M;have pe:=he B (upd H2 D (.lst [])) B.heap.objs.size (cellsFrom (B.heap.objs.size+1) scope.names (jF X.env.cells scope.names [])) M;change codeAny _ _ (.compStart (.ListComp elt [(tg,iter,ifs,0)] scope pos) 0 (.ref it) (.ref D) (compEnvC scope (cellsFrom (B.heap.objs.size+1) scope.names (jF X.env.cells scope.names [])) B.heap.objs.size X.env)) (compPost (model X.prog X.w) X.A X.xe use Qf (.ref D) B.heap.objs.size) {B with heap:=pushCells (B.heap.push {cls:= .type "dict",data:= .dict #[]}) scope.names};have bk:∀b∈M,(upd H2 D (.lst [])) b=none:=λb O=>(f3 b O).1.1;generalize b5:compEnvC scope (cellsFrom (B.heap.objs.size+1) scope.names (jF X.env.cells scope.names [])) B.heap.objs.size X.env=ce at I4 pg pt pe ⊢;have cL:ce.locals=B.heap.objs.size:=by subst b5;rfl
 generalize c2:upd H2 D (.lst [])=Y at I3 I4 pg pt pe w0 bk f3;generalize cc:({B with heap:=pushCells (B.heap.push {cls:= .type "dict",data:= .dict #[]}) scope.names}:b9)=s4 at I4 ⊢;have bl:tn 0 s4.heap:=T.keep _ _ _ b4 λb _ o e=>by rw[←cc];show xw _ _ _ _ (bE _ e)
 have U:∀{σ':St} {H':Hp} {s':b9},Inv (X.QW B Y scope ce M) [] σ' H' s'->(∀b∈M,H' b=none)->∀b∈M,LM (X.QW B Y scope ce M) [] H' b:=λ{σ' H' s'} I' hn b O=>
  (hn b O,(I'.ok.exf b O).1,I'.ok.Y7 b O,.inl O,λx c e=>(I'.ok.exf b O).2 x c e,λp hp=>absurd (show p∈([]:List (aW×uG))++[] from hp) ⋯)
 have loop:codeAny (model X.prog X.w) X.A (.compLoop (.ListComp elt [(tg,iter,ifs,0)] scope pos) 0 (.ref it) (.ref D) ce) (compPost (model X.prog X.w) X.A X.xe use Qf (.ref D) B.heap.objs.size) s4:=by
  show Qc (λn s'=>∃i H',Inv (X.QW B Y scope ce M) [] (wipe σ (own.map (·.2))) H' s'/\tn i s'.heap/\(∀b∈M,H' b=none)/\W i n H') ?_ m0 (0,Y,I4,bl,bk,w0);rintro n s5 ⟨i,H5,I5,bt,n5,w5⟩;rcases turn i n H5 w5 with⟨stop,qq⟩|⟨go,Nx,cm,step⟩
  ·have td:=T.done (X.QW B Y scope ce M) rfl rfl rfl hc i [] s5 _ H5 (λ_ _=>False) I5 (U I5 n5) bt stop;show WV td λr s6 (hr,I6)=>?_;subst hr;have I7:Inv X pins σ H5 s6:=I3.af5 (ch:=M) I6.os I6.base I6.gV I6.bare λb O=>((f3 b O).1.2.2.2.1,(f3 b O).1.2.1,(f3 b O).1.2.2.2.2.1,(f3 b O).1.2.2.2.2.2)
   have nC:H5 B.heap.objs.size=none:=by
    have z:H5 ce.locals=none:=I6.free;rw[cL] at z;show z
   let(m,hn,_):=I6.loc;have hn:s6.heap.Ns ce.locals m:=hn;rw[cL] at hn;show b2 D B.heap.objs.size s6 m H5 I7 qq hn (I3.Uo (aT _) nC)
  ·have ti:=T.item (X.QW B Y scope ce M) rfl rfl rfl hc i [] s5 _ H5 (λ_ _=>False) I5 (U I5 n5) bt go;show WV ti λr s6 (u,hr,h6)=>?_;subst hr;show WV h6 λ_ s7 (x,H7,I7,r7,y7,ar,n7)=>?_;have ct:=I7.pinned (U I7 n7) (T.obj _ _ ar);show WV (pg _ s7 _ H7 x u _ ct r7 (step x H7 y7)) λ_ s8 (σ8,H8,I8,bx,q8)=>?_;show WV (pt _ s8 σ8 H8 _ I8 q8) λb s9 (H9,I9,q9)=>?_
   have fin:∀{s':b9} {H':Hp},Inv (X.QW B Y scope ce M) ([] ++Nr M s7.heap) σ8 H' s'->Nx H'->∃m,m < n/\∃i H',Inv (X.QW B Y scope ce M) [] (wipe σ (own.map (·.2))) H' s'/\tn i s'.heap/\(∀b∈M,H' b=none)/\W i m H':=λ{s' H'} I' nx=>by
    let(m',hm,w'):=cm H' nx
    have Z:∀b∈M,∀o,s7.heap.get? b=some o->s'.heap.get? b=some o/\H' b=none:=λb O o e=>
     let z:=I'.pin (b,o,) (bW _ (bW _ (HC O e)))
     (z.1,z.2.1)
    have hl:↑(wipe σ (own.map (·.2)))=↑σ8:=by rw[←bx,Ey]
    show(m',hm,i+1,H',(I'.IV (pins:=[])).weak hl (λj v e=>?_),T.keep _ _ _ ar λb O o e=>(Z b O o e).1,λb O=>?_,w')
    ·rw[←bx] at e;show(Ka e).1
    ·let(o,e,_):=T.obj _ _ ar b O;show(Z b O o e).2
   cases b with
   |false=>
    simp only[cQ,if_false] at q9 ⊢;show fin I9 q9
   |true=>
    simp only[if_true] at q9 ⊢;show WV (pe _ s9 σ8 H9 _ I9 q9) λz c3 (yv,c4,cy,cA,acc,b0,b1,nx)=>?_;show aeC (X:=X.QW B Y scope ce M) cy b0 b1 cA λc5 c0=>fin c0 nx
 show codeAny_compStart_list loop (T.self X.A 0 _ _ _ bl loop)
def OT(z:X.calm=true)(B:X.N.Nodup)(hi:PI X tg iter J)(ok:Sb X.N X.env.scope scope own)
  (M:∀(s:b9) (H:Hp) (C:aW) (cl:List (bV×aW)) (j:List aW),PG (X.QW s H scope (compEnvC scope cl C X.env) j) tg g)(O:∀(s:b9) (H:Hp) (C:aW) (cl:List (bV×aW)) (j:List aW),PTs (X.QW s H scope (compEnvC scope cl C X.env) j) ifs U)
  (Y:∀(s:b9) (H:Hp) (C:aW) (cl:List (bV×aW)) (j:List aW),PE (X.QW s H scope (compEnvC scope cl C X.env) j) elt te)(Z:∀x,foldedSetIterable iter X.env x=pure x:=by intro _;rfl):
  PE X (.ListComp elt [(tg,iter,ifs,0)] scope pos) (tLc J g U te (own.map (·.2))):=by
 intro pins s σ H Q I h;rw[eval_ListComp];show Vi z B I hi ok M O Y Z h λD C s' m H' I' q hn f=>(m,hn,λah sb=>?_);let(f0,f1,f2,f3,f4,f5):=f;show(.ref D,H',I'.turned (t':=s'.toks) (λb o hb e=>(sb.2 b hb).trans e) f0 f1 f3 f4 f5,rfl,q)
def Ih(hc:X.calm=true)(U:X.N.Nodup)(hy:X.N[i]? =some y)(j:X.env.scope.names.lookup y=some .local)
  (M:swapsWith (.ListComp elt [(tg,iter,ifs,0)] scope pos) (some (.Name y py)) B.line X.env=pure true)(hi:PI X tg iter Y)(ok:Sb X.N X.env.scope scope own)
  (hg:∀(s:b9) (H:Hp) (C:aW) (cl:List (bV×aW)) (J:List aW),PG (X.QW s H scope (compEnvC scope cl C X.env) J) tg g)(ht:∀(s:b9) (H:Hp) (C:aW) (cl:List (bV×aW)) (J:List aW),PTs (X.QW s H scope (compEnvC scope cl C X.env) J) ifs Z)
  (he:∀(s:b9) (H:Hp) (C:aW) (cl:List (bV×aW)) (J:List aW),PE (X.QW s H scope (compEnvC scope cl C X.env) J) elt te)(hs:∀x,foldedSetIterable iter X.env x=pure x:=by intro _;rfl):
  PS X (.Assign [.Name y py] (.ListComp elt [(tg,iter,ifs,0)] scope pos) B) (aaH (tLc Y g Z te (own.map (·.2))) (RE i)):=by
 intro pins s σ H D I h;rw[exec_Assign_Name_used _ _ _ _ M];show bL (GJ (bL ?_));change wpAny _ X.A (do let _ ←comprehension (.ListComp elt [(tg,iter,ifs,0)] scope pos) scope X.env (firstIterPos [(tg,iter,ifs,0)] pos) (newList []) false (eval iter X.env) (some (assign (.Name y py) X.env))) _ _ s;have h:tLc Y g Z te (own.map (·.2)) σ H (λx H1=>RE i x σ H1 D.nx):=h;show bL (jI (Vi (Qf:=λ_ s'=>SP X pins D .next s') hc U I hi ok hg ht he hs h λL C s' m H' I' q hn f=>?_) λ_ s' hq=>dF (dF hq));change wpAny _ _ (assign (.Name y py) X.env (.ref L)) _ _ _;show JR (Pc (v:=V.ref L) I' U hy (.inl j) rfl (λs2 I2 (a,sb,ha)=>?_) (.inr j));let(f0,f1,f2,f3,f4,f5):=f
 have O:C≠a:=by
  rcases ha with z|z
  ·rw[z];show f1
  ·show λe=>f4 y a z e.symm
 show(m,hn.sameBut sb O,λh3 Q=>?_);show(_,H',I2.turned (t':=s2.toks) (λb o hb e=>(Q.2 b hb).trans e) f0 f1 f3 f4 f5,q)
def Mc(g:env.scope.kind= .function)(j:env.scope.names.lookup y=some .local)(z:(py.line==pos.line)=true)
  (B:(scope.names.any λ(n,k,)=>n==y && (k== .local || k== .cell))=false):swapsWith (.ListComp elt gs scope pos) (some (.Name y py)) l env=pure true:=by
 have D:env.kindOf y=some .local:=j;have J:env.blockKind= .function:=by unfold Env.blockKind;rw[g];rfl
 unfold swapsWith;simp only[J,D,B,Expr.pos,z]
 rfl
end
def Sh{lo:Int}{g:TG}{N:TT}{te:TE}{O:Hp->Prop}(Pv:Nat->Hp->Prop)(U:Pv 0 (upd H1 D (.lst [])))
  (Y:∀i H,i < n->Pv i H->g (.int (lo+i)) (wipe σ vs) H λj H2=>wipe j vs=wipe σ vs/\N j H2 λb B=>
   if b=true then te j B λy J=>∃acc,J D=some (.lst acc)/\↑acc < sizeLine/\Pv (i+1) (upd J D (.lst (acc++[y]))) else Pv (i+1) B)(hd:∀H,Pv n H->O H):
  ∃W:Nat->Nat->Hp->Prop,(∃m,W 0 m (upd H1 D (.lst [])))/\∀i m H,W i m H->
   ((Itr lo n).stop i H/\O H)\/((Itr lo n).go i H/\∃M:Hp->Prop,(∀H',M H'->∃Q,Q < m/\W (i+1) Q H')/\∀x H',(Itr lo n).yld i H x H'->g x (wipe σ vs) H' λj H2=>wipe j vs=wipe σ vs/\N j H2 λb B=>
    if b=true then te j B λy J=>∃acc,J D=some (.lst acc)/\↑acc < sizeLine/\M (upd J D (.lst (acc++[y]))) else M B):=by
 show(λi m H=>m=n - i/\i<=n/\Pv i H,(n,⋯,d6 _,U),?_);rintro i m H ⟨rfl,hi,p⟩
 by_cases z:i < n
 ·show .inr (z,Pv (i+1),λH' Z=>(n - (i+1),by lia,rfl,z,Z),λx H' y=>?_);let(e,y):=y;subst e y;show Y i _ z p
 ·have e:i=n:=by lia
  subst e;show .inl (aT _,hd H p)
def Fi{K:bj}{g:TG}{N:TT}{te:TE}{O:Hp->Prop}(Pv:Nat->Hp->Prop)(U:Pv 0 (upd H1 D (.lst [])))(Y:∀i H,i<=↑xs->Pv i H->dg K H a xs)
  (Z:∀i x H,xs[i]? =some x->Pv i H->g x (wipe σ vs) H λj H2=>wipe j vs=wipe σ vs/\N j H2 λb z=>
   if b=true then te j z λy B=>∃acc,B D=some (.lst acc)/\↑acc < sizeLine/\Pv (i+1) (upd B D (.lst (acc++[y]))) else Pv (i+1) z)(hd:∀H,Pv ↑xs H->O H):
  ∃W:Nat->Nat->Hp->Prop,(∃m,W 0 m (upd H1 D (.lst [])))/\∀i m H,W i m H->
   ((Itl K a).stop i H/\O H)\/((Itl K a).go i H/\∃M:Hp->Prop,(∀H',M H'->∃Q,Q < m/\W (i+1) Q H')/\∀x H',(Itl K a).yld i H x H'->g x (wipe σ vs) H' λj H2=>wipe j vs=wipe σ vs/\N j H2 λb z=>
    if b=true then te j z λy B=>∃acc,B D=some (.lst acc)/\↑acc < sizeLine/\M (upd B D (.lst (acc++[y]))) else M z):=by
 show(λi m H=>m=↑xs - i/\i<=↑xs/\Pv i H,(↑xs,⋯,d6 _,U),?_);rintro i m H ⟨rfl,hi,p⟩;have q:=Y i H hi p
 by_cases J:i < ↑xs
 ·show .inr ((xs,xs[i],q,by simp[J]),Pv (i+1),λH' p'=>(↑xs - (i+1),by lia,rfl,J,p'),λx H' y=>?_);let(e,y):=y;subst e;show Z i x _ (y xs q) p
 ·have e:i=↑xs:=by lia
  subst e;show .inl ((xs,q,aT _),hd H p)
abbrev agi(N:List bV)(g scope:E8)(own:List (bV×Nat)):Bool:=
 (match scope.kind with| .function=>true|_=>false) && (scope.names.all λy=>decide (scope.names.lookup y.1=some y.2)) && (own.all λp=>decide (N[p.2]? =some p.1)) &&
  (scope.names.all λy=>match y.2 with
   | .free=>(match g.names.lookup y.1 with|some .cell=>true|some .free=>true|_=>false)
   | .local=>decide (y.1∈own.map (·.1)) || decide (y.1∉N)
   | .cell=>decide (y.1∈own.map (·.1)) || decide (y.1∉N)
   |_=>true)
def sg(h:agi N sc scope own=true):Sb N sc scope own:=by
 unfold agi at h;simp only[bf,d8,decide_eq_true_eq] at h;let(((h1,h2),z),j):=h;show(?_,h2,z,λy g e=>?_,λy g e=>?_)
 ·split at h1
  ·assumption
  ·cases h1
 ·have q:=j y g;simp only[e] at q
  split at q <;> first|show .inl (by assumption)|show .inr (by assumption)|cases q
 ·have q:=j y g;rcases e with e|e <;> (simp only[e,bw,decide_eq_true_eq] at q;show q)
section
variable{κ:Type}[DecidableEq κ]
abbrev l8(kvs:List (κ×V))(k:κ):Option V:=(kvs.find? λg=>decide (g.1=k)).map (·.2)
abbrev putK(kvs:List (κ×V))(k:κ)(v:V):List (κ×V):=
 if (kvs.any λg=>decide (g.1=k))=true then kvs.map (λg=>if g.1=k then(g.1,v,) else g) else kvs++[(k,v,)]
def oI{k:κ}(e:p.1=k):l8 (p ::r) k=some p.2:=by simp[l8,oM,e]
def oF{k:κ}(e:¬p.1=k):l8 (p ::r) k=l8 r k:=by simp[l8,oM,e]
def Ei(k:κ):∀kvs:List (κ×V),(kvs.any λg=>decide (g.1=k))=(l8 kvs k).isSome
 |[]=>rfl
 |p ::r=>by
  rw[iE]
  by_cases e:p.1=k
  ·simp only[oI e,decide_eq_true e,Rl,oo]
  ·rw[oF e,decide_eq_false e,mL];show Ei k r
def Sn(k j:κ)(y:V):∀kvs:List (κ×V),l8 (kvs.map λg=>if g.1=k then(g.1,y,) else g) j=(l8 kvs j).map λx=>if j=k then y else x
 |[]=>rfl
 |p ::r=>by
  have B:=Sn k j y r;rw[cg]
  by_cases h:p.1=k
  ·rw[h9 h]
   by_cases e:p.1=j
   ·rw[oI (p:=(p.1,y,)) e,oI e,sQ,h9 (e.symm.trans h)]
   ·rw[oF (p:=(p.1,y,)) e,oF e,B]
  ·rw[h8 h]
   by_cases e:p.1=j
   ·rw[oI (p:=p) e,oI e,sQ,h8 (λz=>h (e.trans z))]
   ·rw[oF (p:=p) e,oF e,B]
def O5(k j:κ)(y:V):∀kvs:List (κ×V),l8 kvs k=none->l8 (kvs++[(k,y,)]) j=if j=k then some y else l8 kvs j
 |[],_=>by
  by_cases e:k=j
  ·rw[h9 e.symm];show oI (p:=(k,y,)) e
  ·rw[h8 (λz=>e z.symm)];show oF (p:=(k,y,)) e
 |p ::r,g=>by
  rw[ia];have B:¬p.1=k:=λz=>by rw[oI z] at g;cases g
  rw[oF B] at g;have D:=O5 k j y r g
  by_cases e:p.1=j
  ·rw[oI e,oI e,h8 (λz=>B (e.trans z))]
  ·rw[oF e,oF e,D]
def MC(kvs:List (κ×V))(k j:κ)(y:V):l8 (putK kvs k y) j=if j=k then some y else l8 kvs j:=by
 unfold putK
 by_cases a:(kvs.any λg=>decide (g.1=k))=true
 ·rw[h9 a,Sn];rw[Ei] at a
  by_cases e:j=k
  ·let(x,hx):=Bc.mp a;rw[h9 e,e,hx,sQ,h9 rfl]
  ·rw[h8 e]
   cases l8 kvs j with
   |none=>rfl
   |some x=>rw[sQ,h8 e]
 ·rw[h8 a];show O5 k j y kvs ?_;rw[Ei] at a
  cases q:l8 kvs k with
  |none=>rfl
  |some x=>rw[q] at a;show(a rfl).elim
def E2(kvs:List (κ×V))(k:κ)(v:V):↑(putK kvs k v)<=↑kvs+1:=by
 unfold putK
 split
 ·rw[aQ];lia
 ·rw[aY,a_,cW];lia
def Yg{k:κ}(v:V)(h:l8 kvs k=none):putK kvs k v=kvs++[(k,v,)]:=by
 unfold putK;rw[Ei,h];show h8 (by decide)
def CO.Fn(r:CO o u):o.isSome=u.isSome:=by
 cases o with
 |none=>cases u with
  |none=>rfl
  |some _=>show(show False from r).elim
 |some _=>cases u with
  |none=>show(show False from r).elim
  |some _=>rfl
def CO.getD(r:CO o u)(rd:RelV d d'):RelV (o.getD d) (u.getD d'):=by
 cases o with
 |none=>cases u with
  |none=>show rd
  |some _=>show(show False from r).elim
 |some _=>cases u with
  |none=>show(show False from r).elim
  |some _=>show r
def KV.val(r:KV kvs vs)(k:κ):CO (l8 kvs k) (valueAt vs k):=by
 unfold KV at r
 induction r with
 |nil=>show zd
 |@cons p q ps g h t B=>
  let(h1,h2):=h
  by_cases e:p.1=k
  ·have j:q.1=k:=h1.symm.trans e;have b:valueAt (q ::g) k=some q.2:=by simp[valueAt,oM,j]
   rw[oI e,b];show h2
  ·have j:¬q.1=k:=λz=>e (h1.trans z);have b:valueAt (q ::g) k=valueAt g k:=by simp[valueAt,oM,j]
   rw[oF e,b];show B
def KV.any(r:KV kvs vs)(k:κ):(kvs.any λg=>decide (g.1=k))=vs.any λg=>decide (g.1=k):=by
 unfold KV at r
 induction r with
 |nil=>rfl
 |cons h t j=>rw[iE,iE,j,h.1]
def KV.aep(r:KV kvs vs)(k:κ)(j:RelV y u):
  KV (kvs.map λg=>if g.1=k then(g.1,y,) else g) (vs.map λg=>if g.1=k then(g.1,u,) else g):=by
 unfold KV at r ⊢
 induction r with
 |nil=>show .nil
 |@cons p q ps D h t B=>
  rw[cg,cg];show .cons ?_ B;let(h1,h2):=h
  by_cases e:p.1=k
  ·rw[h9 e,h9 (h1.symm.trans e)];show(h1,j)
  ·rw[h8 e,h8 (λz=>e (h1.trans z))];show(h1,h2)
def KV.put(r:KV kvs vs)(k:κ)(g:RelV y u):KV (putK kvs k y) (stored vs k u):=by
 unfold putK stored;rw[r.any k]
 by_cases e:(vs.any λj=>decide (j.1=k))=true
 ·rw[h9 e,h9 e];show r.aep k g
 ·rw[h8 e,h8 e];show Tc r (rfl,g)
def KV.length(r:KV kvs vs):↑kvs=↑vs:=bT r
end
def NG(r:RelV (kV k) u):(jY P w).is k u=true:=by
 cases k with
 |inl i=>let(t,e):=(show ∃t,u=uA i t from r);subst e;show Rx P w i t
 |inr x=>let(t,e):=(show ∃t,u=KJ x t from r);subst e;show R3 P w x t
def OJ:∀{g:List Key} {us:List bM},Vals (g.map kV) us->ItemsAre (jY P w) g us
 |[],_,r=>by rw[gE] at r;cases r;show .nil
 |k ::g,_,r=>by
  rw[cg] at r
  cases r with
  |cons h t=>show .cons (NG h) (OJ t)
meta abbrev KT(H:Hp):List (List Key×V)->List (List Key×aW×bM)->Prop:=Paired λp q=>p.1=q.1/\H q.2.1=some (.tup (p.1.map kV))/\RelV p.2 q.2.2
def KT.val(r:KT H kvs xs)(k:List Key):CO (l8 kvs k) ((atKey xs k).map (·.2)):=by
 induction r with
 |nil=>show zd
 |@cons p q ps g h t B=>
  let(h1,_,h2):=h
  by_cases e:p.1=k
  ·have j:q.1=k:=h1.symm.trans e;have b:atKey (q ::g) k=some q.2:=by simp[atKey,oM,j]
   rw[oI e,b];show h2
  ·have j:¬q.1=k:=λz=>e (h1.trans z);have b:atKey (q ::g) k=atKey g k:=by simp[atKey,oM,j]
   rw[oF e,b];show B
def KT.aep(r:KT H kvs xs)(k:List Key)(j:RelV y u):
  KT H (kvs.map λg=>if g.1=k then(g.1,y,) else g) (xs.map (putAt k u)):=by
 induction r with
 |nil=>show .nil
 |@cons p q ps J h t B=>
  rw[cg,cg];show .cons ?_ B;let(h1,h2,D):=h;unfold putAt
  by_cases e:p.1=k
  ·rw[h9 e,h9 (h1.symm.trans e)];show(h1,h2,j)
  ·rw[h8 e,h8 (λz=>e (h1.trans z))];show(h1,h2,D)
def KT.put(r:KT H kvs xs)(k:List Key)(j:H b=some (.tup (k.map kV)))(g:RelV y u):
  KT H (putK kvs k y) (storedH xs k b u):=by
 have e:(kvs.any λz=>decide (z.1=k))=(atKey xs k).isSome:=by
  rw[Ei,(r.val k).Fn,JH]
 unfold putK storedH;rw[e]
 by_cases q:(atKey xs k).isSome=true
 ·rw[h9 q,h9 q];show r.aep k g
 ·rw[h8 q,h8 q];show Tc r (rfl,j,g)
def KT.keeps(r:KT H kvs xs)(g:∀b ys,H b=some (.tup ys)->H' b=some (.tup ys)):KT H' kvs xs:=
 Paired.jh r λ_ _ z=>(z.1,g _ _ z.2.1,z.2.2)
section
variable{P:fm}{w:e_}{H:Hp}{h:jj}{a:aW}
def acQ(ok:Ew P w H h)(e:Rd H a u):lZ P w H h a u:=e.ok ok
def Wa(ok:Ew P w H h)(e:Rd H a (.dK kvs)):↑kvs<=sizeLine/\(a==sysModules)=false/\∃vs,KV kvs vs/\h.DictOf (jY P w) a vs:=
 show lZ P w H h a (.dK kvs) from acQ ok e
def agK(ok:Ew P w H h)(e:H a=some (.dK kvs)):↑kvs<=sizeLine/\(a==sysModules)=false/\∃vs,KV kvs vs/\h.DictOf (jY P w) a vs:=Wa ok (.inl e)
def QS(ok:Ew P w H h)(e:H a=some (.tup (j.map kV))):(tupleKind (jY P w)).is h j a:=by
 let(_,g,r,o,h1,h2,n,z):=(show lZ P w H h a (.tup (j.map kV)) from ok a _ e);show(o,g.toArray,n,h1,h2,z,by simpa using OJ r)
def V3(ok:Ew P w H h)(e:Rd H a (.dT kvs)):↑kvs<=sizeLine/\(a==sysModules)=false/\
  ∃xs,KT H kvs xs/\h.DictOfH (tupleKind (jY P w)) a xs:=by
 let(z,y,xs,r,o,es,ep,h1,h2,j,B,D):=(show lZ P w H h a (.dT kvs) from acQ ok e);show(z,y,xs,r,o,es,ep,h1,h2,j,B,λx hx=>?_,D)
 have all:∀{l:List (List Key×V)} {m:List (List Key×aW×bM)},KT H l m->∀x∈m,(tupleKind (jY P w)).is h x.1 x.2.1:=by
  intro l m q
  induction q with
  |nil=>intro x hx;show nomatch hx
  |@cons p q ps M g t J=>
   intro x hx;rcases bo.mp hx with e|hx
   ·subst e;show QS ok (by rw[←g.1];show g.2.1)
   ·show J x hx
 show all r x hx
def afx(ok:Ew P w H h)(e:H a=some (.dT kvs)):↑kvs<=sizeLine/\(a==sysModules)=false/\
 ∃xs,KT H kvs xs/\h.DictOfH (tupleKind (jY P w)) a xs:=V3 ok (.inl e)
end
abbrev Eg(H:Hp)(a:aW)(y:V)(r:Option V):Prop:=
 (∃kvs k,Rd H a (.dK kvs)/\y=kV k/\r=l8 kvs k)\/∃kvs k b,Rd H a (.dT kvs)/\y= .ref b/\H b=some (.tup (k.map kV))/\r=l8 kvs k
abbrev LO(H:Hp)(a:aW)(y v:V)(H':Hp):Prop:=
 (∃kvs k,H a=some (.dK kvs)/\y=kV k/\↑kvs < sizeLine/\H'=upd H a (.dK (putK kvs k v)))\/
 ∃kvs k b,H a=some (.dT kvs)/\y= .ref b/\H b=some (.tup (k.map kV))/\↑kvs < sizeLine/\H'=upd H a (.dT (putK kvs k v))
def Eg.k{k:Key}(e:H a=some (.dK kvs)):Eg H a (kV k) (l8 kvs k):= .inl (kvs,k,.inl e,rfl,rfl)
def Eg.t{k:List Key}(e:H a=some (.dT kvs))(g:H b=some (.tup (k.map kV))):Eg H a (.ref b) (l8 kvs k):= .inr (kvs,k,b,.inl e,rfl,g,rfl)
def LO.k{k:Key}(e:H a=some (.dK kvs))(g:↑kvs < sizeLine):LO H a (kV k) v (upd H a (.dK (putK kvs k v))):= .inl (kvs,k,e,rfl,g,rfl)
def LO.t{k:List Key}(e:H a=some (.dT kvs))(g:H b=some (.tup (k.map kV)))(j:↑kvs < sizeLine):
 LO H a (.ref b) v (upd H a (.dT (putK kvs k v))):= .inr (kvs,k,b,e,rfl,g,j,rfl)
section
variable{X:Cx}{pins:List (aW×uG)}{σ:St}{H:Hp}{s:b9}{a:aW}{y v:V}{u r:bM}{o:Option V}{A:t5}{E:bM->b9->Prop}
def Inv.big(I:Inv X pins σ H s):sysModules < s.heap.objs.size:=by
 have h:mainGlobals < s.heap.objs.size:=(I.mod.glob.keeps I.bk).lt;show Nat.lt_trans (by decide) h
def WX(hu:A.units+1 < cLine)(I:Inv X pins σ H s)(g:Eg H a y (some v))(O:RelV y u)(h:∀B s',Inv X pins σ H s'->RelV v B->Q B s'):
  wpAny (model X.prog X.w) A (getItem (.ref a) u) Q E s:=by
 rcases g with⟨kvs,k,e,D,l⟩|⟨kvs,k,b,e,D,U,l⟩
 ·subst D;let(z,hd,vs,rel,J):=Wa I.gV e;let(B,M,j):=CO.some_of (v:=v) (o:=valueAt vs k) (by rw[l];show rel.val k);show K4 (NG O) J.mapOf M (h B _ (I.tok _) j)
 ·subst D
  cases(show u=f7 b from O)
  let(z,hd,xs,rel,J):=V3 I.gV e;let(B,M,j):=CO.some_of (v:=v) (o:=(atKey xs k).map (·.2)) (by rw[l];show rel.val k);let(p,Y,N):=ot.mp M;show wpAny_getItem_heap (zu hu) (QS I.gV U) J Y ?_;rw[N];show h B _ (I.tok _) j
def abG(hu:A.units+1 < cLine)(I:Inv X pins σ H s)(g:Eg H a y o)(D:RelV y u)(h:∀s',Inv X pins σ H s'->Q (.bool (!o.isSome)) s'):
  wpAny (model X.prog X.w) A (compareOp .NotIn u (.ref a)) Q E s:=by
 rcases g with⟨kvs,k,e,j,l⟩|⟨kvs,k,b,e,j,J,l⟩
 ·subst j;let(z,hd,vs,rel,B):=Wa I.gV e;show wpAny_notIn_of (NG D) hd B.mapOf ?_;rw[←(rel.val k).Fn,←l];show h _ (I.tok _)
 ·subst j
  cases(show u=f7 b from D)
  let(z,hd,xs,rel,B):=V3 I.gV e;show wpAny_notIn_heap (zu hu) (QS I.gV J) hd B ?_;have q:=(rel.val k).Fn;rw[JH] at q;rw[←q,←l];show h _ (I.tok _)
def Vh(I:Inv X pins σ H s)(j:Mut (H a))(B:yp a s.heap h')(D:∃q,h'.get? a=some q)(new:lZ X.prog X.w (upd H a g) h' a g):
  Inv X pins σ (upd H a g) {s with heap:=h',toks:=t'}:=
 I.write (x:=a) (e:=a) j (.inl rfl) (λb q J z=>(B.2 b J).trans z) D new
def adg(z:↑kvs<=sizeLine)(hd:(a==sysModules)=false)(rel:KV kvs vs)(g:h'.DictOf (jY P w) a vs):
 lZ P w H' h' a (.dK kvs):=(z,hd,vs,rel,g)
def WG(hu:A.units+1 < cLine)(I:Inv X pins σ H s)(g:LO H a y v H')(Y:RelV y u)(rv:RelV v r)(h:∀s',Inv X pins σ H' s'->Q () s'):
  wpAny (model X.prog X.w) A (setItem (.ref a) u r) Q E s:=by
 rcases g with⟨kvs,k,e,D,l,J⟩|⟨kvs,k,b,e,D,Z,l,J⟩
 ·subst D J;let(z,hd,vs,rel,M):=agK I.gV e;have N:↑vs<=sizeLine:=by rw[←rel.length];show z
  have O:↑(putK kvs k v)<=sizeLine:=by have:=E2 kvs k v;lia
  show wpAny_setItem_pairs (hsz:=N) (NG Y) M λh' j U=>h _ ?_;have he:∃q,h'.get? a=some q:=let(q,_,_,B,_):=j;(q,B);show Vh I (by rw[e];show zd) U he (adg O hd (rel.put k rv) j)
 ·subst D J
  cases(show u=f7 b from Y)
  let(z,hd,xs,rel,M):=afx I.gV e;have N:↑xs<=sizeLine:=by rw[←bT rel];show z
  have O:↑(putK kvs k v)<=sizeLine:=by have:=E2 kvs k v;lia
  show wpAny_setItem_heap (hsz:=N) (zu hu) (QS I.gV Z) M λh' j U=>h _ ?_;let(q,es,ep,B,h2,h3,h4,_,h5):=j;show Vh I (by rw[e];show zd) U (q,B) (O,hd,_,(rel.put k Z rv).keeps λc ys ec=>?_,q,es,ep,B,h2,h3,h4,h5);rw[bc (eV ec e (λz=>nomatch z))];show ec
end
abbrev ad7(i:jS):Prop:=∀g j,subscripted i false g j=operate [g,j] (getItem g j)
def V8{T id:String}
  (D:typeLookup (.type T) "__getitem__" =pure (some (.builtin id)))(J:ad7 slice)
  (h:wpAny (model prog w) A (eval value env) (λo z=>wpAny (model prog w) A (eval slice env) (λi g=>g.TypeIs o T/\wpAny (model prog w) A (getItem o i) Q E g) E z) E s):
  wpAny (model prog w) A (eval (.Subscript value slice pos) env) Q E s:=by
 show NT (ja h (λo z M=>ja M (λi g j=>?_) λ_ _ x=>x) λ_ _ x=>x);let(hT,j):=j;unfold subscriptTail;show bL ?_;rw[getitemInPython_of_ne hT.not_modules];show bL (wpAny_specialOf hT D ?_)
 have fin:wpAny (model prog w) A (subscripted slice false o i) (λr B=>wpAny (model prog w) A (letTemporaryGo value o r >>=λ_=>pure r) Q E B) E g:=by
  rw[J o i];show wpAny_operating (ja j (λr B N=>bL (wpAny_letTemporaryGo (dF N))) λ_ _ x=>x)
 first
  |show dF (bL fin)
  |show bL (dF (bL fin))
  |show bL fin
def Sk(I:Inv X pins σ H s)(g:Eg H a y o):s.TypeIs (.ref a) "dict" :=by
 rcases g with⟨kvs,k,e,_,_⟩|⟨kvs,k,b,e,_,_,_⟩
 ·let(_,_,vs,_,j):=Wa I.gV e;show j.typeIs
 ·let(_,_,xs,_,j):=V3 I.gV e;show j.typeIs
abbrev acr(td ty:TE):TE:=λσ H Q=>td σ H λx H1=>ty σ H1 λy H2=>kR x λa=>∃v,Eg H2 a y (some v)/\Q v H2
abbrev Vn(ty td:TE):TE:=λσ H Q=>ty σ H λy H1=>td σ H1 λx H2=>kR x λa=>∃o,Eg H2 a y o/\Q (.bl (!o.isSome)) H2
abbrev acq(td ty tv:TE):TS:=λD σ H=>tv σ H λv H1=>td σ H1 λx H2=>ty σ H2 λy j=>∃a g,x= .ref a/\LO j a y v g/\D.nx σ g
section
variable{X:Cx}{o i e value:jS}{pos aF az:Ie}{td ty tv:TE}
def L0(hu:X.A.units+1 < cLine)(B:PE X o td)(hi:PE X i ty)(D:ad7 i):PE X (.Subscript o i pos) (acr td ty):=by
 intro pins s σ H Q I h;show V8 zN.lookup D (jI (B pins s σ H _ I h) λu J (x,H1,M,N,O)=>jI (hi pins J σ H1 _ M O) λiv s2 (y,H2,z,U,Y)=>?_);let(a,ex,v,g,Z):=qF Y;subst ex;obtain rfl:u=f7 a:=N;show(Sk z g,WX hu z g U λw' s3 I3 j=>(v,H2,I3,j,Z))
def W_(hu:X.A.units+1 < cLine)(hi:PE X i ty)(j:PE X o td):PC X .NotIn i o (Vn ty td):=by
 intro pins s σ H Q I h;show jI (hi pins s σ H _ I h) λiv z (y,H1,B,D,J)=>jI (j pins z σ H1 _ B J) λu s2 (x,H2,M,N,O)=>?_;let(a,ex,U,g,Y):=qF O;subst ex;obtain rfl:u=f7 a:=N;show abG hu M g D λs3 Z=>(.bl (!U.isSome),H2,Z,rfl,Y)
def L6(hu:X.A.units+1 < cLine)(j:PE X o td)(hi:PE X i ty)(z:PE X value tv)(B:swapsWith value (some (.Subscript o i aF)) pos.line X.env=pure false):
  PS X (.Assign [.Subscript o i aF] value pos) (acq td ty tv):=by
 intro pins s σ H D I h;show wpAny_Assign_Subscript (jI (z pins s σ H _ I h) λr J (v,H1,M,rv,N)=>jI (j pins J σ H1 _ M N) λu O (x,H2,Q,U,Y)=>jI (hi pins O σ H2 _ Q Y) λiv s3 (y,H3,Z,ry,a,H4,ex,g,q3)=>?_) B;subst ex;obtain rfl:u=f7 a:=U;show WG hu Z g ry rv λs4 I4=>(σ,H4,I4,q3)
end
def Yu(h:jj)(g:sysModules < h.objs.size):lZ P w H (h.push {cls:= .type "dict",data:= .dict #[]}) h.objs.size (.dK []):=
 (d6 _,beq_eq_false_iff_ne.mpr (d5 (fu g)),[],.nil,Xy h)
def Y4(h:jj)(g:sysModules < h.objs.size):lZ P w H (h.push {cls:= .type "dict",data:= .dict #[]}) h.objs.size (.dT []):=
 (d6 _,beq_eq_false_iff_ne.mpr (d5 (fu g)),[],.nil,_,#[],0,cZ _ rfl,(rfl,rfl,rfl),rfl,rfl,nz)
abbrev Zl:TE:=λ_ H Q=>∀p,H p=none->Q (.ref p) (upd H p (.dK []))
abbrev YJ:TE:=λ_ H Q=>∀p,H p=none->Q (.ref p) (upd H p (.dT []))
section
variable{X:Cx}{pos:Ie}
def R4:PE X (.Dict [] [] pos) Zl:=λpins s σ H Q I h=>
 K6 (.ref s.heap.objs.size,_,I.laid (a:=s.heap.objs.size) (o:= .dK []) (t':=s.toks) (λ_ _ q=>bE _ q) (aT _) (Yu s.heap I.big),rfl,h _ (I.gV.fresh (aT _)))
def ZO:PE X (.Dict [] [] pos) YJ:=λpins s σ H Q I h=>
 K6 (.ref s.heap.objs.size,_,I.laid (a:=s.heap.objs.size) (o:= .dT []) (t':=s.toks) (λ_ _ q=>bE _ q) (aT _) (Y4 s.heap I.big),rfl,h _ (I.gV.fresh (aT _)))
end
structure M2(X:Cx)(o:jS)(m:bV)(ai:Ie)(e f:jS)(aq:Ie):Prop where
 base:attributeBase o m X.env (eval o X.env)=eval o X.env
 few:((backTo aq (starEach [e,f] X.env)).all (λx=>!x.1) && (backToKw aq (keywordEach [] X.env)).all (λx=>x.1.isSome)
  && decide (↑([e,f]:List jS)+↑([]:List Rk)+(if ([]:List Rk).isEmpty then 0 else 1) < 30))=true
 line:(ai.endLine==aq.line)=true
 trees:backTo aq (starEach [e,f] X.env)=[(false,eval e X.env,),(false,eval f X.env,)]
section
variable{X:Cx}{pins:List (aW×uG)}{σ:St}{H:Hp}{s:b9}{h':jj}
def Inv.VC{ch:List aW}(I:Inv X pins σ H s)(k:∀b o,b∉ch->s.heap.get? b=some o->h'.get? b=some o)(j:∀b∈ch,LM X pins H b):Inv X pins σ H {s with heap:=h',toks:=t'}:=by
 have B:∀b u,H b=some u->b∉ch:=λb u e z=>by
  have q:=(j b z).1;rw[q] at e;cases e
 show I.step (g':=s.gens) (d':=s.drawn) (ch:=ch) (λb D=>((j b D).2.2.2.1,(j b D).2.1,(j b D).2.2.2.2.1,(j b D).2.2.2.2.2)) (λb o _ _ g e _=>k b o g e) (λb o _ _ g e _=>(o.slots,k b o g e))
  (λ_ _ _ _ n=>n) (λb o g e=>(o,k b o g e)) (λ_ _ e=>e) (λ_ _ _ e=>e) (λb ps e=>(#[],by rw[e];simp)) (λm J=>?_) (λb u e=>?_) I.bare
 ·let(o,es,ep,M,r):=J;show(o,es,ep,k _ o (λz=>(j _ z).2.1 rfl) M,r)
 ·show(I.gV b u e).UX (λc v g q=>k c v ?_ q) (λ_ q=>q) λ_ _ q=>q;rcases g with z|z
  ·rw[z];show B b u e
  ·show B c _ z
def Inv.Kk{ch:List aW}(I:Inv X pins σ H s)(k:∀b o,b∉ch->s.heap.get? b=some o->h'.get? b=some o)(B:∀b∈ch,LM X pins H b)(hT:s.heap.objs.size<=T)
  (new:lZ X.prog X.w (upd H T M) h' T M):Inv X pins σ (upd H T M) {s with heap:=h',toks:=t'}:=by
 have D:H T=none:=I.gV.fresh hT
 have J:∀b u,H b=some u->b∉ch:=λb u e z=>by
  have q:=(B b z).1;rw[q] at e;cases e
 show I.step (g':=s.gens) (d':=s.drawn) (ch:=ch) (λb g=>((B b g).2.2.2.1,(B b g).2.1,(B b g).2.2.2.2.1,(B b g).2.2.2.2.2)) (λb o _ _ j e _=>k b o j e) (λb o _ _ j e _=>(o.slots,k b o j e))
  (λb o _ e n=>?_) (λb o j e=>(o,k b o j e)) (λb xs e=>?_) (λb o u e=>?_) (λb ps e=>(#[],?_)) (λm N=>?_) (λb u e=>?_) I.bare
 ·rw[bc (fu (bF (cn e) hT))];show n
 ·rw[bc (bb e D)];show e
 ·rw[bc (bb e D)];show e
 ·rw[bc (bb e D),e];simp
 ·let(o,es,ep,O,r):=N;show(o,es,ep,k _ o (λz=>(B _ z).2.1 rfl) O,r)
 ·by_cases g:b=T
  ·subst g;rw[aV] at e
   cases e
   show new
  ·rw[bc g] at e;show(I.gV b u e).UX (λc v j q=>k c v ?_ q) (λc q=>by rw[bc (bb q D)];show q) λc xs q=>by rw[bc (bb q D)];show q
   rcases j with z|z
   ·rw[z];show J b u e
   ·show J c _ z
end
section
variable{X:Cx}
def ac_(I:Inv X pins σ H s)(o:uG)
  (T:Turn X.prog X.w X.K tg J [s.heap.objs.size] s.heap.objs.size tn)(st:tn 0 (s.heap.push o))(q:R J H):PIE X pins σ tg R (.ref s.heap.objs.size) {s with heap:=s.heap.push o,toks:=tk}:=by
 show(s.heap.objs.size,[s.heap.objs.size],tn,J,H,rfl,I.kept λb j e=>bE _ e,T,st,λb g=>?_,q);have e:b=s.heap.objs.size:=by simpa using g
 subst e;show I.Uo (aT _) (I.gV.fresh (aT _))
end
abbrev Itc(lo c:Int)(n:Nat):It:=(λi _=>i < n,λi H x H'=>H'=H/\x= .int (lo+(i:Nat)*c),λi _=>n<=i)
def SR{P:fm}{w:e_}{K:bj}{tg:jS}(g:aW)(lo c:Int)(n:Nat):Turn P w K tg (Itc lo c n) [g] g (λi h=>Fb h g (lo+(i:Nat)*c) ((n:Int) - (i:Nat)) c) where
 mem:=by simp
 obj:=λi h st b j=>by
  have e:b=g:=by simpa using j
  subst e;show(_,st,λv z=>nomatch z)
 keep:=λi h h' st k=>k g ⋯ _ st
 item:=by
  intro X D J M N i pins s σ H E I B st O;subst D J M;let(U,Y,f2,Z,f4,f5):=B g ⋯;have W:=Te (prog:=X.prog) (w:=X.w) (I.ok.hd N) g lo c n;show W.item i s _ _ O st λv h' tk hv st' kk=>?_;let(t,rfl):=hv;have I1:Inv X pins σ H {s with heap:=h',toks:=tk}:=I.turned (λb o j e=>kk b o (by simpa using j) e) U Y Z f4 f5;show(_,rfl,XN (s:={s with heap:=h',toks:=tk}) (n:="range_iterator") st' rfl rfl (by decide) (.int (lo+(i:Nat)*c),H,I1,(t,rfl),(rfl,rfl),st',λb j=>(B b j).1))
 done:=by
  intro X D J M N i pins s σ H E I B st O;subst D J M;let(U,Y,f2,Z,f4,f5):=B g ⋯;show C6 (I.ok.hd N) st (by have:n<=i:=O;lia) λh' eb=>(rfl,I.turned (t':=s.toks) (λb o j e=>eb b o j e) U Y Z f4 f5)
 self:=λA i s Q E st h=>C7 st h
abbrev RgC(i j c:Int)(n:Nat):Prop:=c≠0/\c.natAbs < 1073741824/\Tw i j c=true/\uD i j c=n
def RgC.neg(B:-(2^62)<=i)(g:i < 2^62)(D:-(2^62)<=j)(z:j < 2^62):RgC i j (-1) (i - j).toNat:=
 (by decide,by decide,PySem.W.small_down B g D z,PySem.W.rangeSize_downNat i j)
abbrev acF(ta:TA):TI:=λσ H R=>ta σ H λvs H1=>∃(i j c:Int) (n:Nat),vs=[.int i,.int j,.int c]/\RgC i j c n/\R (Itc i c n) H1
section
variable{X:Cx}{tg:jS}
def O7(M:Gl X "range")(N:X.mg "range" =none)(O:PA X [a,b,c] ta)
  (Q:starEach [a,b,c] X.env=(false,eval a X.env,) ::starEach [b,c] X.env:=by rfl)(B:(backTo pos (starEach [b,c] X.env)).any (·.1)=false:=by rfl):
  PI X tg (.Call (.Name "range" p) [a,b,c] [] pos) (acF ta):=by
 intro pins s σ H R I h;show Wh (HG I M N boot_range (gX (jI (O pos pins s σ H _ I h) λus z (vs,H1,U,Y,Z)=>?_) Q B));let(i,j,k,n,e,(c0,c1,c2,c3),q):=Z;subst e
 cases Y with
 |cons r g=>
  cases g with
  |cons r' g=>
   cases g with
   |cons D g=>
    cases g
    let(t,rfl):=r;let(t',rfl):=r';let(J,rfl):=D;show call_range_3 c0 ?_ (.inl (C2 c1));show Ia (S8 ..) c2 ?_;have I2:Inv X pins σ H1 {z with heap:=z.heap.push {cls:= .type "range",data:= .fields #[.int i t,.int j t',.int k J]}}:=U.kept (t':=z.toks) λb o e=>bE _ e;show ac_ (tk:=z.toks) I2 _ (SR _ i k n) ?_ q;have e1:i+((0:Nat):Int)*k=i:=by simp
    have e2:(n:Int) - ((0:Nat):Int)=uD i j k:=by rw[c3];simp
    change Fb _ _ (i+((0:Nat):Int)*k) ((n:Int) - ((0:Nat):Int)) k;rw[e1,e2];show cZ _ rfl
end
def Nq{lo c:Int}{g:TG}{tb:TS}{D:Ends}(Pv:Nat->St->Hp->Prop)(M:Pv 0 σ H)
  (O:∀i σ H,i < n->Pv i σ H->g (.int (lo+(i:Nat)*c)) σ H λz H2=>tb {D with nx:=Pv (i+1),ct:=Pv (i+1),bk:=D.nx} z H2)(hd:∀σ H,Pv n σ H->D.nx σ H):
  ∃W:Nat->Nat->St->Hp->Prop,(∃m,W 0 m σ H)/\∀i m σ H,W i m σ H->
   ((Itc lo c n).stop i H/\D.nx σ H)\/((Itc lo c n).go i H/\∃N:St->Hp->Prop,(∀B H',N B H'->∃J,J < m/\W (i+1) J B H')/\∀x H',(Itc lo c n).yld i H x H'->g x σ H' λz H2=>tb {D with nx:=N,ct:=N,bk:=D.nx} z H2):=by
 show(λi m σ H=>m=n - i/\i<=n/\Pv i σ H,(n,⋯,d6 _,M),?_);rintro i m σ H ⟨rfl,hi,p⟩
 by_cases j:i < n
 ·show .inr (j,Pv (i+1),λB H' Q=>(n - (i+1),by lia,rfl,j,Q),λx H' y=>?_);let(e,y):=y;subst e y;show O i σ _ j p
 ·have e:i=n:=by lia
  subst e;show .inl (aT _,hd σ H p)
def ZL(h:Gy k u=true):RelV (kV k) u:=by
 rcases kN h with⟨i,t,rfl,rfl⟩|⟨x,t,rfl,rfl⟩
 ·show(t,rfl)
 ·show(t,rfl)
abbrev Ite(K:bj)(a:aW):It:=
 (λi H=>∃(xs:List V) (x:V),dg K H a xs/\xs[i]? =some x,λi H v H'=>∃T x,v= .ref T/\H T=none/\H'=upd H T (.tup [.int (i:Nat),x])/\∀xs,dg K H a xs->xs[i]? =some x,λi H=>∃xs:List V,dg K H a xs/\↑xs<=i)
def W7{P:fm}{w:e_}{K:bj}{elts:List jS}{kk:Nat}{az:Ie}(a e j:aW):
  Turn P w K (.Tuple elts kk az) (Ite K a) [e,j] e (λi h=>(∃old,IsEnum h e j ((i:Nat):Int) old)/\h.IsListIter j a i/\e≠j) where
 mem:=by simp
 obj:=λi h st b B=>by
  let((old,D),(o,Y,Z,hd),_):=st;have e':b=e\/b=j:=by simpa using B
  rcases e' with z|z
  ·rw[z];show(_,D,λv q=>nomatch q)
  ·rw[z];show(o,Y,λv q=>by rw[hd] at q;cases q)
 keep:=λi h h' st k=>let((old,D),hi,g):=st;((old,k e ⋯ _ D),hi.at λo q=>k j ⋯ o q,g)
 item:=by
  intro X hP hw hK Z i pins s σ H E I O st hg;subst hP hw hK;let((old,D),hit,g):=st;let(xs,x,U,hx):=hg;let(ah,rv,p,hz):=I.list U;let(u,hu,ru):=rv.get hx;have M:e < s.heap.objs.size:=cn D;have ar:j < s.heap.objs.size:=by let(_,q,_):=hit;show cn q
  show wpAny_pyNext_enum_item D hit p.isList (x:=u) (by simpa using hu) g λh' Y N hT hsz hk=>?_;show(_,rfl,wpAny_letOwnedTupleGo_enum (s:={s with heap:=h',toks:=s.toks+1}) Y λJ av sb=>?_);have aA:J.get? s.heap.objs.size=some {cls:= .type "tuple",data:= .seq #[.int i s.toks,u]}:=(sb.2 _ (vp M)).trans hT
  have new:lZ X.prog X.w (upd H s.heap.objs.size (.tup [.int (i:Nat),x])) J s.heap.objs.size (.tup [.int (i:Nat),x]):=
   (by change 2<=sizeLine;decide,[.int i s.toks,u],.cons (_,rfl) (.cons ru .nil),(_,aA,rfl,_,rfl))
  have I1:Inv X pins σ (upd H s.heap.objs.size (.tup [.int (i:Nat),x])) {s with heap:=J,toks:=s.toks+1}:=
   I.Kk (ch:=[e,j]) (λb ob B q=>(sb.2 b (λz=>B (by simp[z]))).trans (hk b ob (λz=>B (by simp[z])) (λz=>B (by simp[z])) q)) O (aT _) new
  show(.ref s.heap.objs.size,_,I1,rfl,(_,x,rfl,I.gV.fresh (aT _),rfl,λys hy=>by rw[I.E6 hy U];show hx),((u,?_),N.at λo q=>(sb.2 j (d5 g)).trans q,g),λb B=>?_)
  ·have e1:((i+1:Nat):Int)=(i:Int)+1:=by lia
   rw[e1];show av
  ·have aE:b < s.heap.objs.size:=by
     have e':b=e\/b=j:=by simpa using B
     rcases e' with z|z
     ·rw[z];show M
     ·rw[z];show ar
   rw[bc (fu aE)];show(O b B).1
 done:=by
  intro X hP hw hK Z i pins s σ H E I O st hg;subst hP hw hK;let((old,D),hit,g):=st;let(xs,U,hx):=hg;let(ah,rv,p,hz):=I.list U;let(f0,f1,f2,f3,f4,f5):=O j ⋯;have hl:=↑rv;show wpAny_pyNext_enum_end (I.ok.hd Z) D hit p.isList (by simp;lia) λh' eb=>(rfl,I.turned (t':=s.toks) (λb o B q=>eb b o B q) f0 f1 f3 f4 f5)
 self:=λA i s Q E st h=>let((_,D),_):=st;JQ D h
abbrev acy(K:bj)(ta:TA):TI:=λσ H R=>ta σ H λvs H1=>k1 vs λy=>kR y λa=>∃xs,dg K H1 a xs/\R (Ite K a) H1
def Fs(D:Gl X "enumerate")(J:X.mg "enumerate" =none)(M:PA X [e] ta)(N:starEach [e] X.env=[(false,eval e X.env,)]:=by rfl):
  PI X (.Tuple elts kk az) (.Call (.Name "enumerate" p) [e] [] pos) (acy X.K ta):=by
 intro pins s σ H R I h;show Wh (HG I D J boot_enumerate (gX (jI (M pos pins s σ H _ I h) λus g (vs,H1,j,O,Q)=>?_) N rfl));let(_,rfl,h2):=Pb Q;let(a,rfl,xs,U,q):=qF h2
 cases O with
 |cons r Y=>
  cases Y
  cases r
  let(Z,rv,p',hz):=j.list U;show call_enumerate_list p'.isList λh' B hit hsz hk=>JQ B ?_;have I2:Inv X pins σ H1 {g with heap:=h'}:=j.kept (t':=g.toks) hk;show(g.heap.objs.size+1,[g.heap.objs.size+1,g.heap.objs.size],_,_,H1,rfl,I2,W7 a (g.heap.objs.size+1) g.heap.objs.size,((.none,B),hit,Nat.succ_ne_self _),λb hb=>?_,q);have e':b=g.heap.objs.size+1\/b=g.heap.objs.size:=by simpa using hb
  have hle:g.heap.objs.size<=b:=by
   rcases e' with z|z
   ·rw[z];show ic _ _
   ·rw[z];show aT _
  show j.Uo hle (j.gV.fresh hle)
def Pq:bootBuiltins "zip" =some (.type "zip"):=by decide+kernel
abbrev Itz(K:bj)(a b:aW):It:=
 (λi H=>∃(xs ys:List V) (x y:V),dg K H a xs/\dg K H b ys/\xs[i]? =some x/\ys[i]? =some y,
  λi H v H'=>∃T x y,v= .ref T/\H T=none/\H'=upd H T (.tup [x,y])/\(∀xs,dg K H a xs->xs[i]? =some x)/\∀ys,dg K H b ys->ys[i]? =some y,
  λi H=>∃xs ys:List V,dg K H a xs/\dg K H b ys/\(↑xs<=i\/↑ys<=i))
def Zn{P:fm}{w:e_}{K:bj}{elts:List jS}{kk:Nat}{az:Ie}{a b z TI TO M N:aW}(D:To z TI TO M N a b):
  Turn P w K (.Tuple elts kk az) (Itz K a b) [z,TI,TO,M,N] z (λi h=>Dl h z TI TO .none/\t4 h TI (.ref M) (.ref N)/\(∃x y,t4 h TO x y)/\h.IsListIter M a i/\h.IsListIter N b i) where
 mem:=by simp
 obj:=λi h st c hc=>by
  let(Y,g,(x,y,j),(o1,e1,_,d1),(o2,e2,_,d2)):=st;have e':c=z\/c=TI\/c=TO\/c=M\/c=N:=by simpa using hc
  rcases e' with q|q|q|q|q
  ·rw[q];show(_,Y,λv q=>nomatch q)
  ·rw[q];show(_,g,λv q=>nomatch q)
  ·rw[q];show(_,j,λv q=>nomatch q)
  ·rw[q];show(o1,e1,λv q=>by rw[d1] at q;cases q)
  ·rw[q];show(o2,e2,λv q=>by rw[d2] at q;cases q)
 keep:=λi h h' st k=>by
  let(Y,g,(x,y,j),h1,h2):=st;show(k z ⋯ _ Y,k TI ⋯ _ g,(x,y,k TO ⋯ _ j),h1.at λo q=>k M ⋯ o q,h2.at λo q=>k N ⋯ o q)
 item:=by
  intro X hP hw hK hc i pins s σ H E I hf st hg;subst hP hw hK;let(Y,g,(x0,y0,j),h1,h2):=st;let(xs,ys,x,y,O,U,hx,hy):=hg;let(av,rv,p,_):=I.list O;let(Z,ah,p2,_):=I.list U;let(u,hu,ru):=rv.get hx;let(u2,bl,bt):=ah.get hy;have aA:z < s.heap.objs.size:=cn Y;show wpAny_pyNext_zip_item D Y g j h1 h2 p.isList p2.isList (x:=u) (y:=u2) (by simpa using hu) (by simpa using bl) λh' z' bx b0 b1 hT hsz hk=>?_;show(_,rfl,zQ (s:={s with heap:=h'}) z' λar b2 sb=>?_);have b3:ar.get? s.heap.objs.size=some {cls:= .type "tuple",data:= .seq #[u,u2]}:=(sb.2 _ (vp aA)).trans hT
  have new:lZ X.prog X.w (upd H s.heap.objs.size (.tup [x,y])) ar s.heap.objs.size (.tup [x,y]):=
   (by change 2<=sizeLine;decide,[u,u2],.cons ru (.cons bt .nil),(_,b3,rfl,_,rfl))
  have I1:Inv X pins σ (upd H s.heap.objs.size (.tup [x,y])) {s with heap:=ar}:=
   I.Kk (t':=s.toks) (ch:=[z,TI,TO,M,N]) (λc o J q=>(sb.2 c (λB=>J (by simp[B]))).trans (hk c o (λB=>J (by simp[B])) (λB=>J (by simp[B])) (λB=>J (by simp[B])) (λB=>J (by simp[B])) q)) hf (aT _) new
  show(.ref s.heap.objs.size,_,I1,rfl,(_,x,y,rfl,I.gV.fresh (aT _),rfl,λl hl=>by rw[I.E6 hl O];show hx,λl hl=>by rw[I.E6 hl U];show hy),(b2,?_,(u,u2,?_),?_,?_),λc aE=>?_)
  ·show(sb.2 _ D.TIz).trans (hk _ _ D.TIz D.TITO D.TIi1 D.TIi2 g)
  ·show(sb.2 _ D.TOz).trans bx
  ·show b0.at λo q=>(sb.2 _ D.i1z).trans q
  ·show b1.at λo q=>(sb.2 _ D.i2z).trans q
  ·have b4:c < s.heap.objs.size:=by
     have e':c=z\/c=TI\/c=TO\/c=M\/c=N:=by simpa using aE
     rcases e' with q|q|q|q|q
     ·rw[q];show aA
     ·rw[q];show cn g
     ·rw[q];show cn j
     ·rw[q];let(_,e1,_):=h1;show cn e1
     ·rw[q];let(_,e2,_):=h2;show cn e2
   rw[bc (fu b4)];show(hf c aE).1
 done:=by
  intro X hP hw hK hc i pins s σ H E I hf st hg;subst hP hw hK;let(Y,g,(x0,y0,j),h1,h2):=st;let(xs,ys,O,U,bk):=hg;let(av,rv,p,_):=I.list O;let(Z,ah,p2,_):=I.list U;have l1:=↑rv;have l2:=↑ah
  have he:av.toArray[i]? =none\/Z.toArray[i]? =none:=by
   rcases bk with q|q
   ·show .inl (by simp;lia)
   ·show .inr (by simp;lia)
  show wpAny_pyNext_zip_end (I.ok.hd hc) D Y g j h1 h2 p.isList p2.isList he λh' hk=>(rfl,I.VC (t':=s.toks) (ch:=[z,TI,TO,M,N]) (λc o J q=>
   hk c o (λB=>J (by simp[B])) (λB=>J (by simp[B])) (λB=>J (by simp[B])) (λB=>J (by simp[B])) q) hf)
 self:=λA i s Q E st h=>wt st.1 h
abbrev afq(K:bj)(ta:TA):TI:=λσ H R=>ta σ H λvs H1=>∃a b xs ys,vs=[.ref a,.ref b]/\dg K H1 a xs/\dg K H1 b ys/\R (Itz K a b) H1
def aeN(hg:Gl X "zip")(hm:X.mg "zip" =none)(ha:PA X [e,B] ta)
  (hs:starEach [e,B] X.env=(false,eval e X.env,) ::starEach [B] X.env:=by rfl)(D:(backTo pos (starEach [B] X.env)).any (·.1)=false:=by rfl):
  PI X (.Tuple elts kk az) (.Call (.Name "zip" p) [e,B] [] pos) (afq X.K ta):=by
 intro pins s σ H R I h;show Wh (HG I hg hm Pq (gX (jI (ha pos pins s σ H _ I h) λus g (vs,H1,j,r1,q1)=>?_) hs D));let(a,b,xs,ys,ex,J,M,q):=q1;subst ex
 cases r1 with
 |cons r N=>
  cases N with
  |cons r' N=>
   cases N
   cases r
   cases r'
   let(ah,rv,Y,_):=j.list J;let(Z,ar,p2,_):=j.list M;have la:a < g.heap.objs.size:=Y.lt;have lb:b < g.heap.objs.size:=p2.lt;show call_zip_2 Y.isList p2.isList λh' hz O Q h1 h2 hsz hk=>wt hz ?_;have I2:Inv X pins σ H1 {g with heap:=h'}:=j.kept (t':=g.toks) hk;show(g.heap.objs.size+4,[g.heap.objs.size+4,g.heap.objs.size+2,g.heap.objs.size+3,g.heap.objs.size,g.heap.objs.size+1],_,_,H1,rfl,I2,Zn (JG g.heap.objs.size a b la lb),(hz,O,(_,_,Q),h1,h2),λc U=>?_,q);have e':c=g.heap.objs.size+4\/c=g.heap.objs.size+2\/c=g.heap.objs.size+3\/c=g.heap.objs.size\/c=g.heap.objs.size+1:=by simpa using U
   have hle:g.heap.objs.size<=c:=by
    rcases e' with z|z|z|z|z
    ·rw[z];show ic _ _
    ·rw[z];show ic _ _
    ·rw[z];show ic _ _
    ·rw[z];show aT _
    ·rw[z];show ic _ _
   show j.Uo hle (j.gV.fresh hle)
end L2
section
namespace TL
open PySem PySem.Builtin PySem.Builtin.Str PySem.StrLaws
meta abbrev tl(x:bV):List Nat:=x.cps.toList
def aet(x:bV):↑x=↑(tl x):=by simp[tl,Str.length]
def adQ(g:tl y≠[]):1<=↑y:=by
 have j:0 < ↑(tl y):=List.length_pos_iff.mpr g;rw[aet y];show j
end TL
end
namespace L2
open PySem PySem.Spec PyProof.Rows
section
variable{X:Cx}{o e:jS}{to te:TE}
abbrev tM1(r:V->List V->Hp->VK->Prop)(to te:TE):TE:=λσ H Q=>to σ H λx H1=>(∃a,x= .str a)/\te σ H1 λy H2=>r x [y] H2 Q
def afy{id:String}(slot:Slot "str" name id)(ty:typeOf (.builtin id)=pure (.type "method_descriptor"))(rule:MtR X id r)(D:PE X o to)(J:PE X e te)
  (M:starEach [e] X.env=[(false,eval e X.env,)]:=by rfl)(g:attributeBase o name X.env (eval o X.env)=eval o X.env:=by rfl)(j:(ai.endLine==pos.line)=true:=by rfl):
  PE X (.Call (.Attribute o name ai) [e] [] pos) (tM1 r to te):=by
 intro pins s σ H Q I h;show PySem.Call_method1 g M j (jI (D pins s σ H _ I h) λv N (x,H1,O,B,z)=>?_);let((a,rfl),z):=z;let(t,rfl):=_root_.id B;show("str",_,F.plainAttrs_str,slot,ty,typeIs_str _ _ _,(λ_ e=>nomatch e),ou rfl (w_ (t7 ?_)));show jI (J pins N σ H1 _ O z) λu U (y,H2,Y,Z,q2)=>Ak (rule pins U σ H2 _ [y] _ [u] Q Y B (.cons Z .nil) q2)
end
section
variable{X:Cx}
def NC:DI X (compareOp .In) (λx y H Q=>∃(c:Nat) (z:bV),x= .str ⟨#[c]⟩/\y= .str z/\Q (.bl (decide (c∈z.cps.toList))) H):=by
 intro pins s σ H x y v u Q I g j h;let(c,z,rfl,rfl,q):=h;let(t,rfl):=g;let(t',rfl):=j;show Tz (J_ I q (Pz z c).symm)
end
abbrev inClass(s:fG)(j:Nat):fG:=match s with
 | .ClassDef _ _ _ body _ _ _ _ _ _ _=>body.getD j (.Pass (0,0,0,0))
 |_=> .Pass (0,0,0,0)
abbrev x9(s:fG):Arguments:=match s with
 | .FunctionDef _ a _ _ _ _ _ _ _ _=>a
 |_=>{posonlyargs:=[],args:=[],vararg:=none,kwonlyargs:=[],kw_defaults:=[],kwarg:=none,defaults:=[]}
abbrev wB(s:fG):List fG:=match s with
 | .FunctionDef _ _ b _ _ _ _ _ _ _=>b
 |_=>[]
abbrev bZ(s:fG):E8:=match s with
 | .FunctionDef _ _ _ _ _ _ sc _ _ _=>sc
 |_=>{kind:= .function,names:=[],isGenerator:=false,isCoroutine:=false}
meta abbrev pS:CXT:=λ_ _ _ _ _ _=>False
meta abbrev E0:XK:=λ_ _ _=>False
def cN:Passes pS X E0:=λ_ _ _ _ _ _ _ h=>h.elim
structure oC(K:bj)(x qual:bV)(st:fG)(f:aW)(fd:bX):Prop where
 ex:∃(z:bM) (B:Option aW) (kV doc D:bM) (an:Option aW) (g ct:bM) (j:Array (Option bM)),
  fd=CT x qual (x9 st) (wB st) (bZ st) .none kV doc D an g ct/\K.lookup f=some (z,B,.func fd,j)/\NN K g qual=true
 kp:vj K (.ref f)=true
section
variable{P:fm}{w:e_}{K:bj}{mg:bV->Option bM}{base:jj}
def oC.ok{st:fG}(F:oC K x qual st f fd)(S:cH N ps (bZ st))(len:∀vs H Q E,sp vs H Q E->↑vs=↑ps)
  (j:∀(g:bM) (A:t5) (outer:List S9) (s:b9) (H:Hp) (vs:List V) (Q:VK) (E:XK),vT k (A.deeper (envOfC qual (bZ st) s.heap.objs.size f g))->sp vs H Q E->
   ∃t,Xh (Uv pS P w K mg base N qual (bZ st) f g A outer s H E).nox (wB st) t/\t {nx:=λ_ H'=>Q .vI H',rt:=Q} (start N vs) H):gu P w K mg base pS (k+1) f fd ps sp:=by
 let(O,U,kV,doc,Y,an,g,ct,D,rfl,J,z):=F.ex;show afl J z S len λA outer s H vs Q E M B=>?_;let(t,h,q):=j g A outer s H vs Q E M B;show(t,h.nox,q)
def oC.binds{st:fG}(F:oC K x qual st f fd)
  (h:∀(kV doc j:bM) (an:Option aW) (g ct:bM) (us:List bM),↑us=↑ps->bindArgs (CT x qual (x9 st) (wB st) (bZ st) .none kV doc j an g ct) (us,[])=pure (ps.zip us)):Binds K fd ps []:=by
 let(D,J,kV,doc,j,an,g,ct,z,rfl,M,B):=F.ex;show .all (h kV doc j an g ct)
end
def MY(g:vT k A):A.units+1 < cLine:=fU (Nat.add_le_add_left (by decide:1<=64) _) g.units
section
variable{X:Cx}
def pv(i:Nat)(j:X.N[i]? =some x:=by rfl)(z:Vis X.env.scope x:=by first|show Or.inl rfl|show Or.inr (Or.inl rfl)|show Or.inr (Or.inr rfl))(hd:(x==("__debug__" :bV))=false:=by decide)
 (g:(x==("__classdict__" :bV))=false:=by decide):PE X (.Name x pos) (aeH i):=adU j z hd g
end
def kg{c A B:Prop}[Decidable c](h1:c->A)(h2:¬c->B):if c then A else B:=by
 by_cases h:c
 ·rw[h9 h];show h1 h
 ·rw[h8 h];show h2 h
abbrev bK(H H':Hp):Prop:=∀b o,H b=some o->H' b=some o
def bK.trans(a:bK H H1)(b:bK H1 H2):bK H H2:=λc o h=>b c o (a c o h)
def bK.free(e:bK H H')(h:H' l=Lp):H l=Lp:=by
 cases q:H l with
 |none=>rfl
 |some o=>
  rw[e l o q] at h
  cases h
def bK.seq{K:bj}(e:bK H H')(h:dg K H a xs):dg K H' a xs:=by
 rcases h with(h|⟨o,h⟩)|h
 ·show .inl (.inl (e _ _ h))
 ·show .inl (.inr (o,e _ _ h))
 ·show .inr h
end L2
section
namespace L2
open PySem PySem.Spec PyProof.Rows
open PySem.W (WData Codec OpenSpec Well WellAll ReadsW ReadsAllW)
mutual
inductive Dw (K:bj) (H:Hp):V->w8->Prop
 |vI:Dw K H .vI .none
 |bl (b:Bool):Dw K H (.bl b) (.bool b)
 |int (i:Int):Dw K H (.int i) (.int i)
 |str (x:bV):Dw K H (.str x) (.str x)
 |uo (b:Array UInt8):Dw K H (.uo b) (.bytes b.toList)
 |lst {a:aW} {xs:List V} {ds:List w8}:dg K H a xs->Ep K H xs ds->Dw K H (.ref a) (.list ds)
 |tup {a:aW} {xs:List V} {ds:List w8}:qH K H a xs->Ep K H xs ds->Dw K H (.ref a) (.tuple ds)
inductive Ep (K:bj) (H:Hp):List V->List w8->Prop
 |nil:Ep K H [] []
 |cons {v:V} {vs:List V} {d:w8} {ds:List w8}:Dw K H v d->Ep K H vs ds->Ep K H (v ::vs) (d ::ds)
end
def VP{K:bj}:∀ns:List Int,Ep K H (ns.map V.int) (ns.map Xq)
 |[]=> .nil
 |n ::r=> .cons (.int n) (VP r)
def Wb{K:bj}:∀(ns:List Int) (xs:List V),Ep K H xs (ns.map Xq)->xs=ns.map V.int
 |[],xs,h=>by
  cases h
  rfl
 |n ::r,xs,h=>by
  cases h with
  |cons h1 h2=>
   cases h1
   rw[Wb r _ h2] <;> rfl
section
variable{P:fm}{w:e_}{K:bj}{H:Hp}{h:jj}{R:PySem.W.WRecords}{cl:bV->Option aW}
def adW(gV:Ew P w H h)(z:K.In h)(q:dg K H a xs):∃(g:List bM) (o:uG) (n:Nat),Vals xs g/\h.get? a=some o/\o.cls= .type "list"/\o.data= .seq g.toArray n:=by
 rcases q with q|⟨o,g,n,e,B,_,hd,_,j⟩
 ·let(_,g,n,j,e):=(show lZ P w H h a (.lst xs) from q.ok gV);show(g,_,n,j,e,rfl,rfl)
 ·show(g.toList,o,n,j,z _ _ e,B,by simp[hd])
def aeM(gV:Ew P w H h)(B:K.In h)(q:qH K H a xs):∃(g:List bM) (o:uG) (n:Nat),Vals xs g/\h.get? a=some o/\o.cls= .type "tuple"/\o.data= .seq g.toArray n:=by
 rcases q with q|⟨o,g,n,e,j,hd,_,z⟩
 ·let(_,g,z,o,e,j,n,hd):=(show lZ P w H h a (.tup xs) from q.ok gV);show(g,o,n,z,e,j,hd)
 ·show(g.toList,o,n,z,B _ _ e,j,by simp[hd])
mutual
theorem Dw.reads (gV:Ew P w H h) (g:K.In h):∀(d:w8) (v:V) (u:bM),Dw K H v d->RelV v u->∃as,ReadsW R cl h u d as
 | .none,_,_,x,r=>by
  cases x
  cases r
  show(_,ReadsW.none)
 | .bool b,_,_,x,r=>by
  cases x
  cases r
  show(_,ReadsW.bool b)
 | .int i,_,_,x,r=>by
  cases x
  let(t,rfl):=r
  show(_,ReadsW.int i t)
 | .str s,_,_,x,r=>by
  cases x
  let(t,rfl):=r
  show(_,ReadsW.str s t)
 | .bytes b,_,_,x,r=>by
  cases x
  let(t,rfl):=r
  show(_,ReadsW.bytes _ t)
 | .list ds,_,_,x,r=>by
  cases x with
  |lst z B=>
   cases r
   let(j,o,n,rv,D,J,hd):=adW gV g z
   let(as,M):=Dw.readsAll gV g ds _ j B rv
   show(_,ReadsW.list D J hd M)
 | .tuple ds,_,_,x,r=>by
  cases x with
  |tup z B=>
   cases r
   let(j,o,n,rv,D,J,hd):=aeM gV g z
   let(as,M):=Dw.readsAll gV g ds _ j B rv
   show(_,ReadsW.tuple D J hd M)
 | .float _,_,_,x,_=>by cases x
 | .dict _,_,_,x,_=>by cases x
 | .bytearray _,_,_,x,_=>by cases x
 | .set _,_,_,x,_=>by cases x
 | .frozenset _,_,_,x,_=>by cases x
 | .obj _ _,_,_,x,_=>by cases x
theorem Dw.readsAll (gV:Ew P w H h) (g:K.In h):∀(ds:List w8) (vs:List V) (us:List bM),Ep K H vs ds->Vals vs us->∃as,ReadsAllW R cl h us ds as
 |[],_,_,x,r=>by
  cases x
  cases r
  show(_,ReadsAllW.nil)
 |d ::ds,_,_,x,r=>by
  cases x with
  |cons h1 h2=>
   cases r with
   |cons N O=>
    let(as,Q):=Dw.reads gV g d _ _ h1 N
    let(bs,U):=Dw.readsAll gV g ds _ _ h2 O
    show(_,ReadsAllW.cons Q U)
end
end
mutual
noncomputable def V4:w8->Bool
 | .none=>true
 | .bool _=>true
 | .int _=>true
 | .str _=>true
 | .bytes _=>true
 | .list xs=>LD xs
 | .tuple xs=>LD xs
 |_=>false
noncomputable def LD:List w8->Bool
 |[]=>true
 |x ::r=>V4 x && LD r
end
def RL{f:α->w8}(h:∀a,V4 (f a)=true):∀l:List α,LD (l.map f)=true
 |[]=>rfl
 |x ::r=>by
  change(V4 (f x) && LD (r.map f))=true;rw[h x,RL h r] <;> rfl
def Et:∀(c:Codec) (a:c.denote),V4 (c.enc a)=true
 | .unit,_=>rfl
 | .bool,_=>rfl
 | .int _ _,_=>rfl
 | .nat _ _,_=>rfl
 | .u8,_=>rfl
 | .bytes _ _,_=>rfl
 | .text _ _ _ _,_=>rfl
 | .list _ _ c,a=>RL (λx=>Et c x) a
 | .pair c d,a=>by
  change(V4 (c.enc a.1) && (V4 (d.enc a.2) && true))=true;rw[Et c a.1,Et d a.2] <;> rfl
 | .triple c d e,a=>by
  change(V4 (c.enc a.1) && (V4 (d.enc a.2.1) && (V4 (e.enc a.2.2) && true)))=true;rw[Et c a.1,Et d a.2.1,Et e a.2.2] <;> rfl
 | .option c,none=>rfl
 | .option c,some x=>Et c x
def OX:∀(cs:List Codec) (a:Dn cs),LD (yo cs a)=true
 |[],_=>rfl
 |c ::cs,a=>by
  change(V4 (c.enc a.1) && LD (yo cs a.2))=true;rw[Et c a.1,OX cs a.2] <;> rfl
def G2:∀{xs:List w8} {d:w8},d∈xs->d.weight<=xp xs
 |[],d,h=>absurd h ⋯
 |x ::r,d,h=>by
  change d.weight<=x.weight+1+xp r;rcases bo.mp h with e|m
  ·rw[e];lia
  ·have z:=G2 m;lia
abbrev toV:bM->V
 | .none=> .vI
 | .bool b=> .bl b
 | .int i _=> .int i
 | .str x _=> .str x
 | .bytes b _=> .uo b
 | .ref a=> .ref a
 |_=> .vI
abbrev Xo(A:List aW):bM->Prop
 | .none=>True
 | .bool _=>True
 | .int _ _=>True
 | .str _ _=>True
 | .bytes _ _=>True
 | .ref a=>a∈A
 |_=>False
def Xo.mono(h:∀a∈A,a∈B):∀{u:bM},Xo A u->Xo B u:=λ{u} x=>by
 cases u with
 |ref a=>show h a x
 |none=>trivial
 |bool b=>trivial
 |int i t=>trivial
 |str s t=>trivial
 |bytes b t=>trivial
 |_=>show fj x
def Zu(x:Xo A u):RelV (toV u) u:=by
 cases u with
 |ref a=>rfl
 |none=>rfl
 |bool b=>rfl
 |int i t=>show(t,rfl)
 |str s t=>show(t,rfl)
 |bytes b t=>show(t,rfl)
 |_=>show fj x
def BF:∀{vs:List bM},(∀u∈vs,Xo A u)->Vals (vs.map toV) vs
 |[],_=> .nil
 |u ::r,h=> .cons (Zu (h u (bg ..))) (BF λx hx=>h x (aZ _ hx))
abbrev Dh(h:jj)(A:List aW)(a:aW):Prop:=∃vs:List bM,↑vs<=sizeLine/\(∀u∈vs,Xo A u)/\
 (h.get? a=some {cls:= .type "list",data:= .seq vs.toArray}\/h.get? a=some {cls:= .type "tuple",data:= .seq vs.toArray})
def Dh.mono(k:∀a∈A,a∈B)(x:Dh h A a):Dh h B a:=by
 let(vs,h1,h2,g):=x;show(vs,h1,λu hu=>(h2 u hu).mono k,g)
def Ac:∀{vs:List bM} {ds:List w8},CW P h vs ds->↑vs=↑ds
 |_,_,.nil=>rfl
 |_,_,.cons _ b=>by
  change _+1=_+1;rw[Ac b]
def O0(x:Well P h v (.list ds)):∃(a:aW) (vs:List bM),v= .ref a/\h.get? a=some {cls:= .type "list",data:= .seq vs.toArray}/\CW P h vs ds:=by
 cases x with
 |list j g=>show(_,_,rfl,j,g)
def Nu(x:Well P h v (.tuple ds)):∃(a:aW) (vs:List bM),v= .ref a/\h.get? a=some {cls:= .type "tuple",data:= .seq vs.toArray}/\CW P h vs ds:=by
 cases x with
 |tuple j g=>show(_,_,rfl,j,g)
def Oz(x:CW P h us (d ::ds)):∃(v:bM) (vs:List bM),us=v ::vs/\Well P h v d/\CW P h vs ds:=by
 cases x with
 |cons a b=>show(_,_,rfl,a,b)
def V0(h:n<=1048576):n<=sizeLine:=cJ h (by decide)
section
variable{P:Params}{h:jj}
mutual
theorem Zk:∀(d:w8) (v:bM),Well P h v d->V4 d=true->d.weight<=1048576->∃A:List aW,Xo A v/\∀a∈A,Dh h A a
 | .none,_,x,_,_=>by
  cases x
  show([],trivial,λa m=>absurd m ⋯)
 | .bool b,_,x,_,_=>by
  cases x
  show([],trivial,λa m=>absurd m ⋯)
 | .int i,_,x,_,_=>by
  cases x
  show([],trivial,λa m=>absurd m ⋯)
 | .str s,_,x,_,_=>by
  cases x
  show([],trivial,λa m=>absurd m ⋯)
 | .bytes b,_,x,_,_=>by
  cases x
  show([],trivial,λa m=>absurd m ⋯)
 | .list ds,_,x,p,z=>by
  let(a,vs,rfl,J,g):=O0 x
  have D:xp ds<=1048576:=z
  let(A,h1,h2):=IQ ds _ g p λd hd=>cJ (G2 hd) D
  have k:∀b∈A,b∈a ::A:=λb j=>aZ _ j
  show(a ::A,bg ..,λb j=>?_)
  rcases bo.mp j with e|m
  ·rw[e]
   show(vs,V0 (by rw[Ac g];show cJ (xx ds) D),λu hu=>(h1 u hu).mono k,.inl J)
  ·show(h2 b m).mono k
 | .tuple ds,_,x,p,z=>by
  let(a,vs,rfl,J,g):=Nu x
  have D:xp ds<=1048576:=z
  let(A,h1,h2):=IQ ds _ g p λd hd=>cJ (G2 hd) D
  have k:∀b∈A,b∈a ::A:=λb j=>aZ _ j
  show(a ::A,bg ..,λb j=>?_)
  rcases bo.mp j with e|m
  ·rw[e]
   show(vs,V0 (by rw[Ac g];show cJ (xx ds) D),λu hu=>(h1 u hu).mono k,.inr J)
  ·show(h2 b m).mono k
 | .float _,_,_,p,_=>fM (show false=true from p)
 | .dict _,_,_,p,_=>fM (show false=true from p)
 | .bytearray _,_,_,p,_=>fM (show false=true from p)
 | .set _,_,_,p,_=>fM (show false=true from p)
 | .frozenset _,_,_,p,_=>fM (show false=true from p)
 | .obj _ _,_,_,p,_=>fM (show false=true from p)
theorem IQ:∀(ds:List w8) (vs:List bM),CW P h vs ds->LD ds=true->(∀d∈ds,d.weight<=1048576)->∃A:List aW,(∀u∈vs,Xo A u)/\∀a∈A,Dh h A a
 |[],_,x,_,_=>by
  cases x
  show([],λu m=>absurd m ⋯,λa m=>absurd m ⋯)
 |d ::ds,_,x,p,z=>by
  let(v,vs,rfl,M,N):=Oz x
  have q:V4 d=true/\LD ds=true:=cT.mp p
  let(A,a1,a2):=Zk d v M q.1 (z d (bg ..))
  let(B,O,Q):=IQ ds vs N q.2 λe U=>z e (aZ _ U)
  have kA:∀b∈A,b∈A++B:=λb j=>cj.mpr (.inl j)
  have kB:∀b∈B,b∈A++B:=λb j=>cj.mpr (.inr j)
  show(A++B,λu hu=>?_,λb j=>?_)
  ·rcases bo.mp hu with e|m
   ·rw[e]
    show a1.mono kA
   ·show(O u m).mono kB
  ·rcases cj.mp j with m|m
   ·show(a2 b m).mono kA
   ·show(Q b m).mono kB
end
end
abbrev aaW(o:uG):Option HO:=match o.data with
 | .seq vs _=>if (o.cls==wm "list")=true then some (.QC o (.lst (vs.toList.map toV))) else some (.QC o (.tup (vs.toList.map toV)))
 |_=>none
abbrev CM(K:bj)(h:jj)(A:List aW):Hp:=λb=>if b∈A then(if (K.lookup b).isNone=true then(h.get? b).bind aaW else none) else none
abbrev VU(H:Hp):Prop:=∀b,H b=none\/∃o u,H b=some (.QC o u)
def RC(vs:List bM):aaW {cls:= .type "list",data:= .seq vs.toArray} =some (.QC {cls:= .type "list",data:= .seq vs.toArray} (.lst (vs.map toV))):=by
 change(if (wm "list" ==wm "list")=true then some (HO.QC {cls:= .type "list",data:= .seq vs.toArray} (.lst (vs.toArray.toList.map toV))) else some (HO.QC {cls:= .type "list",data:= .seq vs.toArray} (.tup (vs.toArray.toList.map toV))))=_;rw[h9 (beq_self_eq_true _)]
def RZ(vs:List bM):aaW {cls:= .type "tuple",data:= .seq vs.toArray} =some (.QC {cls:= .type "tuple",data:= .seq vs.toArray} (.tup (vs.map toV))):=by
 change(if (wm "tuple" ==wm "list")=true then some (HO.QC {cls:= .type "tuple",data:= .seq vs.toArray} (.lst (vs.toArray.toList.map toV))) else some (HO.QC {cls:= .type "tuple",data:= .seq vs.toArray} (.tup (vs.toArray.toList.map toV))))=_;rw[h8 (by decide)]
section
variable{P:fm}{w:e_}{K:bj}{h:jj}{A:List aW}
def L1(g:b∈A)(j:K.lookup b=none)(e:h.get? b=some o):CM K h A b=aaW o:=by
 unfold CM;rw[h9 g,j,h9 (show(none:Option uG).isNone=true from rfl),e] <;> rfl
def abl(q:CM K h A b=some u):b∈A/\K.lookup b=none:=by
 unfold CM at q
 by_cases g:b∈A
 ·rw[h9 g] at q
  cases j:K.lookup b with
  |none=>show(g,rfl)
  |some o=>
   rw[j,h8 ⋯] at q
   cases q
 ·rw[h8 g] at q
  cases q
def L9(ar:∀a∈A,Dh h A a)(q:CM K h A b=some u):K.lookup b=none/\∃vs:List bM,↑vs<=sizeLine/\(∀u∈vs,Xo A u)/\
  ((h.get? b=some {cls:= .type "list",data:= .seq vs.toArray}/\u= .QC {cls:= .type "list",data:= .seq vs.toArray} (.lst (vs.map toV)))\/
   (h.get? b=some {cls:= .type "tuple",data:= .seq vs.toArray}/\u= .QC {cls:= .type "tuple",data:= .seq vs.toArray} (.tup (vs.map toV)))):=by
 let(g,j):=abl q;let(vs,h1,h2,z):=ar b g;show(j,vs,h1,h2,?_);rcases z with e|e
 ·rw[L1 g j e,RC] at q;show .inl (e,(bQ q).symm)
 ·rw[L1 g j e,RZ] at q;show .inr (e,(bQ q).symm)
def WB(ar:∀a∈A,Dh h A a):VU (CM K h A):=λb=>by
 cases q:CM K h A b with
 |none=>show .inl rfl
 |some u=>
  obtain⟨_,vs,_,_,⟨_,e⟩|⟨_,e⟩⟩:=L9 ar q
  ·show .inr (_,_,by rw[e])
  ·show .inr (_,_,by rw[e])
def aba(ar:∀a∈A,Dh h A a):Ew P w (CM K h A) h:=λb u q=>by
 obtain⟨_,vs,h1,h2,⟨e,rfl⟩|⟨e,rfl⟩⟩:=L9 ar q
 ·show(e,by rw[aQ];show h1,vs,_,BF h2,e)
 ·show(e,by rw[aQ];show h1,vs,BF h2,_,e,rfl,_,rfl)
def Me{vs us:List bM}(e:(some {cls:=c,data:= .seq vs.toArray}:Option uG)=some {cls:=c',data:= .seq us.toArray}):c=c'/\vs=us:=by
 have g:=bQ e;have j:c=c':=congrArg Obj.cls g;have z:NK vs.toArray=NK us.toArray:=congrArg Obj.data g;injection z with B;show(j,?_);have D:=congrArg JA B;simpa using D
def aiU(B:K.In h)(ar:∀a∈A,Dh h A a){vs:List bM}(j:a∈A)(e:h.get? a=some {cls:= .type "list",data:= .seq vs.toArray}):(∀u∈vs,Xo A u)/\dg K (CM K h A) a (vs.map toV):=by
 let(us,h1,h2,D):=ar a j
 have hu:us=vs:=by
  rcases D with q|q
  ·rw[e] at q;show(Me q).2.symm
  ·rw[e] at q;show absurd (NJ (Me q).1) (by decide)
 subst hu;show(h2,?_)
 cases g:K.lookup a with
 |none=>show .inl (.inr (_,by rw[L1 j g e,RC]))
 |some o=>
  have z:=B a o g;rw[e] at z;obtain rfl:=bQ z;show .inr (_,us.toArray,_,g,rfl,rfl,rfl,by rw[cV];show h1,by simpa using BF h2)
def air(B:K.In h)(ar:∀a∈A,Dh h A a){vs:List bM}(j:a∈A)(e:h.get? a=some {cls:= .type "tuple",data:= .seq vs.toArray}):(∀u∈vs,Xo A u)/\qH K (CM K h A) a (vs.map toV):=by
 let(us,h1,h2,D):=ar a j
 have hu:us=vs:=by
  rcases D with q|q
  ·rw[e] at q;show absurd (NJ (Me q).1) (by decide)
  ·rw[e] at q;show(Me q).2.symm
 subst hu;show(h2,?_)
 cases g:K.lookup a with
 |none=>show .inl (.inr (_,by rw[L1 j g e,RZ]))
 |some o=>
  have z:=B a o g;rw[e] at z;obtain rfl:=bQ z;show .inr (_,us.toArray,_,g,rfl,rfl,by rw[cV];show h1,by simpa using BF h2)
mutual
theorem ad_ {B:Params} (j:K.In h) (ar:∀a∈A,Dh h A a):∀(d:w8) (v:bM),Well B h v d->V4 d=true->Xo A v->Dw K (CM K h A) (toV v) d
 | .none,_,x,_,_=>by
  cases x
  show .vI
 | .bool b,_,x,_,_=>by
  cases x
  show .bl b
 | .int i,_,x,_,_=>by
  cases x
  show .int i
 | .str s,_,x,_,_=>by
  cases x
  show .str s
 | .bytes b,_,x,_,_=>by
  cases x
  have z:=Dw.uo (K:=K) (H:=CM K h A) b.toArray
  show z
 | .list ds,_,x,p,hu=>by
  let(a,vs,rfl,D,g):=O0 x
  let(h2,J):=aiU j ar hu D
  show .lst J (Rf j ar ds _ g p h2)
 | .tuple ds,_,x,p,hu=>by
  let(a,vs,rfl,D,g):=Nu x
  let(h2,J):=air j ar hu D
  show .tup J (Rf j ar ds _ g p h2)
 | .float _,_,_,p,_=>fM (show false=true from p)
 | .dict _,_,_,p,_=>fM (show false=true from p)
 | .bytearray _,_,_,p,_=>fM (show false=true from p)
 | .set _,_,_,p,_=>fM (show false=true from p)
 | .frozenset _,_,_,p,_=>fM (show false=true from p)
 | .obj _ _,_,_,p,_=>fM (show false=true from p)
theorem Rf {B:Params} (j:K.In h) (ar:∀a∈A,Dh h A a):∀(ds:List w8) (vs:List bM),CW B h vs ds->LD ds=true->(∀u∈vs,Xo A u)->Ep K (CM K h A) (vs.map toV) ds
 |[],_,x,_,_=>by
  cases x
  show .nil
 |d ::ds,_,x,p,hu=>by
  let(v,vs,rfl,M,N):=Oz x
  have q:V4 d=true/\LD ds=true:=cT.mp p
  show .cons (ad_ j ar d v M q.1 (hu _ (bg ..))) (Rf j ar ds vs N q.2 λu m=>hu u (aZ _ m))
end
end
def WJ{K:bj}
  (KX:K.In g.heap)(N:g.heap.Ns mainGlobals mg)(hb:g.heap.Ns builtinsNs mb)(ah:∀x:bV,x≠"__name__"->mb x=bootBuiltins x)(O:g.heap.NoLimit)(hg:g.gens=#[])
  (J:CW w.params g.heap vals ds)(Q:LD ds=true)(av:∀d∈ds,d.weight<=1048576)(hr:vT k callerA)
  (F:∀base:jj,K.In base->base.Ns mainGlobals mg->gu P w K mg base CX k fa fd ps sp)(M:∀(s:b9) (us:List bM),↑us=↑ps->Rm s fd (us,[]) (ps.zip us))(hlen:↑ds=↑ps)
  (aA:∀(H:Hp) (xs:List V),VU H->Ep K H xs ds->sp xs H (λv H'=>Dw K H' v d0) λ_ _ _=>False)
  (aE:∀H e s',CX [] H g (λ_ _ _=>False) e s'->False):
  codeAny (model P w) callerA (.call (.ref fa) (vals,[])) (λr s'=>∃u as,r= .ok (.ret u)/\ReadsW R cl s'.heap u d0 as/\OldK g.heap s'.heap/\s'.os=g.os/\FK s'.gens) g:=by
 let(A,ho,ar):=IQ ds vals J Q av;have hO:VU (CM K g.heap A):=WB ar;have gV:Ew P w (CM K g.heap A) g.heap:=aba ar;have hS:=Rf KX ar ds vals J Q ho;have hV:=BF ho;have hK:∀b u,CM K g.heap A b=some u->K.lookup b=none:=λb u q=>(L9 ar q).1
 have U:∀{b:aW} {o:uG} {es:Array uC} {ep:Nat},g.heap.get? b=some o->o.data= .dict es ep->CM K g.heap A b=none:=λ{b o es ep} e d=>by
  cases q:CM K g.heap A b with
  |none=>rfl
  |some u=>
   obtain⟨_,vs,_,_,⟨Y,_⟩|⟨Y,_⟩⟩:=L9 ar q
   ·rw[Y] at e
    cases e
    have d':NK vs.toArray _=Xr es ep:=d
    cases d'
   ·rw[Y] at e
    cases e
    have d':NK vs.toArray _=Xr es ep:=d
    cases d'
 generalize CM K g.heap A=H at hO gV hS hK U;have j:∀{b:aW} {o:uG},g.heap.get? b=some o->H b=none->(QE g.heap H).get? b=some o:=λe n=>YS e n;have B:∀{b:aW} {m:bV->Option bM},g.heap.Ns b m->(QE g.heap H).Ns b m:=λ{b m} (o,es,ep,e,d,r)=>(o,es,ep,j e (U e d),d,r)
 have nK:∀b o,K.lookup b=some o->H b=none:=λb o e=>by
  cases q:H b with
  |none=>rfl
  |some u=>
   rw[hK b u q] at e
   cases e
 have Z:K.In (QE g.heap H):=λb o e=>j (KX b o e) (nK b o e);have hM:Mod K mg (QE g.heap H):=(Z,B N,(mb,B hb,ah),let(mc,h1,h2):=O;(mc,B h1,h2));have e0:Uj P w K mg (QE g.heap H) callerA [] g H:=(rfl,hM,λb o e=>ab9 e,CZ (Wi _ _),trivial,λb hb=>absurd (show b∈([]:List aW) from hb) ⋯,gV,.of_eq hg);have hl:↑vals=↑ps:=by rw[Ac J];show hlen
 show C0 ((F _ Z (B N)).run callerA [] g H (vals,[]) vals (vals.map toV) _ _ hr e0 (M g vals hl) hV (aA H _ hO hS)) λr s' x=>?_
 cases r with
 |error e=>show(aE H e s' x).elim
 |ok fl=>
  cases fl with
  |next=>show fj x
  |brk=>show fj x
  |cont=>show fj x
  |ret u=>
   let(v,H',os,bare,un,D,r',q):=x
   have kept:∀b o,g.heap.get? b=some o->s'.heap.get? b=some o:=λb o e=>by
    cases q2:H b with
    |none=>show un.keep b o e q2 (by intro z;show absurd (show b∈([]:List aW) from z) ⋯) ⋯
    |some u2=>
     rcases hO b with z|⟨ob,u3,z⟩
     ·rw[q2] at z
      cases z
     ·have z2:=un.frzs b ob _ z;let(e1,_):=gV b _ z;let(Y,_):=D b _ z2;rw[e] at e1
      cases e1
      show Y
   have bk:K.In s'.heap:=λb o e=>kept b o (KX b o e);let(as,bl):=Dw.reads (R:=R) (cl:=cl) D bk d0 v u q r';show(u,as,rfl,bl,OldK.of_keep kept,os,bare)
def MT(h:WData.layableAll ds=true):∀d∈ds,d.weight<=1048576:=λd hd=>
 (PySem.W.layableW_iff.mp (d8.mp h d hd)).2.2
def MI:∀(cs:List Codec) (a:Dn cs),↑(yo cs a)=↑cs
 |[],_=>rfl
 |c ::cs,a=>by
  change↑(yo cs a.2)+1=↑cs+1;rw[MI cs a.2]
end L2
end
namespace L2
open PySem PySem.Spec PyProof.Rows
def adj:aeH i σ H Q=(kA σ i λv=>Q v H):=rfl
def aiO:tC v x0 H Q=(Q v H):=rfl
def aiu:tB t σ H Q=(t σ H λx H1=>kB x λc=>Q c H1):=rfl
def aeK:afj t u σ H Q=(t σ H λc H1=>if c=true then u σ H1 Q else Q false H1):=rfl
def ag3:tOr t u σ H Q=(t σ H λc H1=>if c=true then Q true H1 else u σ H1 Q):=rfl
def aey:aho t σ H Q=(t σ H λc H1=>Q (!c) H1):=rfl
def abv:acm ta tb σ H Q=(ta σ H λx H1=>kB x λc=>if c=true then tb σ H1 Q else Q (.bl false) H1):=rfl
def adS:agT ta tb σ H Q=(ta σ H λx H1=>kB x λc=>if c=true then Q (.bl true) H1 else tb σ H1 Q):=rfl
def aay:acD ta σ H Q=(ta σ H λx H1=>kB x λc=>Q (.bl (!c)) H1):=rfl
def agI:tIf t ta tb σ H Q=(t σ H λc H1=>if c=true then ta σ H1 Q else tb σ H1 Q):=rfl
def abA:acw D σ H=(D.nx σ H):=rfl
def ac3:adx t u D σ H=(t {D with nx:=u D} σ H):=rfl
def aaE:acW D σ H=(D.ct σ H):=rfl
def aa9:acG te D σ H=(te σ H λ_ H1=>D.nx σ H1):=rfl
def aer:ags te D σ H=(te σ H D.rt):=rfl
def aeG:ahv c t u D σ H=(c σ H λb H1=>if b=true then t D σ H1 else u D σ H1):=rfl
def abd:RE i v σ H Q=(Q (σ.set i (some v)) H):=rfl
def aeA:af9 vs σ H Q=(vs=[]/\Q σ H):=rfl
def aaz:acC t u vs σ H Q=(∃v r,vs=v ::r/\t v σ H λg H'=>u r g H' Q):=rfl
def aea{K:bj}:aev K n t v σ H Q=(∃a xs,v= .ref a/\qH K H a xs/\↑xs=n/\t xs σ H Q):=rfl
def adw:ahh to g t v σ H Q=(to σ H λo H1=>g σ H1 λi H2=>t o i v H2 λj=>Q σ j):=rfl
def adf:aaH te g D σ H=(te σ H λx H1=>g x σ H1 D.nx):=rfl
def aeJ:ahH i te g D σ H=(kA σ i λx=>te σ H λy H1=>g x y H1 λz H2=>D.nx (σ.set i (some z)) H2):=rfl
def acI:ipI f x y H Q=(kI x λi=>kI y λj=>Q (.int (f i j)) H):=rfl
def aa4{K:bj}:acB K tl σ H R=(tl σ H λx H1=>kR x λa=>(∃xs,dg K H1 a xs)/\R (Itl K a) H1):=rfl
def ab1:ace ta σ H R=(ta σ H λvs H1=>k1 vs λy=>kI y λj=>-(2^62)<=j/\j < 2^62/\R (Itr 0 j.toNat) H1):=rfl
def afp:tOp r ta tb σ H Q=(ta σ H λx H1=>tb σ H1 λy H2=>r x y H2 Q):=rfl
def agJ:tUn r ta σ H Q=(ta σ H λx H1=>r x H1 Q):=rfl
def ahB:rI C g x y H Q=(kI x λi=>kI y λj=>C i j/\Q (g i j) H):=rfl
def OZ:Xs g x y H Q=(kI x λi=>kI y λj=>Q (g i j) H):=rfl
def aie:rU g x H Q=(kI x λi=>Q (g i) H):=rfl
def aaU:YN t σ H Q=(t σ H λx H'=>kB x λk=>Q k H'):=rfl
def XY:T6 r j ta tb tc σ H Q=(ta σ H λx H1=>tb σ H1 λy H2=>r x y H2 λz g=>kB z λk=>(if k=true then tc σ g λB D=>j y B D Q else Q (.bl false) g)):=rfl
def aiS{K:bj}:aan K ta f σ H Q=(ta σ H λx H1=>kR x λa=>kF (H1 a) λC dx fs=>(JV K C/\dR K C f)/\kO (fs.lookup f) λv=>Q v H1):=rfl
def adL{K:bj}:afJ K ta tv f D σ H=(tv σ H λy H1=>ta σ H1 λx H2=>kR x λa=>kF (H2 a) λC dx fs=>(JV K C/\dR K C f)/\↑fs < 1000/\D.nx σ (upd H2 a (.ins C dx (bC f y fs)))):=rfl
def WD{K:bj}:VS K ta tv rd f D σ H=(ta σ H λx H1=>∃a C dx fs v,x= .ref a/\H1 a=some (.ins C dx fs)/\JV K C/\dR K C f/\fs.lookup f=some v/\tv σ H1 λy H2=>rd v y H2 λz j=>∃g aK,j a=some (.ins C g aK)/\↑aK < 1000/\D.nx σ (upd j a (.ins C g (bC f z aK)))):=rfl
def adX:agA x y H Q=(kI x λi=>kI y λj=>Q (.int (i+j)) H):=rfl
def adk:af2 x y H Q=(kI x λi=>kI y λj=>Q (.int (i - j)) H):=rfl
def aeY:aaX x0 H Q=(Q [] H):=rfl
def ab6:acu ta tr σ H Q=(ta σ H λx H1=>tr σ H1 λxs H2=>Q (x ::xs) H2):=rfl
def adZ:agt t σ H Q=(t σ H λxs H1=>↑xs<=sizeLine/\∀p,H1 p=none->Q (.ref p) (upd H1 p (.tup xs))):=rfl
def ac8:afv t σ H Q=(t σ H λxs H1=>↑xs<=sizeLine/\∀p,H1 p=none->Q (.ref p) (upd H1 p (.lst xs))):=rfl
def aaQ:Vo sp aw E t σ H Q=(t σ H λvs H1=>sp (vs++aw) H1 Q E):=rfl
def abP:Yx C m sp aw E ta t σ H Q=(ta σ H λx H1=>kR x λa=>(∃dx fs,H1 a=some (.ins C dx fs)/\fs.lookup m=none)/\t σ H1 λvs H2=>sp (x ::(vs++aw)) H2 Q E):=rfl
def aa1:Zo C sp aw E t σ H Q=(t σ H λvs H1=>∀x dx,H1 x=none->H1 dx=none->dx≠x->sp (.ref x ::(vs++aw)) (upd (upd H1 dx (.own x)) x (.ins C dx [])) (λv H2=>v= .vI/\Q (.ref x) H2) E):=rfl
def agq:tCB r t σ H Q=(t σ H λvs H1=>r vs H1 Q):=rfl
def WE:V1 x0 H Q=(Q none H):=rfl
def aaI:acs t σ H Q=(t σ H λx H1=>kI x λi=>Q (some i) H1):=rfl
def agW:tSl r te tl th σ H Q=(te σ H λx H1=>tl σ H1 λl H2=>th σ H2 λu g=>r x l u g Q):=rfl
def aeX{K:bj}:aeg K x y H Q=(kR x λp=>kI y λi=>∃xs,dg K H p xs/\∃v,P8 xs i=some v/\Q v H):=rfl
def adP{K:bj}:ac1 K x y H Q=(kR x λp=>kI y λi=>∃xs,qH K H p xs/\∃v,P8 xs i=some v/\Q v H):=rfl
def aaN:acg o i v H Q=(kR o λp=>kI i λk=>∃xs,H p=some (.lst xs)/\∃j,WM ↑xs k=some j/\Q (upd H p (.lst (xs.set j v)))):=rfl
def aef{K:bj}{lo:Option Int}:age K x lo hi H Q=(kR x λa=>∃xs,dg K H a xs/\∀p,H p=none->Q (.ref p) (upd H p (.lst (LA xs lo hi)))):=rfl
def agF{K:bj}:rIn K neg x y H Q=(kR y λp=>∃xs,(dg K H p xs\/qH K H p xs)/\z_ x=true/\xs.all z_=true/\Q (.bl (if neg then !N5 x xs else N5 x xs)) H):=rfl
def adl{K:bj}:aew K T r to σ H Q=(to σ H λx H1=>tyV K T x H1/\r x [] H1 Q):=rfl
def af4{K:bj}:tBM K T r to t σ H Q=(to σ H λx H1=>tyV K T x H1/\t σ H1 λxs H2=>r x xs H2 Q):=rfl
def Xn:VN x vs H Q=(kR x λl=>k1 vs λy=>∃xs,H l=some (.lst xs)/\↑xs < sizeLine/\Q .vI (upd H l (.lst (xs++[y])))):=rfl
def ae0:agH x vs H Q=(kR x λl=>vs=[]/\∃xs,H l=some (.lst xs)/\∃y,xs[xs.length - 1]? =some y/\Q y (upd H l (.lst xs.dropLast))):=rfl
def adv:ag4 x y H Q=(kR x λl=>kR y λb=>∃xs,H l=some (.lst xs)/\∃zs,H b=some (.lst zs)/\↑xs+↑zs<=sizeLine/\∀p,H p=none->Q (.ref p) (upd H p (.lst (xs++zs)))):=rfl
def ade:af0 x y H Q=(kR x λl=>kI y λk=>∃xs,H l=some (.lst xs)/\-(2^63)<=k/\k < 2^63/\↑xs*k.toNat<=sizeLine/\∀p,H p=none->Q (.ref p) (upd H p (.lst (bq k.toNat xs).flatten))):=rfl
def aeR:afW x0 H Q=(Q true H):=rfl
def abe:acr td ty σ H Q=(td σ H λx H1=>ty σ H1 λy H2=>kR x λa=>∃v,Eg H2 a y (some v)/\Q v H2):=rfl
def Wz:Vn ty td σ H Q=(ty σ H λy H1=>td σ H1 λx H2=>kR x λa=>∃o,Eg H2 a y o/\Q (.bl (!o.isSome)) H2):=rfl
def aax:acq td ty tv D σ H=(tv σ H λv H1=>td σ H1 λx H2=>ty σ H2 λy j=>∃a g,x= .ref a/\LO j a y v g/\D.nx σ g):=rfl
def XS:Zl x0 H Q=(∀p,H p=none->Q (.ref p) (upd H p (.dK []))):=rfl
def YG:YJ x0 H Q=(∀p,H p=none->Q (.ref p) (upd H p (.dT []))):=rfl
def aaL:acF ta σ H R=(ta σ H λvs H1=>∃(i j c:Int) (n:Nat),vs=[.int i,.int j,.int c]/\RgC i j c n/\R (Itc i c n) H1):=rfl
def abF{K:bj}:acy K ta σ H R=(ta σ H λvs H1=>k1 vs λy=>kR y λa=>∃xs,dg K H1 a xs/\R (Ite K a) H1):=rfl
def ac2{K:bj}:afq K ta σ H R=(ta σ H λvs H1=>∃a b xs ys,vs=[.ref a,.ref b]/\dg K H1 a xs/\dg K H1 b ys/\R (Itz K a b) H1):=rfl
abbrev aas(J:It)(g:TG)(tb:TS)(D:Ends)(σ:St)(H:Hp):Prop:=aez (λ_ H1 R=>R J H1) g tb D σ H
def adE:aez j g tb D σ H=j σ H (λJ H1=>aas J g tb D σ H1):=rfl
def afB{K:bj}:(Uv CX P w K mg base N q g f j A o s H E).K=K:=rfl
section
variable{X:Cx}{a b c d:jS}{ta tb tc td:TE}{pos:Ie}
def Rb(h:PW X e t):PT X e t:=h.pt
def fb(g:Gl X x)(h:∃t,X.mg x=some (.int i t))(hd:(x==("__debug__" :bV))=false:=by decide):PE X (.Name x pos) (tC (.int i)):=
 let(t,e):=h
 iZ g e (t,rfl) hd
def iq(g:Gl X x)(h:∃t,X.mg x=some (.str i t))(hd:(x==("__debug__" :bV))=false:=by decide):PE X (.Name x pos) (tC (.str i)):=
 let(t,e):=h
 iZ g e (t,rfl) hd
abbrev Zf(i j:Int):Prop:=0<=j/\(cD i:Int)+j<=2^27
def l7:DI X (binaryOp .LShift) (rI Zf λi j=> .int (i*2^j.toNat)):=opI λ_ _ _ _ _ _ _ g q=>lshift_int g.1 g.2 q
def OU:PIp X .BitOr (ipI λi j=>jG i j):=by
 intro pins s σ H x y v u Q I g z h;let(i,B,h2):=pY h;let(j,D,q):=pY h2;subst B D;let(t,rfl):=g;let(t',rfl):=z;show ior_int (.int _,H,I.tok _,(_,rfl),q)
def adi:PIp X .BitXor (ipI λi j=>zh i j):=by
 intro pins s σ H x y v u Q I g z h;let(i,B,h2):=pY h;let(j,D,q):=pY h2;subst B D;let(t,rfl):=g;let(t',rfl):=z;show ixor_int (.int _,H,I.tok _,(_,rfl),q)
def abg:MtR X "int.bit_length" (λx xs H Q=>∃i,x= .int i/\xs=[]/\Q (.int (cD i)) H):=by
 intro pins s σ H x xs v us Q I g rs (i,j,z,q);subst j z;let(t,rfl):=g
 cases rs
 show call_int_bit_length (.int _,H,I.tok _,(_,rfl),q)
end
def Ir{K:bj}(Pv:Nat->St->Hp->Prop)(z:Pv 0 σ H)(B:∀i σ H,i<=↑xs->Pv i σ H->dg K H a xs)
  (J:∀(i:Nat) x σ H T,xs[i]? =some x->Pv i σ H->H T=none->g (.ref T) σ (upd H T (.tup [.int i,x])) λM H2=>tb {D with nx:=Pv (i+1),ct:=Pv (i+1),bk:=D.nx} M H2)(hd:∀σ H,Pv ↑xs σ H->D.nx σ H):aas (Ite K a) g tb D σ H:=by
 show(λi m σ H=>m=↑xs - i/\i<=↑xs/\Pv i σ H,(↑xs,⋯,d6 _,z),?_);rintro i m σ H ⟨rfl,hi,p⟩;have q:=B i σ H hi p
 by_cases j:i < ↑xs
 ·show .inr ((xs,xs[i],q,by simp[j]),Pv (i+1),λO H' N=>(↑xs - (i+1),by lia,rfl,j,N),λv H' y=>?_);let(T,x,rfl,hT,rfl,hx):=y;show J i x σ H T (hx xs q) p hT
 ·have e:i=↑xs:=by lia
  subst e;show .inl ((xs,q,aT _),hd σ H p)
def Va{K:bj}{g:TG}{N:TT}{te:TE}{O:Hp->Prop}(Pv:Nat->Hp->Prop)(U:Pv 0 (upd H1 D (.lst [])))(Y:∀i H,i<=↑xs->Pv i H->dg K H a xs)
  (Z:∀(i:Nat) x H T,xs[i]? =some x->Pv i H->H T=none->g (.ref T) (wipe σ vs) (upd H T (.tup [.int i,x])) λj H2=>wipe j vs=wipe σ vs/\N j H2 λb z=>
   if b=true then te j z λy B=>∃acc,B D=some (.lst acc)/\↑acc < sizeLine/\Pv (i+1) (upd B D (.lst (acc++[y]))) else Pv (i+1) z)(hd:∀H,Pv ↑xs H->O H):
  ∃W:Nat->Nat->Hp->Prop,(∃m,W 0 m (upd H1 D (.lst [])))/\∀i m H,W i m H->
   ((Ite K a).stop i H/\O H)\/((Ite K a).go i H/\∃M:Hp->Prop,(∀H',M H'->∃Q,Q < m/\W (i+1) Q H')/\∀x H',(Ite K a).yld i H x H'->g x (wipe σ vs) H' λj H2=>wipe j vs=wipe σ vs/\N j H2 λb z=>
    if b=true then te j z λy B=>∃acc,B D=some (.lst acc)/\↑acc < sizeLine/\M (upd B D (.lst (acc++[y]))) else M z):=by
 show(λi m H=>m=↑xs - i/\i<=↑xs/\Pv i H,(↑xs,⋯,d6 _,U),?_);rintro i m H ⟨rfl,hi,p⟩;have q:=Y i H hi p
 by_cases J:i < ↑xs
 ·show .inr ((xs,xs[i],q,by simp[J]),Pv (i+1),λH' p'=>(↑xs - (i+1),by lia,rfl,J,p'),λv H' y=>?_);let(T,x,rfl,hT,rfl,hx):=y;show Z i x H T (hx xs q) p hT
 ·have e:i=↑xs:=by lia
  subst e;show .inl ((xs,q,aT _),hd H p)
def gv:upd H p o q=if q=p then some o else H q:=by
 by_cases e:q=p
 ·rw[h9 e,e,aV]
 ·rw[h8 e,bc e]
abbrev KD(P:fm)(w:e_)(K:bj)(a:aW)(kvs:List (Key×V)):Prop:=∀h:jj,K.In h->(a==sysModules)=false/\∃vs,KV kvs vs/\h.DictOf (jY P w) a vs
abbrev acE(kvs:List (Key×V))(ta:aW)(td ty:TE):TE:=λσ H Q=>td σ H λx H1=>x= .ref ta/\ty σ H1 λy H2=>∃k v,y=kV k/\l8 kvs k=some v/\Q v H2
abbrev Zx(kvs:List (Key×V))(ta:aW)(td ty tx:TE):TE:=λσ H Q=>td σ H λx H1=>x= .ref ta/\ty σ H1 λy H2=>tx σ H2 λz g=>∃k,y=kV k/\Q ((l8 kvs k).getD z) g
abbrev ag9(kvs:List (Key×V))(ta:aW)(ty td:TE):TE:=λσ H Q=>ty σ H λy H1=>td σ H1 λx H2=>x= .ref ta/\∃k,y=kV k/\Q (.bl (l8 kvs k).isSome) H2
section
variable{X:Cx}{o i e f:jS}{pos ai aq:Ie}{td ty tx:TE}{kvs:List (Key×V)}{A:aW}
def Vt(hu:X.A.units+1 < cLine)(B:PE X o td)(D:KD X.prog X.w X.K A kvs)(hi:PE X i ty)(J:ad7 i):PE X (.Subscript o i pos) (acE kvs A td ty):=by
 intro pins s σ H Q I h;show V8 zN.lookup J (jI (B pins s σ H _ I h) λu M (x,H1,N,O,ex,U)=>jI (hi pins M σ H1 _ N U) λiv Y (y,H2,j,Z,k,v,ey,l,q2)=>?_);subst ex ey;obtain rfl:u=f7 A:=O;let(hd,vs,rel,z):=D Y.heap j.NX;show(z.typeIs,?_);let(w',hw,g):=CO.some_of (v:=v) (o:=valueAt vs k) (by rw[←l];show rel.val k);show K4 (NG Z) z.mapOf hw (v,H2,j.tok _,g,q2)
def Zc(hu:X.A.units+1 < cLine)(hi:PE X i ty)(D:KD X.prog X.w X.K A kvs)(j:PE X o td):PC X .In i o (ag9 kvs A ty td):=by
 intro pins s σ H Q I h;show jI (hi pins s σ H _ I h) λiv z (y,H1,B,J,M)=>jI (j pins z σ H1 _ B M) λu N (x,H2,g,O,ex,k,U,Y)=>?_;subst ex U;obtain rfl:u=f7 A:=O;let(hd,vs,rel,Z):=D N.heap g.NX;show wpAny_in_of (NG J) hd Z.mapOf ?_;rw[←(rel.val k).Fn];show(.bl _,H2,g.tok _,rfl,Y)
def YA(hu:X.A.units+1 < cLine)(O:PE X o td)(D:KD X.prog X.w X.K A kvs)(U:PE X e ty)(Y:PE X f tx)(m:M2 X o "get" ai e f aq):PE X (.Call (.Attribute o "get" ai) [e,f] [] aq) (Zx kvs A td ty tx):=by
 intro pins s σ H Q I h;show wpAny_Call_method m.base m.few m.line PySem.F.plainAttrs_dict DU PySem.F.type_dict_get (jI (O pins s σ H _ I h) λu j (x,H1,B,Z,ex,q1)=>?_);subst ex;obtain rfl:u=f7 A:=Z;let(ah,ar,J,g):=D j.heap B.NX;show(g.typeIs,g.mapOf.noDict,?_);rw[m.trees]
 show ou rfl (w_ (t7 (jI (U pins j σ H1 _ B q1) λiv s2 (y,H2,I2,ry,q2)=>
  t7 (jI (Y pins s2 σ H2 _ I2 q2) λfv s3 (z,H3,M,rz,k,ey,q3)=>Ak ?_))))
 subst ey;let(hd,vs,rel,N):=D s3.heap M.NX;show call_meetsIn DU N.typeIs PySem.F.entry_dict_get (PySem.F.args_dict_get_3 _ _ _) (meets_dict_get_default (jY X.prog X.w) A (NG ry) hd fv) (_,N.mapOf,?_);show(_,H3,M.tok _,(rel.val k).getD rz,q3)
end
abbrev Vz(r M g:R2)(ta tb tc td:TE):TE:=λσ H Q=>ta σ H λx H1=>tb σ H1 λy H2=>r x y H2 λz B=>kB z λk=>
 (if k=true then tc σ B λD N=>M y D N λO J=>kB O λU=>(if U=true then td σ J λj Y=>g D j Y Q else Q (.bl false) J) else Q (.bl false) B)
def aat:acE kvs ta td ty σ H Q=(td σ H λx H1=>x= .ref ta/\ty σ H1 λy H2=>∃k v,y=kV k/\l8 kvs k=some v/\Q v H2):=rfl
def ZG:Zx kvs ta td ty tx σ H Q=(td σ H λx H1=>x= .ref ta/\ty σ H1 λy H2=>tx σ H2 λz g=>∃k,y=kV k/\Q ((l8 kvs k).getD z) g):=rfl
def aeq:ag9 kvs ta ty td σ H Q=(ty σ H λy H1=>td σ H1 λx H2=>x= .ref ta/\∃k,y=kV k/\Q (.bl (l8 kvs k).isSome) H2):=rfl
def Xf:Vz r M g ta tb tc td σ H Q=(ta σ H λx H1=>tb σ H1 λy H2=>r x y H2 λz B=>kB z λk=>
 (if k=true then tc σ B λD N=>M y D N λO J=>kB O λU=>(if U=true then td σ J λj Y=>g D j Y Q else Q (.bl false) J) else Q (.bl false) B)):=rfl
def aeb:(V.int z=kV k)=(k=c_ z):=by
 cases k with
 |inl i=>show propext (λh=>by have:z=i:=V.int.inj h;rw[this],λh=>by rw[wZ h];rfl)
 |inr x=>show propext ((λh=>by cases h),(λh=>by cases h))
def aes:(V.str z=kV k)=(k=fW z):=by
 cases k with
 |inl i=>show propext ((λh=>by cases h),(λh=>by cases h))
 |inr x=>show propext (λh=>by have:z=x:=V.str.inj h;rw[this],λh=>by rw[S4 h];rfl)
section
variable{X:Cx}{a b c d:jS}{ta tb tc td:TE}{pos:Ie}
def Wm(ho:DI X (compareOp Z) r)(M:DI X (compareOp j) r')(B:DI X (compareOp g) N)(ha:PE X a ta)(hb:PE X b tb)(hc:PE X c tc)(hd:PE X d td)
  (hm:lastMarks [Z,j,g] [b,c,d]=false:=by with_unfolding_all rfl):PE X (.Compare a [Z,j,g] [b,c,d] pos) (Vz r r' N ta tb tc td):=by
 intro pins s σ H Q I h
 show Compare_chain (jI (ha pins s σ H _ I h) λv s1 (x,H1,I1,r1,q1)=>NS (jI (hb pins s1 σ H1 _ I1 q1) λu s2 (y,H2,I2,r2,q2)=>
  jI (ho pins s2 σ H2 x y v u _ I2 r1 r2 q2) λe s3 (z,H3,I3,r3,D)=>?_)) hm
 let(k,ek,D):=Dc D;subst ek
 cases r3
 show gd ?_
 cases k with
 |false=>show U9 (.bl false,H3,I3,rfl,D)
 |true=>
  show U8 (NS (jI (hc pins s3 σ H3 _ I3 D) λu' s4 (y',H4,I4,r4,q4)=>jI (M pins s4 σ H4 y y' u u' _ I4 r2 r4 q4) λe' s5 (z',H5,I5,r5,J)=>?_));let(k',O,J):=Dc J;subst O
  cases r5
  show gd ?_
  cases k' with
  |false=>show U9 (.bl false,H5,I5,rfl,J)
  |true=>show U8 (chain_last (jI (hd pins s5 σ H5 _ I5 J) λU s6 (Y,H6,I6,r6,q6)=>B pins s6 σ H6 y' Y u' U Q I6 r4 r6 q6))
variable{o e:jS}{to te:TE}
def aht:tM1 r to te σ H Q=(to σ H λx H1=>(∃a,x= .str a)/\te σ H1 λy H2=>r x [y] H2 Q):=rfl
def aa0(z:PE X o to)(g:attributeBase o "bit_length" X.env (eval o X.env)=eval o X.env:=by rfl)(j:(ai.endLine==aq.line)=true:=by rfl):
  PE X (.Call (.Attribute o "bit_length" ai) [] [] aq) (aew X.K "int" (λx xs H Q=>∃i,x= .int i/\xs=[]/\Q (.int (cD i)) H) to):=
 xk PySem.F.plainAttrs_int JU JT abg z g j
def W8:MtR X "str.index" (λx xs H Q=>∃a b i rest,x= .str a/\xs=[.str b]/\nF a b 0 ↑a 1=i ::rest/\Q (.int (i:Nat)) H):=by
 intro pins s σ H x xs v us Q I g rs (a,b,i,rest,j,z,B,q);subst j z;let(t,rfl):=g
 cases rs with
 |cons D rs=>
  cases rs
  let(u,rfl):=D;show PySem.SC.index B (.int _,H,I.tok _,(_,rfl),q)
def ZY(z:PE X o to)(B:PE X e te)(D:starEach [e] X.env=[(false,eval e X.env,)]:=by rfl)(g:attributeBase o "index" X.env (eval o X.env)=eval o X.env:=by rfl)(j:(ai.endLine==pos.line)=true:=by rfl):
  PE X (.Call (.Attribute o "index" ai) [e] [] pos) (tM1 (λx xs H Q=>∃a b i rest,x= .str a/\xs=[.str b]/\nF a b 0 ↑a 1=i ::rest/\Q (.int (i:Nat)) H) to te):=
 afy PySem.F.slot_str_index PySem.F.type_str_index W8 z B D g j
def Xl(Y:X.calm=true):Ox X (.builtin "max") (λxs H Q=>k1 xs λy=>kR y λp=>∃zs:List Int,dg X.K H p (zs.map V.int)/\0 < ↑zs/\∀m,m∈zs->(∀z∈zs,z<=m)->Q (.int m) H):=by
 intro pins s σ H xs us Q I r h;let(_,rfl,h2):=Pb h;let(p,rfl,zs,Z,ah,q):=qF h2;let(u,rfl,ru):=vals1 r
 cases ru
 let(g,rv,pl,hz):=I.list Z
 have key:∀(zs:List Int) (g:List bM),Vals (zs.map V.int) g->∃ys:List (Int×Tok),g=ys.map (λp=>uA p.1 p.2)/\ys.map (·.1)=zs:=by
  intro zs
  induction zs with
  |nil=>intro g h;cases h;show([],rfl,rfl)
  |cons z zs ih=>
   intro g h
   cases h with
   |cons r1 rs=>
    let(t,rfl):=r1;let(ys,M,B):=ih _ rs;show((z,t,) ::ys,by rw[M];rfl,by rw[←B];rfl)
 let(ys,M,B):=key zs g rv
 have hl:s.heap.IsList p (intItems ys.toArray):=by
  have:=pl.isList;rw[M] at this;simpa [intItems] using this
 have hlen:↑ys=↑zs:=by rw[←B,aQ]
 show max_intList (I.ok.hd Y) hl (by simp;lia) λv h' tk hv hk=>?_;let(t,rfl):=intItems_at hv;let(h1,h2):=argBest_gt (numAt ys.toArray) (ys.toArray.size - 1)
 have U:∀j,j < ↑ys->∃z,zs[j]? =some z/\numAt ys.toArray j=z:=λj D=>by
  show((ys[j]).1,?_,?_)
  ·rw[←B,dA,aS D];rfl
  ·unfold numAt;simp[D]
 have I1:Inv X pins σ H {s with heap:=h',toks:=tk}:=I.kept hk;show(.int _,H,I1,(_,rfl),q _ ?_ λz N=>?_)
 ·let(z,J,O):=U (argBest (λi j=>decide (numAt ys.toArray i > numAt ys.toArray j)) (ys.toArray.size - 1)) (by simp at h1 ⊢;lia);rw[O];show bJ J
 ·let(j,D,rfl):=dU N;let(z,J,O):=U j (by lia);rw[aS D] at J
  cases J
  rw[←O];show h2 j (by simp;lia)
end
abbrev LcW(J:It)(g:TG)(O:TT)(te:TE)(vs:List Nat)(σ:St)(H1:Hp)(Q:VK):Prop:=∀D,H1 D=none->∃W:Nat->Nat->Hp->Prop,(∃m,W 0 m (upd H1 D (.lst [])))/\∀i m H,W i m H->
 (J.stop i H/\Q (.ref D) H)\/(J.go i H/\∃j:Hp->Prop,(∀H',j H'->∃B,B < m/\W (i+1) B H')/\∀x H',J.yld i H x H'->g x (wipe σ vs) H' λz H2=>wipe z vs=wipe σ vs/\O z H2 λb M=>
  if b=true then te z M λy N=>∃acc,N D=some (.lst acc)/\↑acc < sizeLine/\j (upd N D (.lst (acc++[y]))) else j M)
section
variable{X:Cx}{e:jS}{ta:TE}{f:bV}{pos:Ie}{K:bj}
def V5(g:X.K=K)(j:PE X e ta)(z:attributeBase e f X.env (eval e X.env)=eval e X.env):PE X (.Attribute e f pos) (aan K ta f):=g ▸ bN j z
def Qy(g:X.K=K):IxR X (ac1 K):=g ▸ M8
def Y8(g:X.K=K):IxR X (aeg K):=g ▸ cC
def Nw(g:X.K=K):DI X (compareOp .In) (rIn K false):=g ▸ oQ
def N6(g:X.K=K):Ox X (.builtin "len") (λxs H Q=>k1 xs λx=>kR x λp=>∃ys,(dg K H p ys\/qH K H p ys)/\Q (.int ↑ys) H):=g ▸ ee
def afr:tLc j g tt te vs σ H Q=(j σ H λJ H1=>LcW J g tt te vs σ H1 Q):=rfl
end
def Vb{K:bj}(g:X.K=K)(j:X.calm=true)(h:PGs X es t)
 (z:↑(assignEach es X.env)=n:=by rfl)(ag:(assignEach es X.env).findIdx? (·.1)=none:=by rfl):PG X (.Tuple es k pos) (aev K n t):=g ▸ jw j h z ag
def afw:rEq (.int i) (.int j) H Q=Q (.bl (decide (i=j))) H:=rfl
def acp:rNe (.int i) (.int j) H Q=Q (.bl (!decide (i=j))) H:=rfl
def agz:rEq (.str i) (.str j) H Q=Q (.bl (decide (i=j))) H:=rfl
def afS:rNe (.str i) (.str j) H Q=Q (.bl (!decide (i=j))) H:=rfl
def aiJ:S7 (x ::σ) 0 y=y ::σ:=rfl
def ah8:S7 (x ::σ) (i+1) y=x ::S7 σ i y:=rfl
def Ly:kA (some v ::σ) 0 k=k v:=id rfl
def afG:iN f (x ::l)=f x ::iN f l:=rfl
def agh:iN f []=[]:=rfl
def agN:iw (x ::l)=iw l+1:=rfl
def ahk:iw ([]:List α)=0:=rfl
def agY:(x ::l)++r=x ::(l++r):=rfl
def afF:[] ++r=r:=rfl
abbrev nh(K:bj)(f:bV)(x:V)(H1:Hp)(Q:VK):Prop:=kR x λa=>kF (H1 a) λC dx fs=>(JV K C/\dR K C f)/\kO (fs.lookup f) λv=>Q v H1
def fi{K:bj}:nh K f x H1 Q=(kR x λa=>kF (H1 a) λC dx fs=>(JV K C/\dR K C f)/\kO (fs.lookup f) λv=>Q v H1):=rfl
def ag2{K:bj}:aan K ta f σ H Q=(ta σ H λx H1=>nh K f x H1 Q):=rfl
def bS{K:bj}(h:H a=some (.ins C dx fs))(c:JV K C)(n:dR K C f)(l:fs.lookup f=some v)(Q:VK):nh K f (.ref a) H Q=Q v H:=
 (kQ h).trans (propext (λq=>by rw[l] at q;show q.2,λq=>((c,n),by rw[l];show q)))
structure Zp(K:bj)(C:aW)(m:bV)(f:aW):Prop where
 ga:PySem.W.specialIn K (.ref C) "__getattribute__" =some (some (.builtin "type.__getattribute__"))
 rd:PySem.W.readsIn K C (.type "type")=true
 fd:PySem.W.findCls K (.ref C) (.type "type") m=some (.val (.ref f))
 kp:vj K (.ref f)=true
section
variable{X:Cx}{k:Nat}{C f:aW}{m x:bV}{o e:jS}{es:List jS}{ai pos:Ie}
def Z0{CX}{fd}{ps}{sp}{ds}{aw}{E}{t}(S:Zp X.K C m f)(D:PE X o (tC (.ref C)))(F:gu X.prog X.w X.K X.mg X.base CX k f fd ps sp)(J:vT k X.A)(M:Binds X.K fd ps ds)(hd:Vals aw ds)(hx:Passes CX X E)(N:PA X (e ::es) t)
  (ag:starEach (e ::es) X.env=(false,eval e X.env,) ::starEach es X.env:=by rfl)(g:(backTo pos (starEach es X.env)).any (·.1)=false:=by rfl)
  (O:eval (.Call (.Attribute o m ai) (e ::es) [] pos) X.env=(do
   let z ←eval o X.env
   standAt ai.atName
   let(f,first,) ←holding [z] (getMethod z m pl)
   callWith pos f first (backTo pos (starEach (e ::es) X.env)) (backToKw pos (keywordEach [] X.env))):=by rfl):
  PE X (.Call (.Attribute o m ai) (e ::es) [] pos) (Vo sp aw E t):=by
 intro pins s σ H Q I h;show vM (pl:=pl) (jI (D pins s σ H (λx H1=>x= .ref C/\Vo sp aw E t σ H1 Q) I (rfl,h)) λu Z (x,H1,j,U,ex,q)=>?_) O;subst ex;obtain rfl:u=f7 C:=U;show PySem.W.method_cls j.NX S.ga (PySem.W.cls_value j.NX S.rd S.fd rfl ?_);show t6 (first:=[]) (h₀:=X.base) I.ok.mod.kin S.kp (jI (N pos pins _ σ H1 _ (j.tok _) q) λus s2 (vs,H2,B,r,Y)=>(B.NX,?_)) ag g;show Rg F J M hd hx B r Y
end
section
variable{prog:fm}{w:e_}{A:t5}{E:bM->b9->Prop}{s:b9}
def YW(g:s.heap.IsTupleIter it t i)(D:s.heap.IsTuple t items)(J:items[i]? =some x)
  (q:∀h',h'.IsTupleIter it t (i+1)->yp it s.heap h'->Q x {s with heap:=h'}):wpAny (model prog w) A (jl (.ref it)) Q E s:=by
 let(o,j,M,hd):=id g;let(N,z,_,O,B):=D;unfold jl;show bL (uF (name:=eE "__next__") g.typeIs zy (BR zy g.typeIs F.entry_tuple_iterator_next ?_ (F.args_tuple_iterator_next_1 _)));change wpAny _ _ (field (.ref it) 0 >>=_) _ _ s;show bL (md j hd (x:= .ref t) rfl ?_);change wpAny _ _ (if (f7 t==CS)=true then _ else _) _ _ s;rw[h8 (show ¬((f7 t==CS)=true) from fT)];change wpAny _ _ (field (.ref it) 1 >>=_) _ _ s;show bL (md j hd (x:= .int i 0) rfl ?_);change wpAny _ _ (seqItems? (.ref t) >>=_) _ _ s;show bL (qt z B ?_);simp only[bP,J];show bL (wpAny_setField j hd ⋯ (dF (x,rfl,dF (q _ ?_ (TB ..)))));show(_,DX _ j (Obj.isFreed_of_fields (HZ hd _)),(Obj.cls_mapFields ..).trans M,by rw[HZ hd];simp[rawInt])
def Yr{z TI TO Y Z l1 l2:aW}{k1 k2:Nat}(D:To z TI TO Y Z l1 l2)
  (gz:Dl s.heap z TI TO .none)(gI:t4 s.heap TI (.ref Y) (.ref Z))(gO:t4 s.heap TO a b)(g1:s.heap.IsListIter Y l1 k1)(g2:s.heap.IsTupleIter Z l2 k2)(bk:s.heap.IsList l1 xs)(bl:s.heap.IsTuple l2 ys)(gx:xs[k1]? =some x)(gy:ys[k2]? =some y)
  (q:∀h',Dl h' z TI TO (rawInt s.heap.objs.size)->t4 h' TO x y->h'.IsListIter Y l1 (k1+1)->h'.IsTupleIter Z l2 (k2+1)->t4 h' s.heap.objs.size x y->h'.objs.size=s.heap.objs.size+1->(∀c o,c≠z->c≠TO->c≠Y->c≠Z->s.heap.get? c=some o->h'.get? c=some o)->Q (some (.ref s.heap.objs.size)) {s with heap:=h'}):
  wpAny (model prog w) A (pyNext (.ref z)) Q E s:=by
 have hT:s.TypeIs (.ref z) "zip" :=(_,gz,rfl);unfold pyNext;show bL (wpAny_attempt (uF (name:=eE "__next__") hT xt (BR xt hT K3 ?_ (JO _))));change wpAny _ _ (field (.ref z) 2 >>=_) _ _ _;show bL (md gz rfl (x:= .bool false) rfl ?_);change wpAny _ _ (field (.ref z) 3 >>=_) _ _ _;show bL (md gz rfl (x:= .ref TI) rfl ?_);show bL (qt gI rfl ?_);change wpAny _ _ (iG (.ref z) >>=_) _ _ _;show bL ?_;unfold iG;show bL (md gz rfl (x:= .none) rfl (dF ?_));simp only[if_true];show bL (wpAny_rule ?_);show bL (md gz rfl (x:= .ref TO) rfl ?_);show bL (ow gz ⋯ λh₁ ah g=>?_);replace ah:Dl h₁ z TI TO .ellipsis:=ah;show bL ?_;simp only[BM,LR,Dr,zj];show bL (bL (GK ?_));change wpAny _ _ (jl (.ref Y) >>=_) _ _ _;show bL (wpAny_nextOf_list_item (g1.extBut g.extBut D.i1z) (bk.extBut g.extBut D.l1z) gx λh₂ bt B=>dF ?_);have aA:t4 h₂ TO a b:=B.extBut _ _ D.TOi1 (g.extBut _ _ D.TOz gO);show bL (qt aA rfl ?_);show bL (Fe aA λh₃ M J=>?_);replace M:t4 h₃ TO x b:=M;show bL (wpAny_letGo (dF ?_));show bL (bL (GK ?_));change wpAny _ _ (jl (.ref Z) >>=_) _ _ _;show bL (YW (((g2.extBut g.extBut D.i2z).extBut B.extBut D.i12.symm).extBut J.extBut D.TOi2.symm) (((bl.extBut g.extBut D.l2z).extBut B.extBut D.l2i1).extBut J.extBut D.l2TO) gy λh₄ bx N=>dF ?_);have aE:t4 h₄ TO x b:=N.extBut _ _ D.TOi2 M;show bL (qt aE rfl ?_);show bL (Fe aE λj U O=>?_);replace U:t4 j TO x y:=U;show bL (wpAny_letGo (dF (dF ?_)));show bL (qt U rfl ?_);show bL (wpAny_newTuple ?_);have sz:j.objs.size=s.heap.objs.size:=by rw[O.1,N.1,J.1,B.1,g.1]
 have z5:Dl j z TI TO .ellipsis:=O.extBut _ _ D.TOz.symm (N.extBut _ _ D.i2z.symm (J.extBut _ _ D.TOz.symm (B.extBut _ _ D.i1z.symm ah)));have k5:∀c o,c≠z->c≠TO->c≠Y->c≠Z->s.heap.get? c=some o->j.get? c=some o:=λc o c1 c2 c3 c4 e=>O.extBut _ _ c2 (N.extBut _ _ c4 (J.extBut _ _ c2 (B.extBut _ _ c3 (g.extBut _ _ c1 e))));have a5:j.IsListIter Y l1 (k1+1):=((bt.extBut J.extBut D.TOi1.symm).extBut N.extBut D.i12).extBut O.extBut D.TOi1.symm;have b5:j.IsTupleIter Z l2 (k2+1):=bx.extBut O.extBut D.TOi2.symm;have zl:z < j.objs.size:=cn z5;change wpAny _ _ (r8 (.ref z) (.ref j.objs.size) >>=_) _ _ _;show bL ?_;unfold r8;have z6:Dl (j.push {cls:= .type "tuple",data:= .seq #[x,y]}) z TI TO .ellipsis:=bE _ z5;show bL (ow z6 ⋯ λh₇ z7 ar=>?_);replace z7:Dl h₇ z TI TO (rawInt j.objs.size):=z7;show ow z7 ⋯ λh₈ z8 av=>?_;replace z8:Dl h₈ z TI TO (rawInt j.objs.size):=z8;have up:∀c o,c≠z->j.get? c=some o->h₈.get? c=some o:=λc o c1 e=>av.extBut _ _ c1 (ar.extBut _ _ c1 (bE _ e));have t8:t4 h₈ j.objs.size x y:=av.extBut _ _ (vp zl) (ar.extBut _ _ (vp zl) (cZ _ rfl));have s8:h₈.objs.size=j.objs.size+1:=by rw[av.1,ar.1,eZ]
 rw[sz] at z8 t8 s8;show dF (_,rfl,dF ?_);change Q (some (.ref j.objs.size)) _;rw[sz];show q h₈ z8 (up _ _ D.TOz U) (a5.at λo e=>up _ o D.i1z e) ?_ t8 s8 λc o c1 c2 c3 c4 e=>up c o c1 (k5 c o c1 c2 c3 c4 e);let(o,e,r):=b5;show(o,up _ o D.i2z e,r)
def aaR{z TI TO J i2 l1:aW}{k1:Nat}(hh:A.handled=none)(n1:J≠z)(n2:l1≠z)
  (D:Dl s.heap z TI TO .none)(gI:t4 s.heap TI (.ref J) (.ref i2))(g1:s.heap.IsListIter J l1 k1)(U:s.heap.IsList l1 xs)(gx:xs[k1]? =none)
  (q:∀h',(∀c o,c≠z->c≠J->s.heap.get? c=some o->h'.get? c=some o)->Q none {s with heap:=h'}):wpAny (model prog w) A (pyNext (.ref z)) Q E s:=by
 have hT:s.TypeIs (.ref z) "zip" :=(_,D,rfl);unfold pyNext;show bL (wpAny_attempt (uF (name:=eE "__next__") hT xt (BR xt hT K3 ?_ (JO _))));change wpAny _ _ (field (.ref z) 2 >>=_) _ _ _;show bL (md D rfl (x:= .bool false) rfl ?_);change wpAny _ _ (field (.ref z) 3 >>=_) _ _ _;show bL (md D rfl (x:= .ref TI) rfl ?_);show bL (qt gI rfl ?_);change wpAny _ _ (iG (.ref z) >>=_) _ _ _;show bL ?_;unfold iG;show bL (md D rfl (x:= .none) rfl (dF ?_));simp only[if_true];show bL (wpAny_rule ?_);show bL (md D rfl (x:= .ref TO) rfl ?_);show bL (ow D ⋯ λh₁ g j=>?_);replace g:Dl h₁ z TI TO .ellipsis:=g;show bL ?_;simp only[BM,LR,Dr,zj];show bL (bL (GK ?_));change wpAny _ _ (jl (.ref J) >>=_) _ _ _;show bL (wpAny_nextOf_list_end hh (g1.extBut j.extBut n1) (U.extBut j.extBut n2) gx λh₂ e M he=>?_);let(oe,B,N):=he;have Y:Dl h₂ z TI TO .ellipsis:=M _ _ n1.symm g;have ez:e≠z:=λx=>by subst x;rw[Y] at B;cases B;simp at N
 show ow Y ⋯ λh₃ _ O=>?_;show bL (wpAny_isInstance (T:="StopIteration") (b:=true) (oe,O.extBut _ _ ez B,N) isSubtype_stop ?_);show dF (q h₃ λc o Z c3 x=>O.extBut _ _ Z (M _ _ c3 (j.extBut _ _ Z x)))
end
meta abbrev zl1(h:jj)(l1:aW):jj:=h.push {cls:= .type "list_iterator",data:= .fields #[.ref l1,.int 0 0]}
meta abbrev zl2(h:jj)(l1 l2:aW):jj:=(zl1 h l1).push {cls:= .type "tuple_iterator",data:= .fields #[.ref l2,.int 0 0]}
meta abbrev zl3(h:jj)(l1 l2:aW):jj:=(zl2 h l1 l2).push {cls:= .type "tuple",data:= .seq #[.ref h.objs.size,.ref (zl1 h l1).objs.size]}
meta abbrev zl4(h:jj)(l1 l2:aW):jj:=(zl3 h l1 l2).push {cls:= .type "tuple",data:= .seq #[.none,.none]}
meta abbrev zl5(h:jj)(l1 l2:aW):jj:=(zl4 h l1 l2).push {cls:= .type "zip",data:= .fields #[.none,.bool false,.bool false,.ref (zl2 h l1 l2).objs.size,.ref (zl3 h l1 l2).objs.size]}
def abO(l1 l2:aW)(xs ys:Array bM):Meets (Builtin.«zip.__new__» ([.type "zip",.ref l1,.ref l2],[])) (λ_ R s=>s.heap.IsList l1 xs/\s.heap.IsTuple l2 ys/\R (.ok (.ret (.ref (zl4 s.heap l1 l2).objs.size))) {s with heap:=zl5 s.heap l1 l2}):=
 .of_wp λprog w A R s h=>by
  let(j,g,d,tk,os):=s;let(a1,a2,h):=h;have z:=sub_zip;have B:Heap.IsList (S_ (j,g,d,tk,os)) l1 xs:=a1;have D:Heap.IsTuple (S_ (j.push {cls:= .type "list_iterator",data:= .fields #[.ref l1,.int 0 0]},g,d,tk,os)) l2 ys:=We a2 _
  wp_walk using JP B,wpAny_pyIter_tuple D
  show(_,rfl,h)
section
variable{prog:fm}{w:e_}{A:t5}{E:bM->b9->Prop}{s:b9}
def Zw(a1:s.heap.IsList l1 xs)(a2:s.heap.IsTuple l2 ys)
  (q:∀h',Dl h' (s.heap.objs.size+4) (s.heap.objs.size+2) (s.heap.objs.size+3) .none->t4 h' (s.heap.objs.size+2) (.ref s.heap.objs.size) (.ref (s.heap.objs.size+1))->t4 h' (s.heap.objs.size+3) .none .none->h'.IsListIter s.heap.objs.size l1 0->h'.IsTupleIter (s.heap.objs.size+1) l2 0->
   (∀c o,s.heap.get? c=some o->h'.get? c=some o)->Q (.ref (s.heap.objs.size+4)) {s with heap:=h'}):wpAny (model prog w) A (call (.type "zip") [.ref l1,.ref l2]) Q E s:=by
 show callType_new F.called_zip (by decide) (F.typeCall_zip_2 _ _) (F.newCall_zip_2 _ _) (λobj=>F.args_object_init_3 obj _ _) F.entry_zip_new (abO l1 l2 xs ys) (a1,a2,?_);have g:(zl1 s.heap l1).objs.size=s.heap.objs.size+1:=eZ ..;have j:(zl2 s.heap l1 l2).objs.size=s.heap.objs.size+2:=by rw[eZ,g]
 have z:(zl3 s.heap l1 l2).objs.size=s.heap.objs.size+3:=by rw[eZ,j]
 have D:(zl4 s.heap l1 l2).objs.size=s.heap.objs.size+4:=by rw[eZ,z]
 have B:(zl5 s.heap l1 l2).get? (zl4 s.heap l1 l2).objs.size=some _:=cZ _ rfl;have J:(zl5 s.heap l1 l2).get? (zl3 s.heap l1 l2).objs.size=some _:=bE _ (cZ _ rfl);have M:(zl5 s.heap l1 l2).get? (zl2 s.heap l1 l2).objs.size=some _:=bE _ (bE _ (cZ _ rfl));have N:(zl5 s.heap l1 l2).get? (zl1 s.heap l1).objs.size=some _:=bE _ (bE _ (bE _ (cZ _ rfl)));have O:(zl5 s.heap l1 l2).get? s.heap.objs.size=some _:=bE _ (bE _ (bE _ (bE _ (cZ _ rfl))));change _/\_;rw[j,z,D] at B;rw[g,j] at M;rw[z] at J;rw[g] at N;rw[D];show((_,B,rfl),q _ B M J (_,O,rfl,rfl) (_,N,rfl,rfl) λc o x=>bE _ (bE _ (bE _ (bE _ (bE _ x)))))
end
abbrev Itu(K:bj)(a b:aW):It:=(λi H=>∃(xs ys:List V) (x y:V),dg K H a xs/\qH K H b ys/\xs[i]? =some x/\ys[i]? =some y,λi H v H'=>∃T x y,v= .ref T/\H T=none/\H'=upd H T (.tup [x,y])/\(∀xs,dg K H a xs->xs[i]? =some x)/\∀ys,qH K H b ys->ys[i]? =some y,λi H=>∃xs:List V,dg K H a xs/\↑xs<=i)
def ZI{P:fm}{w:e_}{K:bj}{elts:List jS}{kk:Nat}{az:Ie}{a b z TI TO J M:aW}(D:To z TI TO J M a b):
  Turn P w K (.Tuple elts kk az) (Itu K a b) [z,TI,TO,J,M] z (λi h=>Dl h z TI TO .none/\t4 h TI (.ref J) (.ref M)/\(∃x y,t4 h TO x y)/\h.IsListIter J a i/\h.IsTupleIter M b i) where
 mem:=by simp
 obj:=λi h st c hc=>by
  let(O,g,(x,y,j),(o1,e1,_,d1),(o2,e2,_,d2)):=st;have e':c=z\/c=TI\/c=TO\/c=J\/c=M:=by simpa using hc
  rcases e' with q|q|q|q|q
  ·subst q;show(_,O,λv q=>nomatch q)
  ·subst q;show(_,g,λv q=>nomatch q)
  ·subst q;show(_,j,λv q=>nomatch q)
  ·subst q;show(o1,e1,λv q=>by rw[d1] at q;cases q)
  ·subst q;show(o2,e2,λv q=>by rw[d2] at q;cases q)
 keep:=λi h h' (O,g,(x,y,j),h1,(o2,e2,r2)) k=>(k z ⋯ _ O,k TI ⋯ _ g,(x,y,k TO ⋯ _ j),h1.at λo q=>k J ⋯ o q,(o2,k M ⋯ o2 e2,r2))
 item:=by
  intro X hP hw hK hc i pins s σ H E I hf st hg;subst hP hw hK;let(O,g,(x0,y0,j),h1,h2):=st;let(xs,ys,x,y,N,ah,hx,hy):=hg;let(aA,rv,p,_):=I.list N;let(ar,aE,p2,_):=I.tuple ah;let(u,hu,ru):=rv.get hx;let(u2,bk,bl):=aE.get hy;have zl:z < s.heap.objs.size:=cn O;show Yr D O g j h1 h2 p.isList (show s.heap.IsTuple b ar.toArray from p2) (x:=u) (y:=u2) (by simpa using hu) (by simpa using bk) λh' z' bt bx b0 hT hsz hk=>?_;show(_,rfl,zQ (s:={s with heap:=h'}) z' λY b1 Z=>?_);have t2:Y.get? s.heap.objs.size=some {cls:= .type "tuple",data:= .seq #[u,u2]}:=(Z.2 _ (vp zl)).trans hT;have new:lZ X.prog X.w (upd H s.heap.objs.size (.tup [x,y])) Y s.heap.objs.size (.tup [x,y]):=(by change 2<=sizeLine;decide,[u,u2],.cons ru (.cons bl .nil),(_,t2,rfl,_,rfl));have I1:Inv X pins σ (upd H s.heap.objs.size (.tup [x,y])) {s with heap:=Y}:=I.Kk (t':=s.toks) (ch:=[z,TI,TO,J,M]) (λc o U q=>(Z.2 c (λB=>U (by simp[B]))).trans (hk c o (λB=>U (by simp[B])) (λB=>U (by simp[B])) (λB=>U (by simp[B])) (λB=>U (by simp[B])) q)) hf (aT _) new;let(b2,b3,b4):=b0;show(.ref s.heap.objs.size,_,I1,rfl,(_,x,y,rfl,I.gV.fresh (aT _),rfl,λl hl=>by rw[I.E6 hl N];show hx,λl hl=>by rw[I.Wr hl ah];show hy),(b1,(Z.2 _ D.TIz).trans (hk _ _ D.TIz D.TITO D.TIi1 D.TIi2 g),(u,u2,(Z.2 _ D.TOz).trans bt),bx.at λo q=>(Z.2 _ D.i1z).trans q,(b2,(Z.2 _ D.i2z).trans b3,b4)),λc av=>?_)
  have b5:c < s.heap.objs.size:=by
   have e':c=z\/c=TI\/c=TO\/c=J\/c=M:=by simpa using av
   rcases e' with q|q|q|q|q
   ·subst q;show zl
   ·subst q;show cn g
   ·subst q;show cn j
   ·subst q;let(_,e1,_):=h1;show cn e1
   ·subst q;let(_,e2,_):=h2;show cn e2
  rw[bc (fu b5)];show(hf c av).1
 done:=by
  intro X hP hw hK hc i pins s σ H E I hf st hg;subst hP hw hK;let(O,g,(x0,y0,j),h1,h2):=st;let(xs,N,cc):=hg;let(aA,rv,p,_):=I.list N;have l1:=↑rv;show aaR (I.ok.hd hc) D.i1z D.l1z O g h1 p.isList (by simp;lia) λh' hk=>(rfl,I.VC (t':=s.toks) (ch:=[z,TI,TO,J,M]) (λc o U q=>hk c o (λB=>U (by simp[B])) (λB=>U (by simp[B])) q) hf)
 self:=λA i s Q E st h=>wt st.1 h
abbrev agL(K:bj)(ta:TA):TI:=λσ H R=>ta σ H λvs H1=>∃a b xs ys,vs=[.ref a,.ref b]/\dg K H1 a xs/\qH K H1 b ys/\R (Itu K a b) H1
def Zm(hg:Gl X "zip")(hm:X.mg "zip" =none)(ha:PA X [e,J] ta)(hs:starEach [e,J] X.env=(false,eval e X.env,) ::starEach [J] X.env:=by rfl)(M:(backTo pos (starEach [J] X.env)).any (·.1)=false:=by rfl):
  PI X (.Tuple elts kk az) (.Call (.Name "zip" p) [e,J] [] pos) (agL X.K ta):=by
 intro pins s σ H R I h;show Wh (HG I hg hm Pq (gX (jI (ha pos pins s σ H _ I h) λus g (vs,H1,j,r1,a,b,xs,ys,ex,N,O,q)=>?_) hs M));subst ex
 cases r1 with
 |cons r Q=>
  cases Q with
  |cons r' Q=>
   cases Q;cases r;cases r'
   let(ah,rv,p1,_):=j.list N;let(B,ar,p2,_):=j.tuple O;have D:g.heap.IsTuple b B.toArray:=p2;have la:a < g.heap.objs.size:=p1.lt;have lb:b < g.heap.objs.size:=by let(o,ho,_):=D;show cn ho
   show Zw p1.isList D λh' hz U Y h1 h2 hk=>wt hz ?_;have I2:Inv X pins σ H1 {g with heap:=h'}:=j.kept (t':=g.toks) hk;show(g.heap.objs.size+4,[g.heap.objs.size+4,g.heap.objs.size+2,g.heap.objs.size+3,g.heap.objs.size,g.heap.objs.size+1],_,_,H1,rfl,I2,ZI (JG g.heap.objs.size a b la lb),(hz,U,(_,_,Y),h1,h2),λc Z=>?_,q)
   have hle:g.heap.objs.size<=c:=by
    have e':c=g.heap.objs.size+4\/c=g.heap.objs.size+2\/c=g.heap.objs.size+3\/c=g.heap.objs.size\/c=g.heap.objs.size+1:=by simpa using Z
    rcases e' with z|z|z|z|z <;> (rw[z];first|show ic _ _|show aT _)
   show j.Uo hle (j.gV.fresh hle)
def aaA{K:bj}(Pv:Nat->St->Hp->Prop)(B:Pv 0 σ H)(J:↑xs<=↑ys)(M:∀i σ H,i<=↑xs->Pv i σ H->dg K H a xs/\qH K H b ys)
  (N:∀(i:Nat) x y σ H T,xs[i]? =some x->ys[i]? =some y->Pv i σ H->H T=none->g (.ref T) σ (upd H T (.tup [x,y])) λO H2=>tb {D with nx:=Pv (i+1),ct:=Pv (i+1),bk:=D.nx} O H2)(hd:∀σ H,Pv ↑xs σ H->D.nx σ H):aas (Itu K a b) g tb D σ H:=by
 show(λi m σ H=>m=↑xs - i/\i<=↑xs/\Pv i σ H,(↑xs,⋯,d6 _,B),?_);rintro i m σ H ⟨rfl,hi,p⟩;let(q,z):=M i σ H hi p
 by_cases j:i < ↑xs
 ·show .inr ((xs,ys,xs[i],ys[i]'(by lia),q,z,by simp[j],⋯),Pv (i+1),λY H' Q=>(↑xs - (i+1),by lia,rfl,j,Q),λv H' y=>?_);let(T,x,y,rfl,hT,rfl,hx,U):=y;show N i x y σ H T (hx xs q) (U ys z) p hT
 ·have e:i=↑xs:=by lia
  subst e;show .inl ((xs,q,aT _),hd σ H p)
def U2(O:X.calm=true):Ox X (.type "list") (λxs H Q=>k1 xs λy=>kR y λp=>∃kvs:List (Key×V),H p=some (.dK kvs)/\∀l,H l=none->Q (.ref l) (upd H l (.lst (kvs.map λx=>kV x.1)))):=by
 intro pins s σ H xs us Q I r h;let(_,rfl,h2):=Pb h;let(p,rfl,kvs,hd,q):=qF h2;let(u,rfl,U):=vals1 r
 cases U
 let(Y,Z,vs,M,dd):=(show lZ X.prog X.w H s.heap p (.dK kvs) from I.gV p _ hd);let(o,es,ep,ho,hx,z,rr):=dd;have hl:↑kvs=↑vs:=bT M;show PySem.W.kdl_call (PySem.W.kdl_dict (kvs:=vs) (ep:=ep) (knd:=jY X.prog X.w) Z) (I.ok.hd O) (o,es,ho,hx,z,rr) (by lia) λh' tk acc c' B hD g=>?_;show(.ref s.heap.objs.size,_,I.laid (t':=tk) B (aT _) (show lZ X.prog X.w _ h' _ (.lst (kvs.map λx=>kV x.1)) from(by rw[aQ];show Y,acc.toList,c',?_,by rw[Array.toArray_toList];show hD)),rfl,q _ (I.gV.fresh (aT _)))
 have key:∀(D:List (Key×V)) (zs:List (Key×bM)) (us:List bM),KV D zs->↑us=↑zs->(∀(j:Nat) (v:bM),us[j]? =some v->∃k x,zs[j]? =some (k,x,)/\(jY X.prog X.w).is k v=true)->Vals (D.map λx=>kV x.1) us:=by
  intro D zs us J
  induction J generalizing us with
  |nil=>
   intro h _;have:us=[]:=j7.mp h;subst this;show .nil
  |cons h t ih=>
   intro hlen N
   cases us with
   |nil=>simp at hlen
   |cons u us=>
    show .cons ?_ (ih us (by simpa using hlen) λj v e=>N (j+1) v (by simpa using e));let(k,x,e,B):=N 0 u rfl;simp only[BU,Ag] at e;subst e;simp only[h.1];show ZL B
 show key kvs vs acc.toList M (by rw[xP];show g.1) λj v e=>g.2 j v (by rw[←DV];show e)
def ad9{K:bj}:agL K ta σ H R=(ta σ H λvs H1=>∃a b xs ys,vs=[.ref a,.ref b]/\dg K H1 a xs/\qH K H1 b ys/\R (Itu K a b) H1):=rfl
def UA:bootBuiltins "list" =some (.type "list"):=by decide+kernel
end L2
set_option hygiene false in
local macro_rules|`(())=>`(by lia)
namespace Pt
open PySem PySem.Spec PyProof.Rows L2
abbrev top(i:Nat):fG:=pE.main.body.getD i (.Pass (0,0,0,0))
local macro_rules|`(tactic|trivial)=>`(tactic|exact⟨rfl,rfl,rfl,by decide+kernel,rfl,by decide+kernel,by decide+kernel⟩)
meta abbrev oX:fG:=inClass (top 10) 0
meta abbrev tR:fG:=inClass (top 10) 1
meta abbrev kD:fG:=inClass (top 10) 2
meta abbrev kJ:fG:=inClass (top 10) 3
meta abbrev lR:fG:=inClass (top 10) 4
meta abbrev p_:fG:=inClass (top 10) 5
meta abbrev Ca:fG:=top 11
meta abbrev qS:fG:=inClass (top 27) 0
meta abbrev rG:fG:=inClass (top 27) 1
meta abbrev v_:fG:=inClass (top 27) 2
meta abbrev sX:fG:=inClass (top 27) 3
meta abbrev sW:fG:=inClass (top 27) 4
meta abbrev uW:fG:=inClass (top 27) 5
meta abbrev tJ:fG:=inClass (top 27) 6
meta abbrev lU:fG:=inClass (top 28) 0
meta abbrev kl:fG:=inClass (top 28) 1
meta abbrev pf:fG:=inClass (top 28) 2
meta abbrev AJ:fG:=top 29
meta abbrev B8:fG:=top 31
meta abbrev AZ:fG:=top 32
meta abbrev xf:fG:=top 33
meta abbrev pL:fG:=inClass (top 34) 0
meta abbrev oV:fG:=inClass (top 34) 1
meta abbrev px:fG:=inClass (top 35) 0
meta abbrev mU:fG:=inClass (top 35) 1
meta abbrev mz:fG:=inClass (top 37) 0
meta abbrev nv:fG:=inClass (top 37) 1
meta abbrev pR:fG:=inClass (top 37) 2
meta abbrev kY:fG:=inClass (top 37) 3
meta abbrev jQ:fG:=inClass (top 37) 4
meta abbrev jy:fG:=inClass (top 37) 5
meta abbrev ni:fG:=inClass (top 37) 6
meta abbrev oa:fG:=inClass (top 41) 0
meta abbrev my:fG:=inClass (top 41) 1
meta abbrev rP:fG:=inClass (top 41) 2
meta abbrev pj:fG:=inClass (top 41) 3
meta abbrev rX:fG:=inClass (top 41) 4
meta abbrev lI:fG:=inClass (top 41) 5
meta abbrev Au:fG:=top 43
meta abbrev EI:fG:=top 44
meta abbrev uM:fG:=top 45
meta abbrev qI:fG:=top 46
meta abbrev tp:fG:=top 47
meta abbrev Cj:fG:=top 48
meta abbrev qO:fG:=inClass (top 50) 0
meta abbrev oZ:fG:=inClass (top 50) 1
meta abbrev om:fG:=inClass (top 50) 2
meta abbrev AK:fG:=top 51
meta abbrev Cz:fG:=top 60
meta abbrev CH:fG:=top 61
meta abbrev yA:fG:=top 66
meta abbrev JX:fG:=top 67
meta abbrev Qq:fG:=top 68
meta abbrev Ua:fG:=top 69
meta abbrev T8:fG:=top 70
meta abbrev s_same:fG:=top 71
meta abbrev BX:fG:=top 75
meta abbrev HP:fG:=top 81
meta abbrev nM:fG:=inClass (top 82) 0
meta abbrev nq:fG:=inClass (top 82) 1
meta abbrev rM:fG:=inClass (top 82) 2
meta abbrev s_:fG:=inClass (top 82) 3
meta abbrev uK:fG:=inClass (top 82) 4
meta abbrev rS:fG:=inClass (top 82) 5
meta abbrev Qh:fG:=top 91
meta abbrev Ze:fG:=top 92
meta abbrev Kh:fG:=top 93
meta abbrev DG:List bV:=["self"]
meta abbrev pC:List bV:=["self"]
def uR:cH DG pC (bZ oX):=by trivial
meta abbrev Hm:List bV:=["self","sign"]
meta abbrev tQ:List bV:=["self","sign"]
def xF:cH Hm tQ (bZ tR):=by trivial
meta abbrev xU:List bV:=["self","sign"]
meta abbrev kE:List bV:=["self","sign"]
def oJ:cH xU kE (bZ kD):=by trivial
meta abbrev x4:List bV:=["self","sign"]
meta abbrev kH:List bV:=["self","sign"]
def oG:cH x4 kH (bZ kJ):=by trivial
meta abbrev zD:List bV:=["self","sign"]
meta abbrev lL:List bV:=["self","sign"]
def pW:cH zD lL (bZ lR):=by trivial
meta abbrev Ea:List bV:=["self"]
meta abbrev pJ:List bV:=["self"]
def vJ:cH Ea pJ (bZ p_):=by trivial
meta abbrev Q_:List bV:=["text","reader","place","byte"]
meta abbrev Cn:List bV:=["text"]
def Gu:cH Q_ Cn (bZ Ca):=by trivial
meta abbrev F8:List bV:=["self"]
meta abbrev qT:List bV:=["self"]
def wC:cH F8 qT (bZ qS):=by trivial
meta abbrev Gg:List bV:=["self","node","ahead"]
meta abbrev q_:List bV:=["self","node","ahead"]
def wR:cH Gg q_ (bZ rG):=by trivial
meta abbrev Kb:List bV:=["self","sign"]
meta abbrev vW:List bV:=["self","sign"]
def zR:cH Kb vW (bZ v_):=by trivial
meta abbrev Hf:List bV:=["self","kind","left","right","ahead"]
meta abbrev tK:List bV:=["self","kind","left","right"]
def xD:cH Hf tK (bZ sX):=by trivial
meta abbrev HA:List bV:=["self","sign","inner"]
meta abbrev tH:List bV:=["self","sign","inner"]
def xB:cH HA tH (bZ sW):=by trivial
meta abbrev Ji:List bV:=["self","sign","left","right"]
meta abbrev vf:List bV:=["self","sign","left","right"]
def yz:cH Ji vf (bZ uW):=by trivial
meta abbrev Ho:List bV:=["self","node"]
meta abbrev tP:List bV:=["self"]
def qZ:cH Ho tP (bZ tJ):=by trivial
meta abbrev zG:List bV:=["self","formulas"]
meta abbrev lO:List bV:=["self","formulas"]
def pX:cH zG lO (bZ lU):=by trivial
meta abbrev yd:List bV:=["self","least","sign","right"]
meta abbrev kj:List bV:=["self","least"]
def oH:cH yd kj (bZ kl):=by trivial
meta abbrev DD:List bV:=["self","sign"]
meta abbrev pB:List bV:=["self","sign"]
def va:cH DD pB (bZ pf):=by trivial
meta abbrev N3:List bV:=["formulas","signs","builder","sign"]
meta abbrev AR:List bV:=["formulas","signs"]
def D_:cH N3 AR (bZ AJ):=by trivial
meta abbrev Qg:List bV:=["bits","found","place"]
meta abbrev Cv:List bV:=["bits"]
def Gx:cH Qg Cv (bZ B8):=by trivial
meta abbrev Oe:List bV:=["letters","marks","tables","letter","table","case","mark"]
meta abbrev AH:List bV:=["letters","marks"]
def D6:cH Oe AH (bZ AZ):=by trivial
meta abbrev LH:List bV:=["letters","tables","size","letter","other"]
meta abbrev xg:List bV:=["letters"]
def BB:cH LH xg (bZ xf):=by trivial
meta abbrev Ec:List bV:=["self","tables","full"]
meta abbrev pI:List bV:=["self","tables","full"]
def vL:cH Ec pI (bZ pL):=by trivial
meta abbrev DF:List bV:=["self","asked","number","cases","inside"]
meta abbrev o_:List bV:=["self"]
def uQ:cH DF o_ (bZ oV):=by trivial
meta abbrev DJ:List bV:=["self","formulas","letter_tables","full","place","ahead"]
meta abbrev pD:List bV:=["self","formulas","letter_tables","full"]
def nO:cH DJ pD (bZ px):=by trivial
meta abbrev BD:List bV:=["self","place","kind","left","right","table"]
meta abbrev mS:List bV:=["self","place"]
def sm:cH BD mS (bZ mU):=by trivial
meta abbrev AW:List bV:=["self","formulas","letter_tables","full","place","node"]
meta abbrev mE:List bV:=["self","formulas","letter_tables","full"]
def lN:cH AW mE (bZ mz):=by trivial
meta abbrev Bh:List bV:=["self","kind","bits","bit","place"]
meta abbrev m_:List bV:=["self","kind"]
def sh:cH Bh m_ (bZ nv):=by trivial
meta abbrev Ej:List bV:=["self","outlook","place","kind","left","right"]
meta abbrev pO:List bV:=["self","outlook"]
def vD:cH Ej pO (bZ pR):=by trivial
meta abbrev yJ:List bV:=["self","kind","left","right","told"]
meta abbrev k_:List bV:=["self","kind","left","right","told"]
def pG:cH yJ k_ (bZ kY):=by trivial
meta abbrev wW:List bV:=["self","found","place","kind","left","right"]
meta abbrev jR:List bV:=["self"]
def m8:cH wW jR (bZ jQ):=by trivial
meta abbrev wk:List bV:=["self","found","place","kind","left","right"]
meta abbrev jt:List bV:=["self"]
def mN:cH wk jt (bZ jy):=by trivial
meta abbrev BG:List bV:=["self","before","outlook"]
meta abbrev m6:List bV:=["self","before","outlook"]
def sx:cH BG m6 (bZ ni):=by trivial
meta abbrev CL:List bV:=["self","arcs","steps","outlooks","wishes"]
meta abbrev n9:List bV:=["self","arcs","steps","outlooks","wishes"]
def ug:cH CL n9 (bZ oa):=by trivial
meta abbrev AN:List bV:=["self","knot","place","outlook","found","other","first","later","granted"]
meta abbrev mJ:List bV:=["self","knot"]
def qE:cH AN mJ (bZ my):=by trivial
meta abbrev FX:List bV:=["self","knot","granted"]
meta abbrev rJ:List bV:=["self","knot","granted"]
def wK:cH FX rJ (bZ rP):=by trivial
meta abbrev Dv:List bV:=["self","knot","first"]
meta abbrev pb:List bV:=["self","knot"]
def uN:cH Dv pb (bZ pj):=by trivial
meta abbrev FW:List bV:=["self","knot","granted","first","within","into","gathered"]
meta abbrev qQ:List bV:=["self","knot","granted"]
def wD:cH FW qQ (bZ rX):=by trivial
meta abbrev zK:List bV:=["self","start","knot","steps","other","granted"]
meta abbrev lS:List bV:=["self","start"]
def pZ:cH zK lS (bZ lI):=by trivial
meta abbrev Oh:List bV:=["count","turn"]
meta abbrev AB:List bV:=["count"]
def y_:cH Oh AB (bZ Au):=by trivial
meta abbrev Ry:List bV:=["search","starts","start"]
meta abbrev EJ:List bV:=["search","starts"]
def IC:cH Ry EJ (bZ EI):=by trivial
meta abbrev IL:List bV:=["steps","tables","outlook","parts","part","number","states","step","state"]
meta abbrev u5:List bV:=["steps","tables","outlook"]
def yF:cH IL u5 (bZ uM):=by trivial
meta abbrev Gk:List bV:=["system","formulas","root","full","tables","steps","state","starts","outlook","arcs","bits","search"]
meta abbrev rL:List bV:=["system","formulas","root"]
def l6:cH Gk rL (bZ qI):=by trivial
meta abbrev G6:List bV:=["steps","tables","outlook","granted_tables","parts","part","before","choices","granted","bit"]
meta abbrev tU:List bV:=["steps","tables","outlook"]
def xA:cH G6 tU (bZ tp):=by trivial
meta abbrev QV:List bV:=["formulas","left","right","root","letters","full","tables","steps","starts","outlook","search"]
meta abbrev Ce:List bV:=["formulas","left","right"]
def Gw:cH QV Ce (bZ Cj):=by trivial
meta abbrev FN:List bV:=["self","count","back"]
meta abbrev qP:List bV:=["self","count","back"]
def wM:cH FN qP (bZ qO):=by trivial
meta abbrev Dx:List bV:=["self","table"]
meta abbrev pk:List bV:=["self","table"]
def uU:cH Dx pk (bZ oZ):=by trivial
meta abbrev Cg:List bV:=["self","left","right","at_last","value","moment","table"]
meta abbrev n8:List bV:=["self","left","right","at_last"]
def uy:cH Cg n8 (bZ om):=by trivial
meta abbrev Oj:List bV:=["formulas","root","marks","back","row","cases","tables","place","kind","left","right"]
meta abbrev Am:List bV:=["formulas","root","marks","back"]
def EU:cH Oj Am (bZ AK):=by trivial
meta abbrev Ra:List bV:=["texts","text","found","times","wrong_byte","signs","wrong","sign"]
meta abbrev BZ:List bV:=["texts"]
def wz:cH Ra BZ (bZ Cz):=by trivial
meta abbrev Qv:List bV:=["texts","refusal","found","formulas","roots","signs"]
meta abbrev Cy:List bV:=["texts"]
def AI:cH Qv Cy (bZ CH):=by trivial
meta abbrev MM:List bV:=["count","u"]
meta abbrev y6:List bV:=["count","u"]
def C9:cH MM y6 (bZ yA):=by trivial
meta abbrev Wu:List bV:=["system","states","u","state","later"]
meta abbrev Kr:List bV:=["system","states","u"]
def Nz:cH Wu Kr (bZ JX):=by trivial
meta abbrev abY:List bV:=["system","text","refusal","formulas","roots"]
meta abbrev PN:List bV:=["system","text"]
def SJ:cH abY PN (bZ Qq):=by trivial
meta abbrev adJ:List bV:=["system","u","states","text","refusal","formulas","roots","marks","state"]
meta abbrev UM:List bV:=["system","u","states","text"]
def QB:cH adJ UM (bZ Ua):=by trivial
meta abbrev ad6:List bV:=["u","moments","text","refusal","formulas","roots"]
meta abbrev TF:List bV:=["u","moments","text"]
def Vx:cH ad6 TF (bZ T8):=by trivial
meta abbrev aen:List bV:=["a","b","refusal","formulas","roots"]
meta abbrev UE:List bV:=["a","b"]
def Vw:cH aen UE (bZ s_same):=by trivial
meta abbrev Qi:List bV:=["calls","found","place","number","behind","numbers","rows","turn","first"]
meta abbrev B5:List bV:=["calls"]
def GD:cH Qi B5 (bZ BX):=by trivial
meta abbrev Uk:List bV:=["bits","place","there"]
meta abbrev HE:List bV:=["bits","place","there"]
def Lk:cH Uk HE (bZ HP):=by trivial
meta abbrev B_:List bV:=["self"]
meta abbrev nN:List bV:=["self"]
def uk:cH B_ nN (bZ nM):=by trivial
meta abbrev Br:List bV:=["self","state"]
meta abbrev mQ:List bV:=["self","state"]
def se:cH Br mQ (bZ nq):=by trivial
meta abbrev FY:List bV:=["self","n"]
meta abbrev rk:List bV:=["self","n"]
def wU:cH FY rk (bZ rM):=by trivial
meta abbrev Hr:List bV:=["self","state","propositions"]
meta abbrev tM:List bV:=["self","state","propositions"]
def xE:cH Hr tM (bZ s_):=by trivial
meta abbrev IX:List bV:=["self","a","b","there"]
meta abbrev uX:List bV:=["self","a","b","there"]
def yL:cH IX uX (bZ uK):=by trivial
meta abbrev F_:List bV:=["self","state","there"]
meta abbrev qN:List bV:=["self","state","there"]
def wQ:cH F_ qN (bZ rS):=by trivial
meta abbrev aaF:List bV:=["system","number","numbers"]
meta abbrev QO:List bV:=["system","number","numbers"]
def RY:cH aaF QO (bZ Qh):=by trivial
meta abbrev af6:List bV:=["system","number","numbers","rows"]
meta abbrev Yz:List bV:=["system","number","numbers","rows"]
def ZM:cH af6 Yz (bZ Ze):=by trivial
meta abbrev W4:List bV:=["calls","system","told","number","numbers","rows"]
meta abbrev KI:List bV:=["calls"]
def MX:cH W4 KI (bZ Kh):=by trivial
abbrev Ja:List (Key×V):=[(c_ 32,V.str " ",),(c_ 33,V.str "!",),(c_ 38,V.str "&",),(c_ 40,V.str "(",),(c_ 41,V.str ")",),(c_ 45,V.str "-",),(c_ 48,V.str "0",),(c_ 49,V.str "1",),(c_ 60,V.str "<",),(c_ 62,V.str ">",),(c_ 124,V.str "|",),(c_ 70,V.str "F",),(c_ 71,V.str "G",),(c_ 82,V.str "R",),(c_ 85,V.str "U",),(c_ 87,V.str "W",),(c_ 88,V.str "X",),(c_ 97,V.str "a",),(c_ 98,V.str "b",),(c_ 99,V.str "c",),(c_ 100,V.str "d",),(c_ 101,V.str "e",),(c_ 102,V.str "f",),(c_ 103,V.str "g",),(c_ 104,V.str "h",),(c_ 105,V.str "i",),(c_ 106,V.str "j",),(c_ 107,V.str "k",),(c_ 108,V.str "l",),(c_ 109,V.str "m",),(c_ 110,V.str "n",),(c_ 111,V.str "o",),(c_ 112,V.str "p",)]
abbrev Ee:List (Key×V):=[(fW "(",V.int 0,),(fW "<->",V.int 1,),(fW "->",V.int 2,),(fW "|",V.int 3,),(fW "&",V.int 4,),(fW "U",V.int 5,),(fW "R",V.int 5,),(fW "W",V.int 5,),(fW "!",V.int 6,),(fW "X",V.int 6,),(fW "F",V.int 6,),(fW "G",V.int 6,)]
abbrev oN:List (Key×V):=[(fW "<->",V.int 1,),(fW "->",V.int 3,),(fW "|",V.int 3,),(fW "&",V.int 4,),(fW "U",V.int 6,),(fW "R",V.int 6,),(fW "W",V.int 6,)]
set_option genInjectivity false in
structure Ad where
 cz:aW
 cF:aW
 cI:aW
 gj:aW
 fO:aW
 bA:aW
 bB:aW
 j9:aW
 bY:aW
 oS:aW
 nP:bX
 tY:aW
 rj:bX
 ki:aW
 kc:bX
 kr:aW
 j_:bX
 lJ:aW
 lq:bX
 pU:aW
 pA:bX
 Cp:aW
 AU:bX
 qW:aW
 pP:bX
 rO:aW
 pN:bX
 vV:aW
 uS:bX
 tE:aW
 rp:bX
 tj:aW
 rA:bX
 u9:aW
 tf:bX
 tO:aW
 qX:bX
 lP:aW
 lj:bX
 kC:aW
 j8:bX
 pz:aW
 oi:bX
 As:aW
 yO:bX
 CD:aW
 AL:bX
 Av:aW
 yX:bX
 xh:aW
 vO:bX
 pV:aW
 oU:bX
 oT:aW
 nX:bX
 lD:aW
 oh:bX
 iK:aW
 mH:bX
 mw:aW
 lT:bX
 mX:aW
 mI:bX
 qf:aW
 pw:bX
 lz:aW
 kz:bX
 jL:aW
 jv:bX
 jx:aW
 ji:bX
 m9:aW
 mK:bX
 oj:aW
 mR:bX
 mD:aW
 lM:bX
 qJ:aW
 pK:bX
 oW:aW
 n_:bX
 rH:aW
 qh:bX
 lQ:aW
 lh:bX
 An:aW
 yZ:bX
 Eb:aW
 Cs:bX
 uZ:aW
 tX:bX
 rC:aW
 qc:bX
 tq:aW
 qK:bX
 Ct:aW
 Aw:bX
 rQ:aW
 qb:bX
 oY:aW
 nW:bX
 nR:aW
 mZ:bX
 AV:aW
 yK:bX
 CG:aW
 Ar:bX
 CN:aW
 AE:bX
 yT:aW
 xc:bX
 Ko:aW
 Hz:bX
 QK:aW
 Mr:bX
 UK:aW
 QY:bX
 TX:aW
 Q3:bX
 UH:aW
 Qp:bX
 CI:aW
 Ay:bX
 G7:aW
 EF:bX
 nZ:aW
 m7:bX
 ng:aW
 mB:bX
 rg:aW
 pM:bX
 tS:aW
 qY:bX
 uV:aW
 sZ:bX
 rq:aW
 qg:bX
 Qn:aW
 MN:bX
 XT:aW
 TR:bX
 Km:aW
 HI:bX
 PZ:aW
 Iv:aW
 yM:aW
 Es:aW
 MA:aW
 ju:aW
 FF:aW
 Ml:aW
 xW:aW
 Cc:aW
 BW:aW
 xb:aW
 Uz:aW
structure Tx(P:fm)(w:e_)(K:bj)(mg:bV->Option bM)(a:Ad):Prop where
 gc:JV K a.cz
 N8:Mk K a.cz a.oS
 Q2:mg "SignReader" =some (.ref a.cz)
 fZ:dR K a.cz "signs"
 hU:dR K a.cz "brackets"
 j0:dR K a.cz "due"
 jb:dR K a.cz "arrow"
 cR:JV K a.cF
 R5:Mk K a.cF a.qW
 T3:mg "Formulas" =some (.ref a.cF)
 ip:dR K a.cF "nodes"
 og:dR K a.cF "places"
 jU:dR K a.cF "ahead"
 dz:JV K a.cI
 Iy:Mk K a.cI a.lP
 Ke:mg "FormulaBuilder" =some (.ref a.cI)
 iY:dR K a.cI "formulas"
 gZ:dR K a.cI "ready"
 ie:dR K a.cI "waiting"
 kq:JV K a.gj
 Io:Mk K a.gj a.pV
 Ln:mg "CaseParts" =some (.ref a.gj)
 xM:dR K a.gj "tables"
 pT:dR K a.gj "waiting"
 wy:JV K a.fO
 NY:Mk K a.fO a.lD
 Jn:mg "CaseTables" =some (.ref a.fO)
 F5:dR K a.fO "nodes"
 x5:dR K a.fO "letter_tables"
 Hx:dR K a.fO "full"
 wG:dR K a.fO "tables"
 xC:dR K a.fO "timed"
 bI:JV K a.bA
 BI:Mk K a.bA a.mw
 C_:mg "OutlookTables" =some (.ref a.bA)
 i8:dR K a.bA "nodes"
 wj:dR K a.bA "letter_tables"
 jo:dR K a.bA "full"
 fE:dR K a.bA "tables"
 uH:dR K a.bA "timed"
 i0:dR K a.bA "times"
 jk:dR K a.bA "outlooks"
 mT:dR K a.bA "untils"
 lK:dR K a.bA "unlesses"
 jV:dR K a.bA "wishes"
 da:JV K a.bB
 ET:Mk K a.bB a.oj
 Gv:mg "RoundSearch" =some (.ref a.bB)
 xN:dR K a.bB "arcs"
 wO:dR K a.bB "steps"
 ud:dR K a.bB "outlooks"
 vH:dR K a.bB "wishes"
 iL:dR K a.bB "standing"
 qR:dR K a.bB "live"
 lE:dR K a.bB "groups"
 l9:dR K a.bB "trail"
 ma:JV K a.j9
 R_:Mk K a.j9 a.rQ
 Um:mg "RoundRow" =some (.ref a.j9)
 pF:dR K a.j9 "count"
 qu:dR K a.j9 "back"
 cG:JV K a.bY
 MF:Mk K a.bY a.nZ
 N2:mg "StateSystem" =some (.ref a.bY)
 mP:dR K a.bY "size"
 jJ:dR K a.bY "marks"
 jc:dR K a.bY "arcs"
 iB:dR K a.bY "starts"
 DH:oC K "__init__" "SignReader.__init__" oX a.oS a.nP
 DB:Binds K a.nP pC []
 G5:oC K "takes" "SignReader.takes" tR a.tY a.rj
 HH:Binds K a.rj tQ []
 HQ:Meth K a.cz "takes" a.tY
 x8:oC K "takes_in_arrow" "SignReader.takes_in_arrow" kD a.ki a.kc
 x6:Binds K a.kc kE []
 xV:Meth K a.cz "takes_in_arrow" a.ki
 yb:oC K "takes_in_front" "SignReader.takes_in_front" kJ a.kr a.j_
 xZ:Binds K a.j_ kH []
 yf:Meth K a.cz "takes_in_front" a.kr
 zI:oC K "takes_behind" "SignReader.takes_behind" lR a.lJ a.lq
 zB:Binds K a.lq lL []
 zF:Meth K a.cz "takes_behind" a.lJ
 EL:oC K "may_end" "SignReader.may_end" p_ a.pU a.pA
 Eo:Binds K a.pA pJ []
 Er:Meth K a.cz "may_end" a.pU
 IG:oC K "read_signs" "read_signs" Ca a.Cp a.AU
 PJ:Binds K a.AU Cn []
 PY:mg "read_signs" =some (.ref a.Cp)
 Gd:oC K "__init__" "Formulas.__init__" qS a.qW a.pP
 F6:Binds K a.pP qT []
 F0:oC K "place_of" "Formulas.place_of" rG a.rO a.pN
 qV:Binds K a.pN q_ []
 qU:Meth K a.cF "place_of" a.rO
 KA:oC K "whole" "Formulas.whole" v_ a.vV a.uS
 vZ:Binds K a.uS vW []
 vR:Meth K a.cF "whole" a.vV
 Hb:oC K "made_of" "Formulas.made_of" sX a.tE a.rp
 g9:Binds K a.rp tK []
 g_:Meth K a.cF "made_of" a.tE
 HN:oC K "fronted" "Formulas.fronted" sW a.tj a.rA
 yS:Binds K a.rA tH []
 yU:Meth K a.cF "fronted" a.tj
 Iu:oC K "joined" "Formulas.joined" uW a.u9 a.tf
 IP:Binds K a.tf vf []
 I_:Meth K a.cF "joined" a.u9
 GW:oC K "letters" "Formulas.letters" tJ a.tO a.qX
 tW:Binds K a.qX tP []
 sY:Meth K a.cF "letters" a.tO
 zA:oC K "__init__" "FormulaBuilder.__init__" lU a.lP a.lj
 zE:Binds K a.lj lO []
 ya:oC K "do_waiting" "FormulaBuilder.do_waiting" kl a.kC a.j8
 ko:Binds K a.j8 kj []
 kh:Meth K a.cI "do_waiting" a.kC
 DN:oC K "take" "FormulaBuilder.take" pf a.pz a.oi
 DQ:Binds K a.oi pB []
 DK:Meth K a.cI "take" a.pz
 Gz:oC K "add_formula" "add_formula" AJ a.As a.yO
 N0:Binds K a.yO AR []
 NZ:mg "add_formula" =some (.ref a.As)
 uP:oC K "bit_places" "bit_places" B8 a.CD a.AL
 yh:Binds K a.AL Cv []
 xY:mg "bit_places" =some (.ref a.CD)
 AY:oC K "mark_tables" "mark_tables" AZ a.Av a.yX
 GC:Binds K a.yX AH []
 GH:mg "mark_tables" =some (.ref a.Av)
 Dg:oC K "choice_tables" "choice_tables" xf a.xh a.vO
 Lz:Binds K a.vO xg []
 Lw:mg "choice_tables" =some (.ref a.xh)
 ED:oC K "__init__" "CaseParts.__init__" pL a.pV a.oU
 wH:Binds K a.oU pI []
 DT:oC K "next_part" "CaseParts.next_part" oV a.oT a.nX
 lG:Binds K a.nX o_ []
 lF:Meth K a.gj "next_part" a.oT
 DM:oC K "__init__" "CaseTables.__init__" px a.lD a.oh
 vF:Binds K a.oh pD []
 Bn:oC K "fill_plain" "CaseTables.fill_plain" mU a.iK a.mH
 mW:Binds K a.mH mS []
 ue:Meth K a.fO "fill_plain" a.iK
 AS:oC K "__init__" "OutlookTables.__init__" mz a.mw a.lT
 sj:Binds K a.lT mE []
 Bj:oC K "bits_of" "OutlookTables.bits_of" nv a.mX a.mI
 ux:Binds K a.mI m_ []
 uv:Meth K a.bA "bits_of" a.mX
 E3:oC K "look" "OutlookTables.look" pR a.qf a.pw
 wJ:Binds K a.pw pO []
 wV:Meth K a.bA "look" a.qf
 yB:oC K "time_table" "OutlookTables.time_table" kY a.lz a.kz
 y8:Binds K a.kz k_ []
 yD:Meth K a.bA "time_table" a.lz
 wL:oC K "before_tables" "OutlookTables.before_tables" jQ a.jL a.jv
 nH:Binds K a.jv jR []
 nG:Meth K a.bA "before_tables" a.jL
 vP:oC K "granted_tables" "OutlookTables.granted_tables" jy a.jx a.ji
 nr:Binds K a.ji jt []
 mV:Meth K a.bA "granted_tables" a.jx
 BJ:oC K "put_off" "OutlookTables.put_off" ni a.m9 a.mK
 BL:Binds K a.mK m6 []
 Bq:Meth K a.bA "put_off" a.m9
 Cm:oC K "__init__" "RoundSearch.__init__" oa a.oj a.mR
 vg:Binds K a.mR n9 []
 AX:oC K "steps_from" "RoundSearch.steps_from" my a.mD a.lM
 AO:Binds K a.lM mJ []
 Az:Meth K a.bB "steps_from" a.mD
 FQ:oC K "enter" "RoundSearch.enter" rP a.qJ a.pK
 xG:Binds K a.pK rJ []
 xy:Meth K a.bB "enter" a.qJ
 DO:oC K "go_back" "RoundSearch.go_back" pj a.oW a.n_
 Dz:Binds K a.n_ pb []
 DL:Meth K a.bB "go_back" a.oW
 F9:oC K "close" "RoundSearch.close" rX a.rH a.qh
 F7:Binds K a.qh qQ []
 Gh:Meth K a.bB "close" a.rH
 zC:oC K "finds_round" "RoundSearch.finds_round" lI a.lQ a.lh
 zL:Binds K a.lh lS []
 zM:Meth K a.bB "finds_round" a.lQ
 AF:oC K "empty_lists" "empty_lists" Au a.An a.yZ
 GF:Binds K a.yZ AB []
 GG:mg "empty_lists" =some (.ref a.An)
 D4:oC K "any_round" "any_round" EI a.Eb a.Cs
 Le:Binds K a.Cs EJ []
 Lg:mg "any_round" =some (.ref a.Eb)
 Ab:oC K "add_state_steps" "add_state_steps" uM a.uZ a.tX
 Js:Binds K a.tX u5 []
 Ip:mg "add_state_steps" =some (.ref a.uZ)
 xH:oC K "true_of_all_paths" "true_of_all_paths" qI a.rC a.qc
 Gf:Binds K a.qc rL []
 FT:mg "true_of_all_paths" =some (.ref a.rC)
 zb:oC K "add_choice_steps" "add_choice_steps" tp a.tq a.qK
 G0:Binds K a.qK tU []
 Hu:mg "add_choice_steps" =some (.ref a.tq)
 IK:oC K "true_alike" "true_alike" Cj a.Ct a.Aw
 Qj:Binds K a.Aw Ce []
 Qw:mg "true_alike" =some (.ref a.Ct)
 Gi:oC K "__init__" "RoundRow.__init__" qO a.rQ a.qb
 FP:Binds K a.qb qP []
 DR:oC K "next_table" "RoundRow.next_table" oZ a.oY a.nW
 DP:Binds K a.nW pk []
 Dy:Meth K a.j9 "next_table" a.oY
 B0:oC K "until_table" "RoundRow.until_table" om a.nR a.mZ
 BY:Binds K a.mZ n8 []
 Cr:Meth K a.j9 "until_table" a.nR
 Ax:oC K "true_of_row" "true_of_row" AK a.AV a.yK
 GA:Binds K a.yK Am []
 Gs:mg "true_of_row" =some (.ref a.AV)
 IE:oC K "read_texts" "read_texts" Cz a.CG a.Ar
 Q8:Binds K a.Ar BZ []
 QF:mg "read_texts" =some (.ref a.CG)
 u7:oC K "understand" "understand" CH a.CN a.AE
 ye:Binds K a.AE Cy []
 xX:mg "understand" =some (.ref a.CN)
 yV:oC K "can_go_round" "can_go_round" yA a.yT a.xc
 EM:Binds K a.xc y6 []
 E5:mg "can_go_round" =some (.ref a.yT)
 Pn:oC K "is_path" "is_path" JX a.Ko a.Hz
 W9:Binds K a.Hz Kr []
 Xd:mg "is_path" =some (.ref a.Ko)
 Ve:oC K "check" "check" Qq a.QK a.Mr
 aby:Binds K a.Mr PN []
 abh:mg "check" =some (.ref a.QK)
 Ym:oC K "path" "path" Ua a.UK a.QY
 acZ:Binds K a.QY UM []
 ac6:mg "path" =some (.ref a.UK)
 ZU:oC K "word" "word" T8 a.TX a.Q3
 adI:Binds K a.Q3 TF []
 aeF:mg "word" =some (.ref a.TX)
 YK:oC K "same" "same" s_same a.UH a.Qp
 aeZ:Binds K a.Qp UE []
 ac9:mg "same" =some (.ref a.UH)
 Jq:oC K "read_calls" "read_calls" BX a.CI a.Ay
 Qe:Binds K a.Ay B5 []
 Qz:mg "read_calls" =some (.ref a.CI)
 G8:oC K "with_bit" "with_bit" HP a.G7 a.EF
 Nc:Binds K a.EF HE []
 My:mg "with_bit" =some (.ref a.G7)
 CQ:oC K "__init__" "StateSystem.__init__" nM a.nZ a.m7
 Cb:Binds K a.m7 nN []
 BE:oC K "has_state" "StateSystem.has_state" nq a.ng a.mB
 jZ:Binds K a.mB mQ []
 jX:Meth K a.bY "has_state" a.ng
 Gb:oC K "begin" "StateSystem.begin" rM a.rg a.pM
 FL:Binds K a.pM rk []
 F4:Meth K a.bY "begin" a.rg
 HB:oC K "mark" "StateSystem.mark" s_ a.tS a.qY
 G1:Binds K a.qY tM []
 GZ:Meth K a.bY "mark" a.tS
 Jm:oC K "arc" "StateSystem.arc" uK a.uV a.sZ
 Ij:Binds K a.sZ uX []
 Im:Meth K a.bY "arc" a.uV
 Ga:oC K "start" "StateSystem.start" rS a.rq a.qg
 Ge:Binds K a.qg qN []
 FV:Meth K a.bY "start" a.rq
 Vr:oC K "build" "build" Qh a.Qn a.MN
 abC:Binds K a.MN QO []
 abn:mg "build" =some (.ref a.Qn)
 acd:oC K "ask" "ask" Ze a.XT a.TR
 af1:Binds K a.TR Yz []
 ahu:mg "ask" =some (.ref a.XT)
 OC:oC K "answers" "answers" Kh a.Km a.HI
 afd:Binds K a.HI KI []
 Ww:mg "answers" =some (.ref a.Km)
 qd:Meth K a.bA "fill_plain" a.iK
 Pj:∃t,mg "NOWHERE" =some (.int (-1) t)
 Xe:∃t,mg "UNKNOWN" =some (.str "?" t)
 abV:mg "SIGNS" =some (.ref a.PZ)
 aav:KD P w K a.PZ Ja
 Sy:mg "FRONTS" =some (.ref a.Iv)
 Se:∀H,qH K H a.Iv [V.str "!",V.str "X",V.str "F",V.str "G"]
 TU:mg "JOININGS" =some (.ref a.yM)
 Ue:∀H,qH K H a.yM [V.str "&",V.str "|",V.str "U",V.str "R",V.str "W"]
 J0:∃t,mg "LETTERS" =some (.str "abcdefghijklmnop" t)
 RI:mg "CONSTANTS" =some (.ref a.Es)
 S2:∀H,qH K H a.Es [V.str "0",V.str "1"]
 XC:mg "ARROWS" =some (.ref a.MA)
 ZW:∀H,qH K H a.MA [V.str "->",V.str "<->"]
 yQ:mg "ARROW_BEGINNINGS" =some (.ref a.ju)
 yG:∀H,qH K H a.ju [V.str "-",V.str "<",V.str "<-"]
 M3:∃t,mg "LETTER" =some (.str "a" t)
 ab3:∃t,mg "NEVER" =some (.str "0" t)
 X3:∃t,mg "ALWAYS" =some (.str "1" t)
 agm:∃t,mg "NOT" =some (.str "!" t)
 ack:∃t,mg "AND" =some (.str "&" t)
 agl:∃t,mg "OR" =some (.str "|" t)
 aaq:∃t,mg "ALIKE" =some (.str "<->" t)
 Ux:∃t,mg "NEXT" =some (.str "X" t)
 Mh:∃t,mg "UNTIL" =some (.str "U" t)
 Jp:∃t,mg "UNLESS" =some (.str "W" t)
 Ma:mg "TIMES" =some (.ref a.FF)
 Fv:∀H,qH K H a.FF [V.str "X",V.str "U",V.str "W"]
 V7:mg "BINDS" =some (.ref a.Ml)
 VI:KD P w K a.Ml Ee
 Jr:mg "DONE_AHEAD" =some (.ref a.xW)
 Jb:KD P w K a.xW oN
 zY:∃t,mg "ALL_IN_BRACKETS" =some (.int 1 t)
 M9:∃t,mg "UNSEEN" =some (.int 0 t)
 X0:∃t,mg "LEFT" =some (.int (-1) t)
 Wy:∃t,mg "LONGEST" =some (.int 1024 t)
 QP:∃t,mg "MOST_TIMES" =some (.int 6 t)
 Q9:mg "TIME_SIGNS" =some (.ref a.Cc)
 P6:∀H,qH K H a.Cc [V.str "X",V.str "F",V.str "G",V.str "U",V.str "R",V.str "W"]
 uY:∃t,mg "NO_REFUSAL" =some (.int 0 t)
 TK:∃t,mg "TOO_LONG" =some (.int (-1) t)
 KH:∃t,mg "TOO_MANY_TIMES" =some (.int (-3) t)
 Q1:mg "WRONG_BYTE" =some (.ref a.BW)
 Ig:∀H,qH K H a.BW [V.int (-10),V.int (-2000)]
 MD:∃t,mg "MOST_MOMENTS" =some (.int 4096 t)
 GB:∃t,mg "WRONG_ROUND" =some (.int (-2) t)
 Wn:∃t,mg "NO_PATH" =some (.int (-4) t)
 LI:mg "WHOLE_NUMBERS" =some (.ref a.xb)
 Lv:∀H,qH K H a.xb [V.int 1,V.int 2,V.int 3,V.int 2,V.int 0,V.int 1,V.int 1,V.int 0]
 aee:mg "ROWS" =some (.ref a.Uz)
 acY:∀H,qH K H a.Uz [V.int 0,V.int 0,V.int 0,V.int 0,V.int 1,V.int 2,V.int 2,V.int 2]
 QJ:∃t,mg "DONE" =some (.int 0 t)
 Fm:∃t,mg "REFUSED" =some (.int (-1) t)
 Og:∃t,mg "MOST_STATES" =some (.int 64 t)
 HM:∃t,mg "PROPOSITIONS_END" =some (.int 65536 t)
 abJ:∃t,mg "BEGIN" =some (.int 0 t)
 ac4:∃t,mg "MARK" =some (.int 1 t)
 ahl:∃t,mg "ARC" =some (.int 2 t)
 aaT:∃t,mg "START" =some (.int 3 t)
 aa3:∃t,mg "CHECK" =some (.int 4 t)
 aex:∃t,mg "PATH" =some (.int 5 t)
 ad3:∃t,mg "WORD" =some (.int 6 t)
 uw:mg "enumerate" =none
 r_:mg "len" =none
 aeP:mg "list" =none
 afu:mg "max" =none
 Cq:mg "range" =none
 acN:mg "zip" =none
open PySem.W
structure Rw where
 c:Option bV
 n:bV
 q:bV
 s:fG
abbrev tC:List bV:=["SignReader","Formulas","FormulaBuilder","CaseParts","CaseTables","OutlookTables","RoundSearch","RoundRow","StateSystem"]
abbrev rN(a b:bV):bV×bV:=(a,b,)
abbrev tN:List (bV×bV):=[rN "SignReader" "signs",rN "SignReader" "brackets",rN "SignReader" "due",rN "SignReader" "arrow",rN "Formulas" "nodes",rN "Formulas" "places",rN "Formulas" "ahead",rN "FormulaBuilder" "formulas",rN "FormulaBuilder" "ready",rN "FormulaBuilder" "waiting",rN "CaseParts" "tables",rN "CaseParts" "waiting",rN "CaseTables" "nodes",rN "CaseTables" "letter_tables",rN "CaseTables" "full",rN "CaseTables" "tables",rN "CaseTables" "timed",rN "OutlookTables" "nodes",rN "OutlookTables" "letter_tables",rN "OutlookTables" "full",rN "OutlookTables" "tables",rN "OutlookTables" "timed",rN "OutlookTables" "times",rN "OutlookTables" "outlooks",rN "OutlookTables" "untils",rN "OutlookTables" "unlesses",rN "OutlookTables" "wishes",rN "RoundSearch" "arcs",rN "RoundSearch" "steps",rN "RoundSearch" "outlooks",rN "RoundSearch" "wishes",rN "RoundSearch" "standing",rN "RoundSearch" "live",rN "RoundSearch" "groups",rN "RoundSearch" "trail",rN "RoundRow" "count",rN "RoundRow" "back",rN "StateSystem" "size",rN "StateSystem" "marks",rN "StateSystem" "arcs",rN "StateSystem" "starts"]
abbrev rR(a:Option bV)(b c:bV)(t:fG):Rw:=(a,b,c,t)
abbrev tF:List Rw:=[rR (some "SignReader") "__init__" "SignReader.__init__" oX,rR (some "SignReader") "takes" "SignReader.takes" tR,rR (some "SignReader") "takes_in_arrow" "SignReader.takes_in_arrow" kD,rR (some "SignReader") "takes_in_front" "SignReader.takes_in_front" kJ,rR (some "SignReader") "takes_behind" "SignReader.takes_behind" lR,rR (some "SignReader") "may_end" "SignReader.may_end" p_,rR none "read_signs" "read_signs" Ca,rR (some "Formulas") "__init__" "Formulas.__init__" qS,rR (some "Formulas") "place_of" "Formulas.place_of" rG,rR (some "Formulas") "whole" "Formulas.whole" v_,rR (some "Formulas") "made_of" "Formulas.made_of" sX,rR (some "Formulas") "fronted" "Formulas.fronted" sW,rR (some "Formulas") "joined" "Formulas.joined" uW,rR (some "Formulas") "letters" "Formulas.letters" tJ,rR (some "FormulaBuilder") "__init__" "FormulaBuilder.__init__" lU,rR (some "FormulaBuilder") "do_waiting" "FormulaBuilder.do_waiting" kl,rR (some "FormulaBuilder") "take" "FormulaBuilder.take" pf,rR none "add_formula" "add_formula" AJ,rR none "bit_places" "bit_places" B8,rR none "mark_tables" "mark_tables" AZ,rR none "choice_tables" "choice_tables" xf,rR (some "CaseParts") "__init__" "CaseParts.__init__" pL,rR (some "CaseParts") "next_part" "CaseParts.next_part" oV,rR (some "CaseTables") "__init__" "CaseTables.__init__" px,rR (some "CaseTables") "fill_plain" "CaseTables.fill_plain" mU,rR (some "OutlookTables") "__init__" "OutlookTables.__init__" mz,rR (some "OutlookTables") "bits_of" "OutlookTables.bits_of" nv,rR (some "OutlookTables") "look" "OutlookTables.look" pR,rR (some "OutlookTables") "time_table" "OutlookTables.time_table" kY,rR (some "OutlookTables") "before_tables" "OutlookTables.before_tables" jQ,rR (some "OutlookTables") "granted_tables" "OutlookTables.granted_tables" jy,rR (some "OutlookTables") "put_off" "OutlookTables.put_off" ni,rR (some "RoundSearch") "__init__" "RoundSearch.__init__" oa,rR (some "RoundSearch") "steps_from" "RoundSearch.steps_from" my,rR (some "RoundSearch") "enter" "RoundSearch.enter" rP,rR (some "RoundSearch") "go_back" "RoundSearch.go_back" pj,rR (some "RoundSearch") "close" "RoundSearch.close" rX,rR (some "RoundSearch") "finds_round" "RoundSearch.finds_round" lI,rR none "empty_lists" "empty_lists" Au,rR none "any_round" "any_round" EI,rR none "add_state_steps" "add_state_steps" uM,rR none "true_of_all_paths" "true_of_all_paths" qI,rR none "add_choice_steps" "add_choice_steps" tp,rR none "true_alike" "true_alike" Cj,rR (some "RoundRow") "__init__" "RoundRow.__init__" qO,rR (some "RoundRow") "next_table" "RoundRow.next_table" oZ,rR (some "RoundRow") "until_table" "RoundRow.until_table" om,rR none "true_of_row" "true_of_row" AK,rR none "read_texts" "read_texts" Cz,rR none "understand" "understand" CH,rR none "can_go_round" "can_go_round" yA,rR none "is_path" "is_path" JX,rR none "check" "check" Qq,rR none "path" "path" Ua,rR none "word" "word" T8,rR none "same" "same" s_same,rR none "read_calls" "read_calls" BX,rR none "with_bit" "with_bit" HP,rR (some "StateSystem") "__init__" "StateSystem.__init__" nM,rR (some "StateSystem") "has_state" "StateSystem.has_state" nq,rR (some "StateSystem") "begin" "StateSystem.begin" rM,rR (some "StateSystem") "mark" "StateSystem.mark" s_,rR (some "StateSystem") "arc" "StateSystem.arc" uK,rR (some "StateSystem") "start" "StateSystem.start" rS,rR none "build" "build" Qh,rR none "ask" "ask" Ze,rR none "answers" "answers" Kh]
abbrev rV(n:bV)(v:V):bV×V:=(n,v,)
abbrev tV:List (bV×V):=[rV "NOWHERE" (.int (-1)),rV "UNKNOWN" (.str "?"),rV "LETTERS" (.str "abcdefghijklmnop"),rV "LETTER" (.str "a"),rV "NEVER" (.str "0"),rV "ALWAYS" (.str "1"),rV "NOT" (.str "!"),rV "AND" (.str "&"),rV "OR" (.str "|"),rV "ALIKE" (.str "<->"),rV "NEXT" (.str "X"),rV "UNTIL" (.str "U"),rV "UNLESS" (.str "W"),rV "ALL_IN_BRACKETS" (.int 1),rV "UNSEEN" (.int 0),rV "LEFT" (.int (-1)),rV "LONGEST" (.int 1024),rV "MOST_TIMES" (.int 6),rV "NO_REFUSAL" (.int 0),rV "TOO_LONG" (.int (-1)),rV "TOO_MANY_TIMES" (.int (-3)),rV "MOST_MOMENTS" (.int 4096),rV "WRONG_ROUND" (.int (-2)),rV "NO_PATH" (.int (-4)),rV "DONE" (.int 0),rV "REFUSED" (.int (-1)),rV "MOST_STATES" (.int 64),rV "PROPOSITIONS_END" (.int 65536),rV "BEGIN" (.int 0),rV "MARK" (.int 1),rV "ARC" (.int 2),rV "START" (.int 3),rV "CHECK" (.int 4),rV "PATH" (.int 5),rV "WORD" (.int 6)]
abbrev rT(n:bV)(v:List V):bV×List V:=(n,v,)
abbrev tT:List (bV×List V):=[rT "FRONTS" [V.str "!",V.str "X",V.str "F",V.str "G"],rT "JOININGS" [V.str "&",V.str "|",V.str "U",V.str "R",V.str "W"],rT "CONSTANTS" [V.str "0",V.str "1"],rT "ARROWS" [V.str "->",V.str "<->"],rT "ARROW_BEGINNINGS" [V.str "-",V.str "<",V.str "<-"],rT "TIMES" [V.str "X",V.str "U",V.str "W"],rT "TIME_SIGNS" [V.str "X",V.str "F",V.str "G",V.str "U",V.str "R",V.str "W"],rT "WRONG_BYTE" [V.int (-10),V.int (-2000)],rT "WHOLE_NUMBERS" [V.int 1,V.int 2,V.int 3,V.int 2,V.int 0,V.int 1,V.int 1,V.int 0],rT "ROWS" [V.int 0,V.int 0,V.int 0,V.int 0,V.int 1,V.int 2,V.int 2,V.int 2]]
abbrev rK(n:bV)(v:List (Key×V)):bV×List (Key×V):=(n,v,)
abbrev tD:List (bV×List (Key×V)):=[rK "SIGNS" Ja,rK "BINDS" Ee,rK "DONE_AHEAD" oN]
abbrev tB:List bV:=["enumerate","len","list","max","range","zip"]
abbrev rf:Option (Option bM)->aW
 |some (some (.ref a))=>a
 |_=>0
abbrev isR:Option (Option bM)->Bool
 |some (some (.ref _))=>true
 |_=>false
abbrev isN:Option (Option bM)->Bool
 |some none=>true
 |_=>false
abbrev isB(b:String):Option (Option bM)->Bool
 |some (some (.builtin c))=>c==b
 |_=>false
abbrev UN(x:V):bM->Bool
 | .int j _=>x== .int j
 | .str y _=>x== .str y
 |_=>false
abbrev ab8:List V->List bM->Bool
 |[],[]=>true
 |x ::xs,u ::us=>UN x u && ab8 xs us
 |_,_=>false
abbrev aaj:List (Key×V)->List uC->Bool
 |[],[]=>true
 |x ::xs,e ::es=>Gy x.1 e.key && UN x.2 e.val && aaj xs es
 |_,_=>false
abbrev adr(K:yl)(n:bV):aW:=rf (nsIn K mainGlobals n)
abbrev at_(K:yl)(r:Rw):Option (Option bM):=match r.c with
 |none=>nsIn K mainGlobals r.n
 |some c=>findIn K (.ref (adr K c)) r.n
abbrev fA(K:yl)(r:Rw):aW:=rf (at_ K r)
abbrev fD(K:yl)(r:Rw):bX:=match K.lookup (fA K r) with
 |some (_,_,.func d,_)=>d
 |_=>default
abbrev clr(d:bX):bX:={d with kwdefaults:= .none,doc:= .none,pyModule:= .none,annotations:=none,code:= .none,closureTuple:= .none}
abbrev exF(r:Rw):bX:=fnOf r.n r.q (x9 r.s) (wB r.s) (bZ r.s) .none .none .none .none none .none .none
abbrev isF(K:yl)(a:aW):Bool:=match K.lookup a with
 |some (_,_,.func _,_)=>true
 |_=>false
abbrev fB(K:yl)(r:Rw):Bool:=isR (at_ K r) && isFn K (.ref (fA K r)) && isF K (fA K r) && codeIn K (fD K r).code r.q && keepIn K (.ref (fA K r))
abbrev cB(K:yl)(c:bV):Bool:=isR (nsIn K mainGlobals c) && plainGet K (adr K c) Str.empty && hasDictIn K (adr K c) && plainOver K (adr K c) && isB "object.__setattr__" (findIn K (.ref (adr K c)) "__setattr__") && makesIn K (adr K c) && keepIn K (.ref (adr K c))
abbrev nB(K:yl)(x:bV×bV):Bool:=isN (findIn K (.ref (adr K x.1)) x.2)
abbrev vB(K:yl)(x:bV×V):Bool:=match nsIn K mainGlobals x.1 with
 |some (some u)=>UN x.2 u
 |_=>false
abbrev tuB(K:yl)(x:bV×List V):Bool:=isR (nsIn K mainGlobals x.1) && match K.lookup (adr K x.1) with
 |some (.type c,_,.seq g _,_)=>c=="tuple" && Nat.ble g.size sizeLine && ab8 x.2 g.toList
 |_=>false
abbrev dB(K:yl)(x:bV×List (Key×V)):Bool:=isR (nsIn K mainGlobals x.1) && (adr K x.1 !=sysModules) && match K.lookup (adr K x.1) with
 |some (.type c,none,.dict es _,⟨[]⟩)=>c=="dict" && aaj x.2 es.toList
 |_=>false
abbrev dH(K:yl)(x:bV×List (Key×V)):List Int:=match K.lookup (adr K x.1) with
 |some (_,_,.dict es _,_)=>es.toList.map (·.hash)
 |_=>[]
abbrev oB(K:yl):Bool:=isR (findIn K (.ref (adr K "OutlookTables")) "fill_plain") && Nat.beq (rf (findIn K (.ref (adr K "OutlookTables")) "fill_plain")) (rf (findIn K (.ref (adr K "CaseTables")) "fill_plain")) &&
 isB "type.__getattribute__" (specialIn K (.ref (adr K "CaseTables")) "__getattribute__") && readsIn K (adr K "CaseTables") (.type "type") && match findCls K (.ref (adr K "CaseTables")) (.type "type") "__init__" with
 |some (.val (.ref f))=>Nat.beq f (rf (findIn K (.ref (adr K "CaseTables")) "__init__"))
 |_=>false
abbrev obB(K:yl):Bool:=tF.all (fB K) && tC.all (cB K) && tN.all (nB K) && tV.all (vB K) && tT.all (tuB K) && tD.all (dB K) && tB.all (λb=>isN (nsIn K mainGlobals b)) && oB K
abbrev exH(w:e_)(x:bV×List (Key×V)):List Int:=x.2.map λk=>ab5 w k.1
meta abbrev P0:=pE
abbrev mkT:List uG->Nat->BT->BT
 |[],_,t=>t
 |o ::os,n,t=>mkT os (n+1) (t.ins n o)
abbrev okT:List uG->Nat->BT->Bool
 |[],_,_=>true
 |o ::os,n,t=>((t.ins n o).get n).isSome && okT os (n+1) (t.ins n o)
def Yk:∀(l:List uG) (n:Nat) (t:BT),okT l n t=true->absHeap (mkT l n t) (n+↑l) life=((absHeap t n life).objs++l.toArray,life)
 |[],n,t,_=>by simp[mkT,absHeap]
 |o ::os,n,t,h=>by
  have h:=cT.mp (show(((t.ins n o).get n).isSome && okT os (n+1) (t.ins n o))=true from h);have k:=Yk (life:=life) os (n+1) (t.ins n o) h.2;rw[absHeap_ins h.1] at k;rw[a_,show n+(↑os+1)=n+1+↑os by lia];show k.trans ?_;simp[Heap.push]
abbrev toT(s:b9):FJ:=(mkT s.heap.objs.toList 0 .nil,s.heap.objs.size,s.heap.life,s.gens,s.drawn,s.toks,s.os)
def aa7(h:okT s.heap.objs.toList 0 .nil=true):(toT s).abs=s:=by
 let((os,life),gens,drawn,toks,o):=s;have k:=Yk (life:=life) os.toList 0 .nil h
 have e:absHeap (mkT os.toList 0 .nil) os.size life=(os,life):=by
  rw[show os.size=0+↑os.toList by simp];show k.trans ?_;simp[absHeap,BT.list]
 change Xp (absHeap _ _ _) _ _ _ _=_;show congrArg (Xp · gens drawn toks o) e
abbrev an:Option bM:=some (.ref 6)
abbrev z0:Ie:=(0,0,0,0)
abbrev bdy:List fG:=behindTheImports P0
abbrev adT:S9:={scope:=P0.main.scope,locals:=mainNs,globals:=mainNs,cells:=[],code:= .ref 13,frame:=some 14}
abbrev cdP:Code:= .body bdy adT
abbrev b0(w:e_)(os:Mn):b9:=(ny w.params,NI [],boot_drawn,boot_toks,os)
meta abbrev TgA:=(String->Option Builtin)->fm->e_->Nat->Option bM->Nat->b9->Thread->Option (b9×Thread)
meta abbrev TrA:=(String->Option Builtin)->fm->e_->Nat->Option bM->Nat->Nat->FJ->Thread->Option (Flow×FJ×Code×Ie)
abbrev Wj(g:TgA)(r:TrA)(e:String->Option Builtin)(w:e_)(os:Mn):Option (Flow×FJ×Code×Ie):=match g e P0 w 11 an 12 (b0 w os) (topStub P0) with
 |some (s,_,)=>r e P0 w 11 an 1 5420 (toT s) (piecesOf bdy adT cdP z0 [topFrame z0])
 |none=>none
meta abbrev rnn:=Wj sJ GQ gf
abbrev frT(T:FJ):yl:=(du T.n).map λi=>(i,(T.tree.get i).getD default,)
abbrev kp:List Nat:=[1,2,3,4,5,6,7,8,9,10,11,13,14,15,16,17,18,19,20,21,22,23,24,25,26,27,28,29,31,32,33,34,35,37,39,40,41,43,44,45,46,47,48,50,51,53,54,55,56,57,58,59,60,61,63,64,65,66,67,68,69,70,71,73,74,75,77,78,79,80,81,82,84,85,86,87,88,89,90,91,92,93]
abbrev lo:List bV:=["SIGNS","BINDS","DONE_AHEAD"]
meta abbrev qv:fm:=view P0 kp
meta abbrev sO:=Ib qv lo (ub P0.main.body) (recOk []) true
meta abbrev iM:=ub P0.main.body
meta abbrev RR:=Flow×FJ×Code×Ie
meta abbrev Qk{α:Type}(f:e_->RR->α)(e:e_->α)(b:Bool):Prop:=∀w:e_,(λos=>(rnn (w.withFollow "special-get-raises" b) os).map (f (w.withFollow "special-get-raises" b)))=λ_=>some (e (w.withFollow "special-get-raises" b))
meta abbrev gA(w:e_)(r:RR):=((sO r.2.1.abs).2.2.1,(sO r.2.1.abs).2.1,(sO r.2.1.abs).2.2.2.2.2.2.1,(sO r.2.1.abs).2.2.2.2.2.2.2.2,staticsOk iM (ny w.params) r.2.1.abs.heap && namesBound P0 r.2.1.abs.heap && gensDone r.2.1.abs && laidKept (ny w.params) r.2.1.abs.heap,)
meta abbrev eA(_:e_):=(true,bltViewBooted,plainGoodD qv lo,clsGoodW qv lo,true,)
meta abbrev gB(_:e_)(r:RR):=((sO r.2.1.abs).2.2.2.2.2.1,(sO r.2.1.abs).2.2.2.2.1,)
meta abbrev eB(_:e_):=(plainGoodE qv (looseW qv lo),pinGoodD (drecsOf qv),)
abbrev fK(K:yl):=(obB K,K.all (λx=>(alive x.2).isSome),tF.map (λx=>clr (fD K x)),tD.map (dH K),)
abbrev eK(w:e_):=(true,true,tF.map exF,tD.map (exH w),)
meta abbrev gC(_:e_)(r:RR):=(r.1,r.2.2.1,r.2.2.2,fK (frT r.2.1),)
abbrev z9:Ie:=(589,0,598,15)
meta abbrev eC(w:e_):=(Flow.next,cdP,z9,eK w,)
meta abbrev gD(_:e_)(r:RR):=((sO r.2.1.abs).2.2.2.1,(sO r.2.1.abs).1,(sO r.2.1.abs).2.2.2.2.2.2.2.1,)
meta abbrev eD(_:e_):=(true,expectedOf qv,wideGood qv,)
def k0:∀w:e_,(λos=>(sJ gf P0 w 11 an 12 (b0 w os) (topStub P0)).map (λx=>(x.2,okT x.1.heap.objs.toList 0 .nil,)))=λ_=>some ((GP gf cdP,cdP,z0,[topFrame z0]),true,):=λw=>by kernel_rfl
def k5:∀(w:e_) (s:b9),GN gf P0 w 11 an 1 1 s (blockOf bdy adT cdP z0 [topFrame z0])=some (.next,s,cdP,z0,):=λw s=>by kernel_rfl
def k6:∀(w:e_) (s:b9),GO gf P0 w 11 an 2 s (doneF .next,cdP,z9,[topFrame z0])=some s:=λw s=>by kernel_rfl
def k7:∀w:e_,((ny w.params).isNs mainGlobals && (NI []:Array GenState).size==0,(ny w.params).objs.size,(ny w.params).nsMap mainGlobals "__annotations__",)=(true,11,an,):=λw=>by kernel_rfl
def k8:opening P0=plainProg P0.main.scope.names:=by kernel_rfl
def k9:∀s:b9,fenceModules? P0 s=some s:=λs=>by kernel_rfl
def kA0:Qk gA eA false:=λw=>by kernel_rfl
def kA1:Qk gA eA true:=λw=>by kernel_rfl
def kB0:Qk gB eB false:=λw=>by kernel_rfl
def kB1:Qk gB eB true:=λw=>by kernel_rfl
def kC0:Qk gC eC false:=λw=>by kernel_rfl
def kC1:Qk gC eC true:=λw=>by kernel_rfl
def kD0:Qk gD eD false:=λw=>by kernel_rfl
def kD1:Qk gD eD true:=λw=>by kernel_rfl
end Pt
namespace Pt
section
variable{A:Type}{R:A->A->Prop}
abbrev Walk(R:A->A->Prop)(a b:A)(n:Nat)(f:Nat->A):Prop:=f 0=a/\f n=b/\∀i,i < n->R (f i) (f (i+1))
abbrev B7(R:A->A->Prop)(a b:A):Prop:=∃n f,0 < n/\Walk R a b n f
def Walk.glue(h:Walk R a b n f)(k:Walk R b c m g):Walk R a c (n+m) (λi=>if i < n then f i else g (i - n)):=by
 let(z,B,D):=h;let(k0,M,N):=k;show(?_,?_,?_)
 ·change(if 0 < n then f 0 else g (0 - n))=a
  by_cases e:0 < n
  ·rw[h9 e];show z
  ·rw[h8 e];have O:n=0:=by lia
   subst O;change g 0=a;rw[k0,←B,z]
 ·change(if n+m < n then f (n+m) else g (n+m - n))=c;rw[h8 (),uE];show M
 ·intro i hi;change R (if i < n then f i else g (i - n)) (if i+1 < n then f (i+1) else g (i+1 - n))
  by_cases e:i < n
  ·rw[h9 e]
   by_cases J:i+1 < n
   ·rw[h9 J];show D i e
   ·rw[h8 J];have j:i+1 - n=0:=by lia
    have Q:i+1=n:=by lia
    rw[j,k0,←B,←Q];show D i e
  ·rw[h8 e,h8 ()];have j:i+1 - n=(i - n)+1:=by lia
   rw[j];show N _ ()
def B7.one(h:R a b):B7 R a b:=(1,λi=>if i=0 then a else b,Lr,rfl,rfl,λi hi=>by
 have e:i=0:=by lia
 subst e;show h)
def B7.trans(h:B7 R a b)(k:B7 R b c):B7 R a c:=by
 let(n,f,B,j):=h;let(m,g,D,z):=k;show(n+m,_,(),j.glue z)
def B7.tail(h:B7 R a b)(k:R b c):B7 R a c:=h.trans (.one k)
def B7.QN{s:Nat->A}(h:∀i,R (s i) (s (i+1)))(e:i < j):B7 R (s i) (s j):=
 (j - i,λk=>s (i+k),(),rfl,by change s (i+(j - i))=s j;rw[dM (iI e)],λk _=>h (i+k))
def B7.XG{C:A->Prop}(h1:∀b,R a b->C b)(h2:∀b c,C b->R b c->C c)(h:B7 R a b):C b:=by
 let(n,f,g,j,fn,fs):=h
 have key:∀i,i < n->C (f (i+1)):=by
  intro i
  induction i with
  |zero=>intro hi;show h1 _ (j ▸ fs 0 hi)
  |succ i z=>intro hi;show h2 _ _ (z ()) (fs (i+1) hi)
 have:=key (n - 1) ();rw[zp g,fn] at this;show this
def Rv(P:T->A->Prop):∀(ts:List T),B7 R y y->(∀t∈ts,∃z,B7 R y z/\P t z/\B7 R z y)->∃n f,0 < n/\Walk R y y n f/\∀t∈ts,∃i,i < n/\P t (f i)
 |[],g,_=>by
  let(n,f,D,j):=g;show(n,f,D,j,λt h=>nomatch h)
 |t ::ts,g,h=>by
  let(n,f,D,j,M):=Rv P ts g (λt' m=>h t' (aZ _ m));let(z,(n1,N,Z,O),Q,(n2,U,p2,J)):=h t bg;show(_,_,?_,j.glue (O.glue J),?_)
  ·lia
  ·intro t' B;rcases bo.mp B with rfl|m
   ·show(n+n1,(),?_);change P t' (if n+n1 < n then f (n+n1) else(if n+n1 - n < n1 then N (n+n1 - n) else U (n+n1 - n - n1)));rw[h8 (),h8 ()];have e:n+n1 - n - n1=0:=by lia
    rw[e,J.1];show Q
   ·let(i,hi,Y):=M t' m;show(i,(),?_);change P t' (if i < n then f i else _);rw[h9 hi];show Y
def JY{P:T->A->Prop}{ts:List T}(j:0 < n)(w:Walk R y y n f)(h:∀t∈ts,∃i,i < n/\P t (f i)):
  ∃s:Nat->A,s 0=y/\(∀i,R (s i) (s (i+1)))/\∀t∈ts,∀N,∃i,N<=i/\P t (s i):=by
 show(λi=>f (i % n),?_,?_,?_)
 ·change f (0 % n)=y;rw[Nat.zero_mod];show w.1
 ·intro i;change R (f (i % n)) (f ((i+1) % n));have z:=qm i j
  by_cases e:i % n+1 < n
  ·have g:(i+1) % n=i % n+1:=by rw[Nat.add_mod];rcases kK 1 n with q|q;rw[iP q,iP e];lia
   rw[g];show w.2.2 _ z
  ·have B:i % n+1=n:=by lia
   have g:(i+1) % n=0:=by
    have:=Dt i n;have:i+1=n*(i / n)+n:=by lia
    rw[this,←Ro];show JN _ _
   rw[g];have:=w.2.2 _ z;rw[B,w.2.1] at this;rw[w.1];show this
 ·intro t D N;let(i,hi,J):=h t D;show(n*N+i,?_,?_)
  ·show cJ (C5 N j) (ic _ _)
  ·change P t (f ((n*N+i) % n));rw[sU,iP hi];show J
def Na{P:T->A->Prop}{ts:List T}(hx:y=x\/B7 R x y)(O:B7 R y y)(h:∀t∈ts,∃z,B7 R y z/\P t z/\B7 R z y):
  ∃s:Nat->A,s 0=x/\(∀i,R (s i) (s (i+1)))/\∀t∈ts,∀N,∃i,N<=i/\P t (s i):=by
 let(n,f,Q,w,U):=Rv P ts O h;let(s,B,D,J):=JY Q w U;rcases hx with rfl|⟨m,g,Y,Z,gm,gs⟩
 ·show(s,B,D,J)
 ·show(λi=>if i < m then g i else s (i - m),?_,?_,?_)
  ·change(if 0 < m then g 0 else _)=x;rw[h9 Y];show Z
  ·intro i;change R (if i < m then g i else s (i - m)) (if i+1 < m then g (i+1) else s (i+1 - m))
   by_cases e:i < m
   ·rw[h9 e]
    by_cases M:i+1 < m
    ·rw[h9 M];show gs i e
    ·rw[h8 M];have j:i+1 - m=0:=by lia
     have e4:i+1=m:=by lia
     rw[j,B,←gm,←e4];show gs i e
   ·rw[h8 e,h8 ()];have j:i+1 - m=(i - m)+1:=by lia
    rw[j];show D _
  ·intro t ht N;let(i,hi,hp):=J t ht N;show(m+i,(),?_);change P t (if m+i < m then _ else s (m+i - m));rw[h8 (),uE];show hp
def Df{s:Nat->A}:∀(all:List A),(∃M,∀i,M<=i->s i∈all)->∃y∈all,∀N,∃i,N<=i/\s i=y
 |[],(M,h)=>nomatch h M (aT _)
 |a ::all,(M,h)=>by
  by_cases q:∀N,∃i,N<=i/\s i=a
  ·show(a,bg,q)
  ·have(N,g):=qp.mp q
   obtain⟨y,j,z⟩:=Df (s:=s) all ⟨max M N,λi hi=>by
    rcases bo.mp (h i ()) with e|e
    ·show absurd (i,(),e) g
    ·show e⟩
   show(y,aZ _ j,z)
def Kz{P:T->A->Prop}{ts:List T}{all:List A}{s:Nat->A}(D:∀i,s i∈all)(g:∀i,R (s i) (s (i+1)))(J:∀t∈ts,∀N,∃i,N<=i/\P t (s i)):
  ∃y∈all,(y=s 0\/B7 R (s 0) y)/\B7 R y y/\∀t∈ts,∃z,B7 R y z/\P t z/\B7 R z y:=by
 let(y,M,hi):=Df (s:=s) all (0,λi _=>D i);show(y,M,?_,?_,?_)
 ·let(i,_,e):=hi 0;rcases zq i with rfl|p
  ·show .inl e.symm
  ·show .inr (e ▸ B7.QN g p)
 ·let(i,_,e):=hi 0;let(j,O,B):=hi (i+1);have:=B7.QN g (show i < j by lia);rw[e,B] at this;show this
 ·intro t Q;let(i,_,e):=hi 0;let(k,Y,U):=J t Q (i+1);let(j,O,B):=hi (k+1);have a:=B7.QN g (show i < k by lia);have b:=B7.QN g (show k < j by lia);rw[e] at a;rw[B] at b;show(s k,a,U,b)
end
end Pt
namespace Pt
open Sg30
abbrev HL(a b:Nat->Prop)(i:Nat):Prop:=∃j,i<=j/\b j/\∀k,i<=k->k < j->a k
abbrev TJ(a:Nat->Prop)(i:Nat):Prop:=∃j,i<=j/\a j
abbrev Glob(a:Nat->Prop)(i:Nat):Prop:=∀j,i<=j->a j
abbrev N4(a b:Nat->Prop)(i:Nat):Prop:=HL a b i\/Glob a i
abbrev Rel(a b:Nat->Prop)(i:Nat):Prop:=HL b (λj=>a j/\b j) i\/Glob b i
def Fu:HL a b i↔b i\/(a i/\HL a b (i+1)):=by
 constructor
 ·rintro⟨j,B,g,z⟩;rcases ua B with rfl|h
  ·show .inl g
  ·show .inr (z i (aT _) h,j,h,g,λk h1 h2=>z k () h2)
 ·rintro(h|⟨h,j,B,g,z⟩)
  ·show(i,aT _,h,λk h1 h2=>absurd h2 ())
  ·show(j,(),g,λk h1 h2=>?_);rcases ua h1 with rfl|q
   ·show h
   ·show z k q h2
def Xi:TJ a i↔a i\/TJ a (i+1):=by
 constructor
 ·rintro⟨j,g,h⟩;rcases ua g with rfl|q
  ·show .inl h
  ·show .inr (j,q,h)
 ·rintro(h|⟨j,g,h⟩)
  ·show(i,aT _,h)
  ·show(j,(),h)
def OO:Glob a i↔a i/\Glob a (i+1):=by
 constructor
 ·intro h;show(h i (aT _),λj g=>h j ())
 ·rintro⟨h,k⟩ j g;rcases ua g with rfl|q
  ·show h
  ·show k j q
def FG{a b:Nat->Prop}{i:Nat}:N4 a b i↔b i\/(a i/\N4 a b (i+1)):=by
 unfold N4;rw[Fu,OO];constructor
 ·rintro((h|⟨h,k⟩)|⟨h,k⟩)
  ·show .inl h
  ·show .inr (h,.inl k)
  ·show .inr (h,.inr k)
 ·rintro(h|⟨h,k|k⟩)
  ·show .inl (.inl h)
  ·show .inl (.inr (h,k))
  ·show .inr (h,k)
def YH:Rel a b i↔b i/\(a i\/Rel a b (i+1)):=by
 have:=@FG b (λj=>a j/\b j) i;change N4 b (λj=>a j/\b j) i↔b i/\(a i\/N4 b (λj=>a j/\b j) (i+1));rw[this];constructor
 ·rintro(⟨h,k⟩|⟨h,k⟩)
  ·show(k,.inl h)
  ·show(h,.inr k)
 ·rintro⟨h,k|k⟩
  ·show .inl (k,h)
  ·show .inr (h,k)
def P4{a b n:Nat->Prop}(st:∀i,n i↔b i\/(a i/\n (i+1)))(yI:∀N,∃i,N<=i/\(¬n i\/b i))(i:Nat):n i↔HL a b i:=by
 constructor
 ·intro h;let(j,B,M):=yI i
  have key:∀m,(∀k,i<=k->k < i+m->a k)/\n (i+m)\/HL a b i:=by
   intro m
   induction m with
   |zero=>show .inl (λk h1 h2=>absurd h2 (),h)
   |succ m D=>
    rcases D with⟨g,z⟩|t
    ·rcases(st _).mp z with J|⟨h1,h2⟩
     ·show .inr (i+m,(),J,g)
     ·show .inl (λk O Q=>?_,h2);rcases kK k (i+m) with q|q
      ·show g k O q
      ·have e:k=i+m:=by lia
       rw[e];show h1
    ·show .inr t
  rcases key (j - i) with⟨g,z⟩|t
  ·rw[dM B] at g z;rcases M with q|q
   ·show absurd z q
   ·show(j,B,q,g)
  ·show t
 ·rintro⟨j,B,J,g⟩
  have key:∀m,m<=j - i->n (j - m):=by
   intro m
   induction m with
   |zero=>intro _;show(st _).mpr (.inl J)
   |succ m D=>
    intro U;have:=D ();show(st _).mpr (.inr (g _ () (),?_));have e:j - (m+1)+1=j - m:=by lia
    rw[e];show this
  have:=key (j - i) (aT _);have e:j - (j - i)=i:=by lia
  rw[e] at this;show this
def L3{a b n:Nat->Prop}(st:∀i,n i↔b i\/(a i/\n (i+1)))(yI:∀N,∃i,N<=i/\(n i\/¬a i))(i:Nat):n i↔N4 a b i:=by
 constructor
 ·intro h
  by_cases t:HL a b i
  ·show .inl t
  ·right
   have key:∀m,(∀k,i<=k->k < i+m->a k)/\n (i+m):=by
    intro m
    induction m with
    |zero=>show(λk h1 h2=>absurd h2 (),h)
    |succ m D=>
     let(B,J):=D;rcases(st _).mp J with M|⟨h1,h2⟩
     ·show absurd (i+m,(),M,B) t
     ·show(λk O U=>?_,h2);rcases kK k (i+m) with q|q
      ·show B k O q
      ·have e:k=i+m:=by lia
       rw[e];show h1
   intro j z;show(key (j+1 - i)).1 j z ()
 ·intro h
  have back:∀j,i<=j->n j->(∀k,i<=k->k < j->a k)->n i:=by
   intro j z J B
   have key:∀m,m<=j - i->n (j - m):=by
    intro m
    induction m with
    |zero=>intro _;show J
    |succ m D=>
     intro Y;have:=D ();show(st _).mpr (.inr (B _ () (),?_));have e:j - (m+1)+1=j - m:=by lia
     rw[e];show this
   have:=key (j - i) (aT _);have e:j - (j - i)=i:=by lia
   rw[e] at this;show this
  rcases h with⟨j,z,M,B⟩|g
  ·show back j z ((st j).mpr (.inl M)) B
  ·let(j,z,Q):=yI i;rcases Q with q|q
   ·show back j z q (λk h1 _=>g k h1)
   ·show absurd (g j z) q
def OF:TJ a i↔HL (λ_=>True) a i:=(λ(j,h,k)=>(j,h,k,λ_ _ _=>trivial),λ(j,h,k,_)=>(j,h,k))
def Wl:Glob a i↔N4 a (λ_=>False) i:=⟨λh=> .inr h,λh=>by
 rcases h with⟨_,_,h,_⟩|h
 ·show h.elim
 ·show h⟩
abbrev Q6(which:Nat)(a b:Nat->Prop)(i:Nat):Prop:=
 if which=0 then a (i+1) else if which=1 then HL a b i else if which=2 then TJ a i else if which=3 then Glob a i else if which=4 then N4 a b i else Rel a b i
abbrev Vd(which:Nat)(a b n:Nat->Prop):Prop:=∀i,
 if which=0 then(n i↔a (i+1)) else if which=1\/which=4 then(n i↔b i\/(a i/\n (i+1))) else if which=2 then(n i↔a i\/n (i+1)) else if which=3 then(n i↔a i/\n (i+1)) else(n i↔b i/\(a i\/n (i+1)))
abbrev Ik(which:Nat)(a b n:Nat->Prop)(i:Nat):Prop:=
 if which=0 then True else if which=1 then ¬n i\/b i else if which=2 then ¬n i\/a i else if which=3\/which=4 then n i\/¬a i else n i\/¬b i
def aam(st:Vd which a b n)(yI:∀N,∃i,N<=i/\Ik which a b n i)(i:Nat):n i↔Q6 which a b i:=by
 unfold Vd at st;unfold Ik at yI;unfold Q6
 by_cases h0:which=0
 ·simp only[h0,if_true] at st ⊢;show st i
 by_cases h1:which=1
 ·subst h1;show P4 (λi=>by simpa using st i) (λN=>by simpa using yI N) i
 by_cases h2:which=2
 ·subst h2;simp only[Nat.reduceEqDiff,if_false,if_true,or_self] at st yI ⊢;rw[OF];show P4 (a:=λ_=>True) (λi=>by rw[true_and];show st i) yI i
 by_cases g:which=3
 ·subst g;simp only[Nat.reduceEqDiff,if_false,if_true,or_self,true_or] at st yI ⊢;rw[Wl];show L3 (b:=λ_=>False) (λi=>by rw[false_or];show st i) yI i
 by_cases z:which=4
 ·subst z;simp only[Nat.reduceEqDiff,if_false,if_true,or_true] at st yI ⊢;show L3 st yI i
 ·simp only[h0,h1,h2,g,z,if_false,or_self] at st yI ⊢
  show L3 (a:=b) (b:=λj=>a j/\b j) (λi=>by
   rw[st i];constructor
   ·rintro⟨h,k|k⟩
    ·show .inl (k,h)
    ·show .inr (h,k)
   ·rintro(⟨h,k⟩|⟨h,k⟩)
    ·show(k,.inl h)
    ·show(h,.inr k)) yI i
def UU(which:Nat)(a b:Nat->Prop):Vd which a b (Q6 which a b):=by
 intro i;unfold Q6
 by_cases h0:which=0
 ·simp only[h0,if_true]
 by_cases h1:which=1
 ·subst h1;simpa using Fu
 by_cases h2:which=2
 ·subst h2;simpa using Xi
 by_cases g:which=3
 ·subst g;simpa using OO
 by_cases j:which=4
 ·subst j;simpa using FG
 ·simp only[h0,h1,h2,g,j,if_false,or_self];show YH
def WL(which:Nat)(a b:Nat->Prop)(N:Nat):∃i,N<=i/\Ik which a b (Q6 which a b) i:=by
 unfold Ik Q6
 by_cases h0:which=0
 ·show(N,aT _,by simp only[h0,if_true])
 by_cases h1:which=1
 ·subst h1;simp only[Nat.reduceEqDiff,if_false,if_true]
  by_cases t:HL a b N
  ·let(j,g,B,_):=t;show(j,g,.inr B)
  ·show(N,aT _,.inl t)
 by_cases h2:which=2
 ·subst h2;simp only[Nat.reduceEqDiff,if_false,if_true]
  by_cases t:TJ a N
  ·let(j,g,B):=t;show(j,g,.inr B)
  ·show(N,aT _,.inl t)
 by_cases D:which=3
 ·subst D;simp only[Nat.reduceEqDiff,if_false,if_true,true_or]
  by_cases t:Glob a N
  ·show(N,aT _,.inl t)
  ·have(j,g):=qp.mp t;show(j,bR λq=>g λz=>absurd z q,.inr λz=>g λ_=>z)
 by_cases J:which=4
 ·subst J;simp only[Nat.reduceEqDiff,if_false,if_true,or_true]
  by_cases t:Glob a N
  ·show(N,aT _,.inl (.inr t))
  ·have(j,g):=qp.mp t;show(j,bR λq=>g λz=>absurd z q,.inr λz=>g λ_=>z)
 ·simp only[h0,h1,h2,D,J,if_false,or_self]
  by_cases t:Glob b N
  ·show(N,aT _,.inl (.inr t))
  ·have(j,g):=qp.mp t;show(j,bR λq=>g λz=>absurd z q,.inr λz=>g λ_=>z)
abbrev formOf(which:Nat)(f g:Form):Form:=
 if which=0 then .next f else if which=1 then .till f g else if which=2 then .ever f else if which=3 then .globally f else if which=4 then .weak f g else .release f g
def Iw(w:Nat->Nat)(which:Nat)(f g:Form)(i:Nat):holds w (formOf which f g) i↔Q6 which (holds w f) (holds w g) i:=by
 unfold formOf Q6
 by_cases h0:which=0
 ·simp only[h0,if_true,holds]
 by_cases h1:which=1
 ·subst h1;simp only[Nat.reduceEqDiff,if_false,if_true,holds,HL]
 by_cases h2:which=2
 ·subst h2;simp only[Nat.reduceEqDiff,if_false,if_true,holds,TJ]
 by_cases j:which=3
 ·subst j;simp only[Nat.reduceEqDiff,if_false,if_true,holds,Glob]
 by_cases z:which=4
 ·subst z;simp only[Nat.reduceEqDiff,if_false,if_true,holds,N4,HL,Glob]
 ·simp only[h0,h1,h2,j,z,if_false,holds,Rel,HL,Glob]
def e9(p:Nat):∀(f:Form) (c:List Bool),(value p f c).2=c.drop f.timely
 | .yes,c=>by simp[value,Form.timely]
 | .no,c=>by simp[value,Form.timely]
 | .prop _,c=>by simp[value,Form.timely]
 | .not f,c=>by simp[value,Form.timely,e9 p f]
 | .and f g,c=>by simp[value,Form.timely,e9 p f,e9 p g]
 | .or f g,c=>by simp[value,Form.timely,e9 p f,e9 p g]
 | .implies f g,c=>by simp[value,Form.timely,e9 p f,e9 p g]
 | .same f g,c=>by simp[value,Form.timely,e9 p f,e9 p g]
 | .next f,c=>by simp[value,Form.timely,e9 p f]
 | .ever f,c=>by simp[value,Form.timely,e9 p f]
 | .globally f,c=>by simp[value,Form.timely,e9 p f]
 | .till f g,c=>by simp[value,Form.timely,e9 p f,e9 p g,cu]
 | .weak f g,c=>by simp[value,Form.timely,e9 p f,e9 p g,cu]
 | .release f g,c=>by simp[value,Form.timely,e9 p f,e9 p g,cu]
def b7:∀(f:Form) (k:Nat),↑(timelies f k)=f.timely
 | .yes,k=>rfl
 | .no,k=>rfl
 | .prop _,k=>rfl
 | .not f,k=>b7 f k
 | .and f g,k=>by simp[timelies,Form.timely,b7 f,b7 g]
 | .or f g,k=>by simp[timelies,Form.timely,b7 f,b7 g]
 | .implies f g,k=>by simp[timelies,Form.timely,b7 f,b7 g]
 | .same f g,k=>by simp[timelies,Form.timely,b7 f,b7 g]
 | .next f,k=>by simp[timelies,Form.timely,b7 f]
 | .ever f,k=>by simp[timelies,Form.timely,b7 f]
 | .globally f,k=>by simp[timelies,Form.timely,b7 f]
 | .till f g,k=>by simp[timelies,Form.timely,b7 f,b7 g,cu]
 | .weak f g,k=>by simp[timelies,Form.timely,b7 f,b7 g,cu]
 | .release f g,k=>by simp[timelies,Form.timely,b7 f,b7 g,cu]
def tG{l:List Bool}:(l.drop n).headD false=l.getD n false:=by
 rw[List.headD_eq_head?_getD,List.head?_drop,ba]
abbrev Slice(l:List Timely)(k:Nat)(g:List Timely):Prop:=∀j t,g[j]? =some t->l[k+j]? =some t
def Slice.left(h:Slice l k (a++b)):Slice l k a:=λj t e=>
 h j t (by rw[eU (aX.mp e).1];show e)
def Slice.right(h:Slice l k (a++b))(g:↑a=n):Slice l (k+n) b:=λj t e=>by
 have:=h (n+j) t (by rw[cX ()];rw[show n+j - ↑a=j by lia];show e);rw[cu];show this
def Slice.one(h:Slice l k [t]):l[k]? =some t:=h 0 t rfl
section
variable{w:Nat->Nat}{c:Nat->List Bool}{l:List Timely}
abbrev lft(w:Nat->Nat)(c:Nat->List Bool)(t:Timely)(i:Nat):Prop:=(value (w i) t.left ((c i).drop t.leftAt)).1=true
abbrev rgt(w:Nat->Nat)(c:Nat->List Bool)(t:Timely)(i:Nat):Prop:=(value (w i) t.right ((c i).drop t.rightAt)).1=true
abbrev nw(c:Nat->List Bool)(n:Nat)(i:Nat):Prop:=(c i).getD n false=true
structure Run(w:Nat->Nat)(c:Nat->List Bool)(l:List Timely):Prop where
 st:∀n t,l[n]? =some t->Vd t.which (lft w c t) (rgt w c t) (nw c n)
 yI:∀n t,l[n]? =some t->∀N,∃i,N<=i/\Ik t.which (lft w c t) (rgt w c t) (nw c n) i
def Run.timely(r:Run w c l)(h:l[n]? =some (which,f,g,k,m))(z:∀i,(value (w i) f ((c i).drop k)).1=true↔holds w f i)(B:∀i,(value (w i) g ((c i).drop m)).1=true↔holds w g i)(i:Nat):
  (c i).getD n false=true↔holds w (formOf which f g) i:=by
 have a:=aam (r.st n _ h) (r.yI n _ h) i;have D:lft w c (which,f,g,k,m)=holds w f:=funext λj=>propext (z j);have J:rgt w c (which,f,g,k,m)=holds w g:=funext λj=>propext (B j);rw[D,J] at a;rw[Iw];show a
def Run.value(r:Run w c l):∀(f:Form) (k:Nat),Slice l k (timelies f k)->∀i,(dm (w i) f ((c i).drop k)).1=true↔holds w f i
 | .yes,k,_,i=>by simp[dm,holds]
 | .no,k,_,i=>by simp[dm,holds]
 | .prop _,k,_,i=>by simp[dm,holds]
 | .not f,k,s,i=>by
  have:=r.value f k s i;simp only[dm,holds,←this];simp
 | .and f g,k,s,i=>by
  have a:=r.value f k s.left i;have b:=r.value g _ (s.right (b7 f k)) i;simp only[dm,holds,e9,iF,bf,a,b]
 | .or f g,k,s,i=>by
  have a:=r.value f k s.left i;have b:=r.value g _ (s.right (b7 f k)) i;simp only[dm,holds,e9,iF,bw,a,b]
 | .implies f g,k,s,i=>by
  have a:=r.value f k s.left i;have b:=r.value g _ (s.right (b7 f k)) i;simp only[dm,holds,e9,iF,←a,←b]
  cases(dm (w i) f ((c i).drop k)).1 <;> simp
 | .same f g,k,s,i=>by
  have a:=r.value f k s.left i;have b:=r.value g _ (s.right (b7 f k)) i;simp only[dm,holds,e9,iF,←a,←b]
  cases(dm (w i) f ((c i).drop k)).1 <;> cases(dm (w i) g ((c i).drop (k+f.timely))).1 <;> simp
 | .next f,k,s,i=>by
  have a:=r.value f k s.left;have b:=r.timely (s.right (b7 f k)).one a a i;simp only[dm,e9,iF,tG];show b
 | .ever f,k,s,i=>by
  have a:=r.value f k s.left;have b:=r.timely (s.right (b7 f k)).one a a i;simp only[dm,e9,iF,tG];show b
 | .globally f,k,s,i=>by
  have a:=r.value f k s.left;have b:=r.timely (s.right (b7 f k)).one a a i;simp only[dm,e9,iF,tG];show b
 | .till f g,k,s,i=>by
  have a:=r.value f k s.left;have j:=s.right (b7 f k);have a2:=r.value g _ j.left;have b:=r.timely (j.right (b7 g _)).one a a2 i;simp only[dm,e9,iF,tG];show b
 | .weak f g,k,s,i=>by
  have a:=r.value f k s.left;have j:=s.right (b7 f k);have a2:=r.value g _ j.left;have b:=r.timely (j.right (b7 g _)).one a a2 i;simp only[dm,e9,iF,tG];show b
 | .release f g,k,s,i=>by
  have a:=r.value f k s.left;have j:=s.right (b7 f k);have a2:=r.value g _ j.left;have b:=r.timely (j.right (b7 g _)).one a a2 i;simp only[dm,e9,iF,tG];show b
end
abbrev dc(p:Prop):Bool:=@decide p (BQ p)
def gi:dc p=true↔p:=by
 unfold dc;show @decide_eq_true_iff p (BQ p)
def Bs(h:b=true↔p):b=dc p:=by
 have:=h.trans gi.symm
 cases b <;> cases e:dc p <;> simp_all
def jP(p:Prop):(p/\dc p=true)\/(¬p/\dc p=false):=by
 by_cases h:p
 ·show .inl (h,gi.mpr h)
 ·show .inr (h,by cases e:dc p;rfl;show absurd (gi.mp e) h)
abbrev co(w:Nat->Nat):Form->Nat->List Bool
 | .yes,_=>[]
 | .no,_=>[]
 | .prop _,_=>[]
 | .not f,i=>co w f i
 | .and f g,i=>co w f i++co w g i
 | .or f g,i=>co w f i++co w g i
 | .implies f g,i=>co w f i++co w g i
 | .same f g,i=>co w f i++co w g i
 | .next f,i=>co w f i++[dc (holds w (.next f) i)]
 | .ever f,i=>co w f i++[dc (holds w (.ever f) i)]
 | .globally f,i=>co w f i++[dc (holds w (.globally f) i)]
 | .till f g,i=>co w f i++(co w g i++[dc (holds w (.till f g) i)])
 | .weak f g,i=>co w f i++(co w g i++[dc (holds w (.weak f g) i)])
 | .release f g,i=>co w f i++(co w g i++[dc (holds w (.release f g) i)])
def m5(w:Nat->Nat):∀(f:Form) (i:Nat),↑(co w f i)=f.timely
 | .yes,i=>rfl
 | .no,i=>rfl
 | .prop _,i=>rfl
 | .not f,i=>m5 w f i
 | .and f g,i=>by simp[co,Form.timely,m5 w f,m5 w g]
 | .or f g,i=>by simp[co,Form.timely,m5 w f,m5 w g]
 | .implies f g,i=>by simp[co,Form.timely,m5 w f,m5 w g]
 | .same f g,i=>by simp[co,Form.timely,m5 w f,m5 w g]
 | .next f,i=>by simp[co,Form.timely,m5 w f]
 | .ever f,i=>by simp[co,Form.timely,m5 w f]
 | .globally f,i=>by simp[co,Form.timely,m5 w f]
 | .till f g,i=>by simp[co,Form.timely,m5 w f,m5 w g,cu]
 | .weak f g,i=>by simp[co,Form.timely,m5 w f,m5 w g,cu]
 | .release f g,i=>by simp[co,Form.timely,m5 w f,m5 w g,cu]
def iX(w:Nat->Nat):∀(f:Form) (i:Nat) (r:List Bool),dm (w i) f (co w f i++r)=(dc (holds w f i),r,)
 | .yes,i,r=>w6 (Bs (by simp[dm,co,holds])) rfl
 | .no,i,r=>w6 (Bs (by simp[dm,co,holds])) rfl
 | .prop _,i,r=>w6 (Bs (by simp[dm,co,holds])) rfl
 | .not f,i,r=>by
  simp only[dm,co,iX w f];show w6 (Bs ?_) rfl;change(!dc (holds w f i))=true↔¬holds w f i;rcases jP (holds w f i) with⟨h,e⟩|⟨h,e⟩ <;> (rw[e];simp[h])
 | .and f g,i,r=>by
  simp only[dm,co,iX w f,iX w g,bO];show w6 (Bs ?_) rfl;change(dc (holds w f i) && dc (holds w g i))=true↔(holds w f i/\holds w g i);rcases jP (holds w f i) with⟨h,e⟩|⟨h,e⟩ <;> rcases jP (holds w g i) with⟨h2,j⟩|⟨h2,j⟩ <;> (rw[e,j];simp[h,h2])
 | .or f g,i,r=>by
  simp only[dm,co,iX w f,iX w g,bO];show w6 (Bs ?_) rfl;change(dc (holds w f i) || dc (holds w g i))=true↔(holds w f i\/holds w g i);rcases jP (holds w f i) with⟨h,e⟩|⟨h,e⟩ <;> rcases jP (holds w g i) with⟨h2,j⟩|⟨h2,j⟩ <;> (rw[e,j];simp[h,h2])
 | .implies f g,i,r=>by
  simp only[dm,co,iX w f,iX w g,bO];show w6 (Bs ?_) rfl;change(!dc (holds w f i) || dc (holds w g i))=true↔(holds w f i->holds w g i);rcases jP (holds w f i) with⟨h,e⟩|⟨h,e⟩ <;> rcases jP (holds w g i) with⟨h2,j⟩|⟨h2,j⟩ <;> (rw[e,j];simp[h,h2])
 | .same f g,i,r=>by
  simp only[dm,co,iX w f,iX w g,bO];show w6 (Bs ?_) rfl;change(dc (holds w f i)==dc (holds w g i))=true↔(holds w f i↔holds w g i);rcases jP (holds w f i) with⟨h,e⟩|⟨h,e⟩ <;> rcases jP (holds w g i) with⟨h2,j⟩|⟨h2,j⟩ <;> (rw[e,j];simp[h,h2])
 | .next f,i,r=>by simp only[dm,co,iX w f,bO];rfl
 | .ever f,i,r=>by simp only[dm,co,iX w f,bO];rfl
 | .globally f,i,r=>by simp only[dm,co,iX w f,bO];rfl
 | .till f g,i,r=>by simp only[dm,co,iX w f,iX w g,bO];rfl
 | .weak f g,i,r=>by simp only[dm,co,iX w f,iX w g,bO];rfl
 | .release f g,i,r=>by simp only[dm,co,iX w f,iX w g,bO];rfl
structure Reads(w:Nat->Nat)(C:Nat->List Bool)(n:Nat)(t:Timely):Prop where
 now:∀i,nw C n i↔holds w (formOf t.which t.left t.right) i
 left:∀i,lft w C t i↔holds w t.left i
 right:∀i,rgt w C t i↔holds w t.right i
def Mi{C:List Bool}(h:C.drop k=co w f i++r):C.drop (k+f.timely)=r:=by
 rw[←iF,h];show List.drop_left' (m5 w f i)
def QX{C:Nat->List Bool}{r:Nat->List Bool}(h:∀i,(C i).drop k=co w f i++r i)(i:Nat):(dm (w i) f ((C i).drop k)).1=true↔holds w f i:=by
 rw[h i,iX];show gi
def XF{C:List Bool}(h:C.drop n=b ::r):C.getD n false=b:=by
 rw[←tG,h];rfl
def Mb{a b:List α}{x:α}(h:(a++b)[j]? =some x):a[j]? =some x\/∃m,j=↑a+m/\b[m]? =some x:=by
 rcases kK j ↑a with q|q
 ·rw[eU q] at h;show .inl h
 ·rw[cX q] at h;show .inr (j - ↑a,(),h)
def Zy(h:([x]:List α)[m]? =some y):m=0/\x=y:=by
 match m,h with
 |0,h=>show(rfl,bQ h)
 |m+1,h=>cases h
section
variable{w:Nat->Nat}{C:Nat->List Bool}
def MS{r:Nat->List Bool}(B:∀(r:Nat->List Bool),(∀i,(C i).drop k=co w f i++r i)->∀j t,(timelies f k)[j]? =some t->Reads w C (k+j) t)
  (z:∀i,∃b:Bool,(b=true↔holds w (formOf which f f) i)/\(C i).drop k=co w f i++b ::r i)(j:Nat)(t:Timely)(h:(timelies f k++[(which,f,f,k,k)])[j]? =some t):Reads w C (k+j) t:=by
 have g:∀i,(C i).drop k=co w f i++(qz (z i) ::r i):=λi=>(jr (z i)).2;rcases Mb h with q|⟨m,e,q⟩
 ·show B _ g j t q
 ·let(rfl,rfl):=Zy q;have D:k+j=k+f.timely:=by rw[e,b7];rfl
  rw[D];show(λi=>?_,λi=>QX g i,λi=>QX g i);change(C i).getD (k+f.timely) false=true↔_;rw[XF (Mi (g i))];show(jr (z i)).1
def Kc{r:Nat->List Bool}(M:∀(r:Nat->List Bool),(∀i,(C i).drop k=co w f i++r i)->∀j t,(timelies f k)[j]? =some t->Reads w C (k+j) t)
  (N:∀(r:Nat->List Bool),(∀i,(C i).drop (k+f.timely)=co w g i++r i)->∀j t,(timelies g (k+f.timely))[j]? =some t->Reads w C (k+f.timely+j) t)
  (D:∀i,∃b:Bool,(b=true↔holds w (formOf which f g) i)/\(C i).drop k=co w f i++(co w g i++b ::r i))(j:Nat)(t:Timely)(h:(timelies f k++(timelies g (k+f.timely)++[(which,f,g,k,k+f.timely)]))[j]? =some t):Reads w C (k+j) t:=by
 have z:∀i,(C i).drop k=co w f i++(co w g i++(qz (D i) ::r i)):=λi=>(jr (D i)).2;have B:∀i,(C i).drop (k+f.timely)=co w g i++(qz (D i) ::r i):=λi=>Mi (z i);rcases Mb h with q|⟨m,e,q⟩
 ·show M _ z j t q
 ·rw[b7] at e;rcases Mb q with J|⟨U,O,J⟩
  ·have:=N _ B m t J;rw[e,←cu];show this
  ·let(rfl,rfl):=Zy J;have Q:k+j=k+f.timely+g.timely:=by rw[e,O,b7];lia
   rw[Q];show(λi=>?_,λi=>QX z i,λi=>QX B i);change(C i).getD (k+f.timely+g.timely) false=true↔_;rw[XF (Mi (B i))];show(jr (D i)).1
def FC{r:Nat->List Bool}(B:∀(r:Nat->List Bool),(∀i,(C i).drop k=co w f i++r i)->∀j t,(timelies f k)[j]? =some t->Reads w C (k+j) t)
  (D:∀(r:Nat->List Bool),(∀i,(C i).drop (k+f.timely)=co w g i++r i)->∀j t,(timelies g (k+f.timely))[j]? =some t->Reads w C (k+f.timely+j) t)
  (J:∀i,(C i).drop k=(co w f i++co w g i)++r i)(j:Nat)(t:Timely)(h:(timelies f k++timelies g (k+f.timely))[j]? =some t):Reads w C (k+j) t:=by
 have z:∀i,(C i).drop k=co w f i++(co w g i++r i):=λi=>by rw[J i,bO]
 rcases Mb h with q|⟨m,e,q⟩
 ·show B _ z j t q
 ·rw[b7] at e;have:=D _ (λi=>Mi (z i)) m t q;rw[e,←cu];show this
def iV:∀(f:Form) (k:Nat) (r:Nat->List Bool),(∀i,(C i).drop k=co w f i++r i)->∀j t,(timelies f k)[j]? =some t->Reads w C (k+j) t
 | .yes,k,r,z,j,t,h=>nomatch h
 | .no,k,r,z,j,t,h=>nomatch h
 | .prop _,k,r,z,j,t,h=>nomatch h
 | .not f,k,r,z,j,t,h=>iV f k r z j t h
 | .and f g,k,r,z,j,t,h=>FC (iV f k) (iV g _) z j t h
 | .or f g,k,r,z,j,t,h=>FC (iV f k) (iV g _) z j t h
 | .implies f g,k,r,z,j,t,h=>FC (iV f k) (iV g _) z j t h
 | .same f g,k,r,z,j,t,h=>FC (iV f k) (iV g _) z j t h
 | .next f,k,r,z,j,t,h=>MS (r:=r) (iV f k) (λi=>(_,gi,by rw[z i,co,bO];rfl)) j t h
 | .ever f,k,r,z,j,t,h=>MS (r:=r) (iV f k) (λi=>(_,gi,by rw[z i,co,bO];rfl)) j t h
 | .globally f,k,r,z,j,t,h=>MS (r:=r) (iV f k) (λi=>(_,gi,by rw[z i,co,bO];rfl)) j t h
 | .till f g,k,r,z,j,t,h=>Kc (r:=r) (iV f k) (iV g _) (λi=>(_,gi,by rw[z i,co,bO,bO];rfl)) j t h
 | .weak f g,k,r,z,j,t,h=>Kc (r:=r) (iV f k) (iV g _) (λi=>(_,gi,by rw[z i,co,bO,bO];rfl)) j t h
 | .release f g,k,r,z,j,t,h=>Kc (r:=r) (iV f k) (iV g _) (λi=>(_,gi,by rw[z i,co,bO,bO];rfl)) j t h
end
def aeD(w:Nat->Nat)(f:Form):Run w (co w f) (timelies f 0):=by
 have key:∀n t,(timelies f 0)[n]? =some t->Reads w (co w f) n t:=λn t h=>by
  have:=iV (w:=w) (C:=co w f) f 0 (λ_=>[]) (λi=>by rw[zk,fL]) n t h;rw[gF] at this;show this
 have conv:∀n t,(timelies f 0)[n]? =some t->nw (co w f) n=Q6 t.which (holds w t.left) (holds w t.right)/\lft w (co w f) t=holds w t.left/\rgt w (co w f) t=holds w t.right:=λn t h=>by
  have r:=key n t h;show(funext λi=>propext ((r.now i).trans (Iw w _ _ _ i)),funext λi=>propext (r.left i),funext λi=>propext (r.right i))
 show(λn t h=>?_,λn t h=>?_)
 ·let(a,b,c):=conv n t h;rw[a,b,c];show UU _ _ _
 ·let(a,b,c):=conv n t h;rw[a,b,c];show WL _ _ _
abbrev Xz(which:Nat)(a b g n n':Bool):Bool:=
 if which=0 then n==g else if which=1\/which=4 then n==(b || (a && n')) else if which=2 then n==(a || n') else if which=3 then n==(a && n') else n==(b && (a || n'))
abbrev agv(which:Nat)(a b n:Bool):Bool:=
 if which=0 then true else if which=1 then !n || b else if which=2 then !n || a else if which=3\/which=4 then n || !a else n || !b
def J9:leads S l x y=true↔S.arcs x.1 y.1=true/\∀n t,l[n]? =some t->Xz t.which (leftOf S x t) (rightOf S x t) (leftOf S y t) (x.2.getD n false) (y.2.getD n false)=true:=by
 unfold leads;rw[bf,d8];show and_congr qy (λh n t e=>?_,λh t m=>?_)
 ·show h (t,n,) (gK.mpr e)
 ·show h t.2 t.1 (gK.mp m)
def OP{a b n:Nat->Bool}:Xz which (a i) (b i) (a (i+1)) (n i) (n (i+1))=true↔
  if which=0 then(n i=true↔a (i+1)=true) else if which=1\/which=4 then(n i=true↔b i=true\/(a i=true/\n (i+1)=true)) else if which=2 then(n i=true↔a i=true\/n (i+1)=true) else if which=3 then(n i=true↔a i=true/\n (i+1)=true) else(n i=true↔b i=true/\(a i=true\/n (i+1)=true)):=by
 unfold Xz
 split
 ·cases n i <;> cases a (i+1) <;> simp
 split
 ·cases n i <;> cases a i <;> cases b i <;> cases n (i+1) <;> simp
 split
 ·cases n i <;> cases a i <;> cases n (i+1) <;> simp
 split
 ·cases n i <;> cases a i <;> cases n (i+1) <;> simp
 ·cases n i <;> cases a i <;> cases b i <;> cases n (i+1) <;> simp
def Sm:agv which a b n=true↔(if which=0 then True else if which=1 then ¬n=true\/b=true else if which=2 then ¬n=true\/a=true else if which=3\/which=4 then n=true\/¬a=true else n=true\/¬b=true):=by
 unfold agv
 split
 ·simp
 split
 ·cases n <;> simp
 split
 ·cases n <;> simp
 split
 ·cases n <;> simp
 ·cases n <;> simp
def Vf{s:Nat->Spot}:((∀i,leads S l (s i) (s (i+1))=true)/\∀t∈l.zipIdx,∀N,∃i,N<=i/\settled S (s i) t=true)↔
  ((∀i,S.arcs (s i).1 (s (i+1)).1=true)/\Run (λi=>S.props (s i).1) (λi=>(s i).2) l):=by
 constructor
 ·rintro⟨h,k⟩;show(λi=>(J9.mp (h i)).1,λn t e i=>?_,λn t e N=>?_)
  ·show(OP (a:=λi=>leftOf S (s i) t) (b:=λi=>rightOf S (s i) t) (n:=λi=>(s i).2.getD n false)).mp ((J9.mp (h i)).2 n t e)
  ·let(i,hi,q):=k (t,n,) (gK.mpr e) N;show(i,hi,Sm.mp q)
 ·rintro⟨h,r⟩;show(λi=>J9.mpr (h i,λn t e=>?_),λt m N=>?_)
  ·show(OP (a:=λi=>leftOf S (s i) t) (b:=λi=>rightOf S (s i) t) (n:=λi=>(s i).2.getD n false)).mpr (r.st n t e i)
  ·let(i,hi,q):=r.yI t.2 t.1 (gK.mp m) N;show(i,hi,Sm.mpr q)
def filter_le:∀{l:List α},(∀a∈l,p a=true->q a=true)->↑(l.filter p)<=↑(l.filter q)
 |[],_=>aT _
 |a ::l,h=>by
  have g:=filter_le (l:=l) λb m=>h b (aZ _ m);have j:=h a bg;rw[cP,cP]
  cases ep:p a <;> cases eq:q a
  ·simpa using g
  ·simp only[cQ,if_false,if_true,a_];lia
  ·rw[j ep] at eq;cases eq
  ·simpa using g
def filter_eq:∀{l:List α},(∀a∈l,p a=true->q a=true)->↑(l.filter q)=↑(l.filter p)->∀a∈l,q a=true->p a=true
 |[],_,_,a,m,_=>nomatch m
 |b ::l,h,e,a,m,j=>by
  have h':∀a∈l,p a=true->q a=true:=λc n=>h c (aZ _ n);have le:=filter_le h';have z:=h b bg;rw[cP,cP] at e;rcases bo.mp m with rfl|n
  ·cases ep:p a
   ·rw[j,ep] at e;simp only[cQ,if_false,if_true,a_] at e;lia
   ·rfl
  ·have B:↑(l.filter q)=↑(l.filter p):=by
     cases ep:p b <;> cases g:q b
     ·rw[ep,g] at e;simpa using e
     ·rw[ep,g] at e;simp only[cQ,if_false,if_true,a_] at e;lia
     ·rw[z ep] at g;cases g
     ·rw[ep,g] at e;simpa using e
   show filter_eq h' B a n j
def Sx{p:α->Bool}{l:List α}(h:↑l<=↑(l.filter p)):∀a∈l,p a=true:=λa m=>by
 have e:↑(l.filter λ_=>true)=↑(l.filter p):=by
  have h1:l.filter (λ_=>true)=l:=List.filter_eq_self.mpr λ_ _=>rfl;rw[h1];show Nat.le_antisymm h (eP _ _)
 show filter_eq (p:=p) (q:=λ_=>true) (λ_ _ _=>rfl) e a m rfl
section
variable{S:System_}{l:List Timely}{all:List Spot}
abbrev Go(S:System_)(l:List Timely)(all:List Spot)(x y:Spot):Prop:=y∈all/\leads S l x y=true
def IJ:∀(k:Nat) (p:Spot->Bool),↑all<=↑(all.filter p)+k->(∀y∈all,p y=true->y∈reach S l all k (all.filter p))/\∀a∈reach S l all k (all.filter p),∀b∈all,leads S l a b=true->b∈reach S l all k (all.filter p)
 |0,p,h=>by
  have full:=Sx (p:=p) (l:=all) ();unfold reach;show(λy m e=>c8.mpr (m,e),λa _ b m _=>c8.mpr (m,full b m))
 |k+1,p,h=>by
  unfold reach
  have sub:∀a∈all,p a=true->((all.filter p).contains a || (all.filter p).any λx=>leads S l x a)=true:=λa m e=>by
   have:a∈all.filter p:=c8.mpr (m,e);rw[gU.mpr this];rfl
  by_cases e:↑(all.filter λy=>(all.filter p).contains y || (all.filter p).any λx=>leads S l x y)=↑(all.filter p)
  ·rw[h9 e];show(λy m e=>c8.mpr (m,e),λa z b g B=>?_);show c8.mpr (g,filter_eq sub e b g ?_);rw[bw];show .inr (iO.mpr (a,z,B))
  ·rw[h8 e];have le:=filter_le sub;have j:=IJ k (λy=>(all.filter p).contains y || (all.filter p).any λx=>leads S l x y) ();show(λy m e=>j.1 y m (sub y m e),j.2)
def Lj{C:Spot->Prop}(g:∀a b,C a->Go S l all a b->C b):∀(k:Nat) (r:List Spot),(∀y∈r,y∈all/\C y)->∀y∈reach S l all k r,y∈all/\C y
 |0,r,h=>h
 |k+1,r,h=>by
  unfold reach
  by_cases e:↑(all.filter λy=>r.contains y || r.any λx=>leads S l x y)=↑r
  ·rw[h9 e];show h
  ·rw[h8 e];show Lj g k _ λy m=>?_;let(j,z):=c8.mp m;rw[bw] at z;rcases z with q|q
   ·show h y (gU.mp q)
   ·let(x,hx,B):=iO.mp q;show(j,g x y (h x hx).2 (j,B))
def uh:y∈after S l all x↔B7 (Go S l all) x y:=by
 unfold after;constructor
 ·intro h
  show(Lj (C:=λy=>B7 (Go S l all) x y) (λa b B g=>B.tail g) ↑all (all.filter (leads S l x)) (λy m=>by
   let(z,D):=c8.mp m;show(z,.one (z,D))) y h).2
 ·intro h;have cl:=IJ (S:=S) (l:=l) (all:=all) ↑all (leads S l x) ();show B7.XG (C:=λy=>y∈reach S l all ↑all (all.filter (leads S l x))) (λb j=>cl.1 b j.1 j.2) (λb c j g=>cl.2 b j c g.1 g.2) h
end
def zT:∀{k:Nat} {c:List Bool},c∈choices k↔↑c=k
 |0,c=>by
  unfold choices;rw[bz,j7]
 |k+1,c=>by
  unfold choices;rw[BN];constructor
  ·rintro⟨d,hd,h⟩;have:=zT.mp hd;simp only[bo,dD,or_false] at h;rcases h with rfl|rfl <;> simp[this]
  ·intro h
   match c,h with
   |b ::d,h=>
    show(d,zT.mpr (by simpa using h),?_)
    cases b <;> simp
def Pp:x∈spots S f↔x.1 < S.n/\↑x.2=f.timely:=by
 unfold spots;rw[BN];constructor
 ·rintro⟨s,g,h⟩;let(c,j,rfl):=fc.mp h;show(eY.mp g,zT.mp j)
 ·rintro⟨h,k⟩;show(x.1,eY.mpr h,fc.mpr (x.2,zT.mpr k,rfl))
def Lx:check S f=false↔∃x∈spots S f,S.starts x.1=true/\(value (S.props x.1) f x.2).1=false/\∃y∈spots S f,(y=x\/B7 (Go S (timelies f 0) (spots S f)) x y)/\B7 (Go S (timelies f 0) (spots S f)) y y/\
  ∀t∈(timelies f 0).zipIdx,∃z,B7 (Go S (timelies f 0) (spots S f)) y z/\settled S z t=true/\B7 (Go S (timelies f 0) (spots S f)) z y:=by
 unfold check;rw[List.all_eq_false];constructor
 ·rintro⟨x,hx,h⟩;show(x,hx,?_);rw[qC,gn,gn,t_,t_,iO] at h;let(h1,h2,y,g,B):=h;show(h1,h2,y,?_);let(D,j):=c8.mp (gU.mp B);rw[bf,gU,uh,d8] at j;show(D,?_,j.1,λt m=>?_)
  ·rcases bo.mp g with e|m
   ·show .inl e
   ·show .inr (uh.mp m)
  ·let(z,J,q):=iO.mp (j.2 t m);rw[bf,gU,uh] at q;show(z,uh.mp J,q.1,q.2)
 ·rintro⟨x,hx,h1,h2,y,g,M,N,O⟩;show(x,hx,?_);rw[qC,gn,gn,t_,t_,iO];show(h1,h2,y,?_,?_)
  ·rcases M with e|m
   ·rw[e];show bg
   ·show aZ _ (uh.mpr m)
  ·show gU.mpr (c8.mpr (g,?_));rw[bf,gU,uh,d8];show(N,λt m=>iO.mpr ?_);let(z,a,b,c):=O t m;show(z,uh.mpr a,?_);rw[bf,gU,uh];show(b,c)
def Eh(S:System_)(f:Form):check S f=false↔∃p,IsPath S p/\¬holds (row S p) f 0:=by
 rw[Lx];constructor
 ·rintro⟨x,hx,h1,h2,y,B,J,M,N⟩;let(s,g,D,O):=Na (P:=λt z=>settled S z t=true) J M N;have r:=Vf.mp (λi=>(D i).2,O)
  have mem:∀i,s i∈spots S f:=λi=>by
   cases i with
   |zero=>rw[g];show hx
   |succ i=>show(D i).1
  show(λi=>(s i).1,(by change S.starts (s 0).1=true;rw[g];show h1,λi=>(Pp.mp (mem i)).1,r.1),λh=>?_);have:=(r.2.value f 0 (λj t e=>by rw[gF];show e) 0).mpr h;simp only[zk] at this;rw[g,h2] at this
  cases this
 ·rintro⟨p,⟨Q,pn,U⟩,Y⟩;have r:Run (row S p) (co (row S p) f) (timelies f 0):=aeD _ _;have mem:∀i,(p i,co (row S p) f i,)∈spots S f:=λi=>Pp.mpr (pn i,m5 _ _ _);have q:=(Vf (S:=S) (l:=timelies f 0) (s:=λi=>(p i,co (row S p) f i,))).mpr (U,r);let(y,B,a,b,c):=Kz (R:=Go S (timelies f 0) (spots S f)) (P:=λt z=>settled S z t=true) mem (λi=>(mem (i+1),q.1 i)) q.2;show(_,mem 0,Q,?_,y,B,a,b,c)
  cases e:(value (S.props (p 0)) f (co (row S p) f 0)).1
  ·rfl
  ·have:=(r.value f 0 (λj t e=>by rw[gF];show e) 0).mp (by rw[zk];show e);show absurd this Y
def UD(S:System_)(f:Form):check S f=true↔∀p,IsPath S p->holds (row S p) f 0:=by
 constructor
 ·intro h p g;show bR λq=>?_;have:=(Eh S f).mpr (p,g,q);rw[h] at this;cases this
 ·intro h
  cases e:check S f
  ·let(p,g,q):=(Eh S f).mp e;show absurd (h p g) q
  ·rfl
abbrev pos(m u j:Nat):Nat:=if j < m then j else u+(j - u) % (m - u)
def mv(h:u < m):pos m u j < m:=by
 unfold pos
 split
 ·assumption
 ·have:=qm (j - u) (show 0 < m - u by lia);lia
def yP(h:j < m):pos m u j=j:=h9 h
def WY(h:u < m)(g:u<=j):pos m u (j+(m - u))=pos m u j:=by
 unfold pos;rw[h8 ()];have e:j+(m - u) - u=(j - u)+(m - u):=by lia
 rw[e,Nat.add_mod_right]
 split
 ·rw[iP ()];lia
 ·rfl
def B3(h:u < m):behind m u (pos m u j)=pos m u (j+1):=by
 unfold behind
 by_cases q:j+1 < m
 ·rw[yP (show j < m by lia),h9 q,yP q]
 ·by_cases z:j < m
  ·have e:j+1=m:=by lia
   rw[yP z,h8 q,e];unfold pos;rw[h8 (),JE,gW]
  ·unfold pos;rw[h8 z,h8 q];have J:=qm (j - u) (show 0 < m - u by lia);have B:j+1 - u=(j - u)+1:=by lia
   rw[B]
   by_cases M:(j - u) % (m - u)+1=m - u
   ·rw[h8 ()];have:=Dt (j - u) (m - u);have g:(j - u)+1=(m - u)*((j - u) / (m - u))+(m - u):=by lia
    rw[g,←Ro,JN,gW]
   ·rw[h9 ()]
    have g:((j - u)+1) % (m - u)=(j - u) % (m - u)+1:=by
     have:=Dt (j - u) (m - u);have D:(j - u)+1=(m - u)*((j - u) / (m - u))+((j - u) % (m - u)+1):=by lia
     rw[D,sU,iP ()]
    rw[g];lia
def Fw:round w u j=w.getD (pos ↑w u j) 0:=by
 unfold round pos
 split <;> rfl
def aag(h:u < m):pos m u (pos m u i+k)=pos m u (i+k):=by
 induction k with
 |zero=>show yP (mv h)
 |succ k g=>rw[←cu,←B3 h,g,B3 h];rfl
def eS:∀(f:Form) (i j:Nat),(∀k,w (i+k)=v (j+k))->(holds w f i↔holds v f j)
 | .yes,i,j,h=>qy
 | .no,i,j,h=>qy
 | .prop p,i,j,h=>by
  have:=h 0;simp only[gW] at this;simp only[holds,this]
 | .not f,i,j,h=>not_congr (eS f i j h)
 | .and f g,i,j,h=>and_congr (eS f i j h) (eS g i j h)
 | .or f g,i,j,h=>or_congr (eS f i j h) (eS g i j h)
 | .implies f g,i,j,h=>imp_congr (eS f i j h) (eS g i j h)
 | .same f g,i,j,h=>iff_congr (eS f i j h) (eS g i j h)
 | .next f,i,j,h=>eS f (i+1) (j+1) λk=>by rw[cu,cu];show h _
 | .till f g,i,j,h=>z (λk=>eS f (i+k) (j+k) λn=>by rw[cu,cu];show h _) (λk=>eS g (i+k) (j+k) λn=>by rw[cu,cu];show h _)
 | .ever f,i,j,h=>D (λk=>eS f (i+k) (j+k) λn=>by rw[cu,cu];show h _)
 | .globally f,i,j,h=>B (λk=>eS f (i+k) (j+k) λn=>by rw[cu,cu];show h _)
 | .weak f g,i,j,h=>or_congr (z (λk=>eS f (i+k) (j+k) λn=>by rw[cu,cu];show h _) (λk=>eS g (i+k) (j+k) λn=>by rw[cu,cu];show h _))
  (B (λk=>eS f (i+k) (j+k) λn=>by rw[cu,cu];show h _))
 | .release f g,i,j,h=>or_congr (z (λk=>eS g (i+k) (j+k) λn=>by rw[cu,cu];show h _) (λk=>and_congr (eS f (i+k) (j+k) λn=>by rw[cu,cu];show h _) (eS g (i+k) (j+k) λn=>by rw[cu,cu];show h _)))
  (B (λk=>eS g (i+k) (j+k) λn=>by rw[cu,cu];show h _))
where
 z {a b J Q:Nat->Prop} {i j:Nat} (M:∀k,a (i+k)↔J (j+k)) (U:∀k,b (i+k)↔Q (j+k)):(∃n,i<=n/\b n/\∀k,i<=k->k < n->a k)↔(∃n,j<=n/\Q n/\∀k,j<=k->k < n->J k):=by
  constructor
  ·rintro⟨n,h1,h2,N⟩;show(j+(n - i),(),(U _).mp (by rw[dM h1];show h2),λk O Y=>?_);have:=(M (k - j)).mp (N (i+(k - j)) () ());rw[dM O] at this;show this
  ·rintro⟨n,h1,h2,N⟩;show(i+(n - j),(),(U _).mpr (by rw[dM h1];show h2),λk O Y=>?_);have:=(M (k - i)).mpr (N (j+(k - i)) () ());rw[dM O] at this;show this
 D {a J:Nat->Prop} {i j:Nat} (M:∀k,a (i+k)↔J (j+k)):(∃n,i<=n/\a n)↔(∃n,j<=n/\J n):=by
  constructor
  ·rintro⟨n,h1,h2⟩;show(j+(n - i),(),(M _).mp (by rw[dM h1];show h2))
  ·rintro⟨n,h1,h2⟩;show(i+(n - j),(),(M _).mpr (by rw[dM h1];show h2))
 B {a J:Nat->Prop} {i j:Nat} (M:∀k,a (i+k)↔J (j+k)):(∀n,i<=n->a n)↔(∀n,j<=n->J n):=by
  constructor
  ·intro h n q;have:=(M (n - j)).mp (h _ ());rw[dM q] at this;show this
  ·intro h n q;have:=(M (n - i)).mpr (h _ ());rw[dM q] at this;show this
def Po(h:u < ↑w)(f:Form)(j:Nat):holds (round w u) f (pos ↑w u j)↔holds (round w u) f j:=
 eS f _ _ λk=>by rw[Fw,Fw,aag h]
def Nf(h:u < m){b:Nat->Prop}(z:∀j,b (pos m u j)↔b j)(B:b (i+n)):∃k,k < m/\k<=n/\b (i+k):=by
 induction n using lX with
 |ind n D=>
  by_cases q:n < m
  ·show(n,q,aT _,B)
  ·have e:i+n=(i+(n - (m - u)))+(m - u):=by lia
   have g:b (i+(n - (m - u))):=by
    rw[←z,←WY h (),←e,z];show B
   let(k,k1,M,J):=D (n - (m - u)) () g;show(k,k1,(),J)
section
variable{m u:Nat}{x:Bool}{a b:Nat->Bool}
abbrev zU(m u:Nat)(x:Bool)(g:Nat->Bool->Bool):Nat->List Bool
 |0=>bq m x
 |n+1=>(du m).map λi=>g i ((zU m u x g n).getD (behind m u i) x)
def Lm(f:α->α)(z:α):∀n,(du n).foldl (λa (_:Nat)=>f a) z=Wc (motive:=λ_=>α) z (λ_ a=>f a) n
 |0=>rfl
 |n+1=>by
  rw[LU,mi,Lm f z n];rfl
def Pk(g:Nat->Bool->Bool):settle m u x g=zU m u x g (m+1):=by
 unfold settle;rw[Lm (λl=>(du m).map λi=>g i (l.getD (behind m u i) x))];generalize m+1=n
 induction n with
 |zero=>rfl
 |succ n j=>unfold zU;rw[←j]
def EX(h:i < m):((du m).map f).getD i d=f i:=by
 rw[ba,dA,List.getElem?_range h];rfl
def RW(h:u < m)(n:Nat):∀j,(zU m u x (λi y=>b i || (a i && y)) n).getD (pos m u j) x=true↔
  (∃k,k < n/\b (pos m u (j+k))=true/\∀q,q < k->a (pos m u (j+q))=true)\/(x=true/\∀q,q < n->a (pos m u (j+q))=true):=by
 induction n with
 |zero=>
  intro j
  have e:(zU m u x (λi y=>b i || (a i && y)) 0).getD (pos m u j) x=x:=by
   unfold zU;rw[ba,dY,h9 (mv h)];rfl
  rw[e];constructor
  ·intro q;show .inr (q,λq z=>absurd z ())
  ·rintro(⟨k,z,_⟩|⟨q,_⟩)
   ·show absurd z ()
   ·show q
 |succ n J=>
  intro j;unfold zU;rw[EX (mv h),B3 h,bw,bf,J (j+1)];have M:∀k,j+1+k=j+(k+1):=λk=>by lia
  simp only[M];constructor
  ·rintro(q|⟨q,⟨k,k1,g,B⟩|⟨k1,g⟩⟩)
   ·show .inl (0,(),q,λq z=>absurd z ())
   ·show .inl (k+1,(),g,λr D=>?_)
    cases r with
    |zero=>show q
    |succ r=>show B r ()
   ·show .inr (k1,λr D=>?_)
    cases r with
    |zero=>show q
    |succ r=>show g r ()
  ·rintro(⟨k,k1,g,B⟩|⟨k1,g⟩)
   ·cases k with
     |zero=>show .inl g
     |succ k=>show .inr (B 0 (),.inl (k,(),g,λr D=>B (r+1) ()))
   ·show .inr (g 0 (),.inr (k1,λr D=>g (r+1) ()))
def yY(h:u < m)(j:Nat):(settle m u x (λi y=>b i || (a i && y))).getD (pos m u j) x=true↔
  HL (λk=>a (pos m u k)=true) (λk=>b (pos m u k)=true) j\/(x=true/\Glob (λk=>a (pos m u k)=true) j):=by
 rw[Pk,RW h];have D:∀j,pos m u (pos m u j)=pos m u j:=λj=>yP (mv h);show or_congr (?_,?_) (and_congr qy (?_,?_))
 ·rintro⟨k,_,J,B⟩;show(j+k,(),J,λq N O=>?_);have:=B (q - j) ();rw[dM N] at this;show this
 ·rintro⟨n,n1,n2,n3⟩;let(k,k1,J,B):=Nf h (b:=λk=>b (pos m u k)=true) (λj=>by change b (pos m u (pos m u j))=true↔_;rw[D]) (i:=j) (n:=n - j) (by rw[dM n1];show n2);show(k,(),B,λq M=>n3 _ () ())
 ·intro g q M;show bR λz=>?_;let(k,k1,_,B):=Nf h (b:=λk=>¬a (pos m u k)=true) (λj=>by change ¬a (pos m u (pos m u j))=true↔_;rw[D]) (i:=j) (n:=q - j) (by rw[dM M];show z);show B (g k ())
 ·intro g q _;show g _ ()
end
def kM(m u:Nat)(x:Bool)(g:Nat->Bool->Bool):↑(settle m u x g)=m:=by
 rw[Pk];simp[zU]
def eL(w:List Nat)(u:Nat):∀f:Form,↑(truths w u f)=↑w
 | .yes=>by simp[truths]
 | .no=>by simp[truths]
 | .prop _=>by simp[truths]
 | .not f=>by simp[truths,eL w u f]
 | .and f g=>by simp[truths,eL w u f,eL w u g]
 | .or f g=>by simp[truths,eL w u f,eL w u g]
 | .implies f g=>by simp[truths,eL w u f,eL w u g]
 | .same f g=>by simp[truths,eL w u f,eL w u g]
 | .next f=>by simp[truths]
 | .till f g=>by unfold truths;show kM _ _ _ _
 | .ever f=>by unfold truths;show kM _ _ _ _
 | .globally f=>by unfold truths;show kM _ _ _ _
 | .weak f g=>by unfold truths;show kM _ _ _ _
 | .release f g=>by unfold truths;show kM _ _ _ _
def PM{l:List Bool}(h:i < ↑l):l.getD i d=l.getD i d':=by
 rw[ba,ba,aS h];rfl
def FH{l:List α}{f:α->Bool}{z:α}(h:i < ↑l):(l.map f).getD i d=f (l.getD i z):=by
 rw[ba,ba,dA,aS h];rfl
def IA{a b:List Bool}(h:i < ↑a)(k:i < ↑b):((a.zip b).map f).getD i d=f (a.getD i false,b.getD i false,):=by
 rw[ba,ba,ba,dA,List.getElem?_zip_eq_some (z:=(a[i],b[i],)) |>.mpr (aS h,aS k),aS h,aS k];rfl
def gw(h:u < ↑w):∀(f:Form) (j:Nat),(truths w u f).getD (pos ↑w u j) false=true↔holds (round w u) f j
 | .yes,j=>by
  unfold truths;rw[FH (z:=0) (mv h)];simp[holds]
 | .no,j=>by
  unfold truths;rw[FH (z:=0) (mv h)];simp[holds]
 | .prop p,j=>by
  unfold truths;rw[FH (z:=0) (mv h)];simp only[holds,Fw]
 | .not f,j=>by
  have:=gw h f j;unfold truths;rw[FH (z:=false) (by rw[eL];show mv h)];simp only[holds,←this];cases(truths w u f).getD (pos ↑w u j) false <;> simp
 | .and f g,j=>by
  have a:=gw h f j;have b:=gw h g j;unfold truths;rw[IA (by rw[eL];show mv h) (by rw[eL];show mv h)];simp only[holds,←a,←b];cases(truths w u f).getD (pos ↑w u j) false <;> cases(truths w u g).getD (pos ↑w u j) false <;> simp
 | .or f g,j=>by
  have a:=gw h f j;have b:=gw h g j;unfold truths;rw[IA (by rw[eL];show mv h) (by rw[eL];show mv h)];simp only[holds,←a,←b];cases(truths w u f).getD (pos ↑w u j) false <;> cases(truths w u g).getD (pos ↑w u j) false <;> simp
 | .implies f g,j=>by
  have a:=gw h f j;have b:=gw h g j;unfold truths;rw[IA (by rw[eL];show mv h) (by rw[eL];show mv h)];simp only[holds,←a,←b];cases(truths w u f).getD (pos ↑w u j) false <;> cases(truths w u g).getD (pos ↑w u j) false <;> simp
 | .same f g,j=>by
  have a:=gw h f j;have b:=gw h g j;unfold truths;rw[IA (by rw[eL];show mv h) (by rw[eL];show mv h)];simp only[holds,←a,←b];cases(truths w u f).getD (pos ↑w u j) false <;> cases(truths w u g).getD (pos ↑w u j) false <;> simp
 | .next f,j=>by
  have a:=gw h f (j+1);unfold truths;change(iN _ _).getD _ false=true↔_;rw[EX (mv h),B3 h];show a
 | .till f g,j=>by
  have a:=gw h f;have b:=gw h g;unfold truths;change(settle _ _ _ _).getD _ false=true↔_;rw[yY h];simp only[a,b,cQ,false_and,or_false];show qy
 | .ever f,j=>by
  have a:=gw h f;unfold truths;have:=yY (x:=false) (a:=λ_=>true) (b:=λi=>(truths w u f).getD i false) h j;simp only[fH,a,cQ,false_and,or_false] at this;change(settle _ _ _ _).getD _ false=true↔TJ _ _;rw[this,OF]
 | .globally f,j=>by
  have a:=gw h f;unfold truths;have:=yY (x:=true) (a:=λi=>(truths w u f).getD i false) (b:=λ_=>false) h j;simp only[mL,a,cQ,true_and] at this;change(settle _ _ _ _).getD _ false=true↔Glob _ _;rw[PM (d':=true) (by rw[kM];show mv h),this];constructor
  ·rintro(⟨_,_,q,_⟩|q)
   ·show q.elim
   ·show q
  ·show .inr
 | .weak f g,j=>by
  have a:=gw h f;have b:=gw h g;unfold truths;have:=yY (x:=true) (a:=λi=>(truths w u f).getD i false) (b:=λi=>(truths w u g).getD i false) h j;simp only[a,b,true_and] at this;change(settle _ _ _ _).getD _ false=true↔_;rw[PM (d':=true) (by rw[kM];show mv h),this];show qy
 | .release f g,j=>by
  have a:=gw h f;have b:=gw h g;unfold truths;have:=yY (x:=true) (a:=λi=>(truths w u g).getD i false) (b:=λi=>(truths w u g).getD i false && (truths w u f).getD i false) h j
  have e:(λ(i:Nat) (y:Bool)=>(truths w u g).getD i false && (truths w u f).getD i false || (truths w u g).getD i false && y)=λi y=>(truths w u g).getD i false && ((truths w u f).getD i false || y):=by
   funext i y
   cases(truths w u g).getD i false <;> cases(truths w u f).getD i false <;> cases y <;> rfl
  rw[e] at this;simp only[bf,a,b,true_and] at this;change(settle _ _ _ _).getD _ false=true↔Rel _ _ _;rw[PM (d':=true) (by rw[kM];show mv h),this];unfold Rel;simp only[and_comm]
def WU(h:u < ↑w)(f:Form):truth w u f=true↔holds (round w u) f 0:=by
 have:=gw h f 0;rw[yP (show 0 < ↑w by lia)] at this;show this
def Jt:∀(k n q:Nat),n.testBit k=false->(2^k+n).testBit q=(decide (q=k) || n.testBit q)
 |0,n,q,h=>by
  have g:n % 2=0:=by
   rw[jA] at h;have:=of_decide_eq_false h;lia
  cases q with
  |zero=>
   rw[jA];have:(2^0+n) % 2=1:=by change(1+n) % 2=1;lia
   simp[this]
  |succ q=>
   rw[ib,ib];have:(2^0+n) / 2=n / 2:=by change(1+n) / 2=n / 2;lia
   rw[this];simp
 |k+1,n,q,h=>by
  rw[ib] at h;have j:2^(k+1)=2*2^k:=by rw[qB,vq]
  cases q with
  |zero=>
   rw[jA,jA];have:(2^(k+1)+n) % 2=n % 2:=by lia
   rw[this];simp
  |succ q=>
   rw[ib,ib];have:(2^(k+1)+n) / 2=2^k+n / 2:=by lia
   rw[this,Jt k (n / 2) q h];simp
def SG:∀(L:List (Nat×Bool)),(L.map (·.1)).Nodup->∀q,((L.map λp:Nat×Bool=>if p.2=true then 2^p.1 else 0).sum).testBit q=L.any λp=>decide (p.1=q) && p.2
 |[],_,q=>by simp
 |(k,c,) ::L,h,q=>by
  have h':=kf.mp h;have g:=SG L h'.2;rw[cg,fe,iE]
  cases c with
  |false=>simp only[cQ,if_false,gF,nA,mL];show g q
  |true=>
   rw[h9 rfl,Jt]
   ·rw[g q];have:decide (q=k)=decide (k=q):=by simp[eq_comm]
    rw[this];simp
   ·rw[g k,vt];rintro⟨j,c'⟩ m;have:j≠k:=λe=>h'.1 (fc.mpr ((j,c',),m,e));simp[this]
abbrev bitsOf(b:Nat->Bool):Nat->Nat
 |0=>0
 |n+1=>(if b n=true then 2^n else 0)+bitsOf b n
def gM(b:Nat->Bool):∀n,bitsOf b n < 2^n
 |0=>by change 0 < 1;lia
 |n+1=>by
  have:=gM b n;have g:2^(n+1)=2*2^n:=by rw[qB,vq]
  unfold bitsOf
  split <;> lia
def dW(b:Nat->Bool):∀n q,q < n->(bitsOf b n).testBit q=b q
 |0,q,h=>absurd h ()
 |n+1,q,h=>by
  have lt:=gM b n;have g:(bitsOf b n).testBit n=false:=c7 lt;unfold bitsOf
  by_cases e:q=n
  ·subst e
   cases c:b q
   ·simp[g]
   ·rw[h9 rfl,Jt _ _ _ g];simp
  ·have j:=dW b n q ()
   cases c:b n
   ·simp[j]
   ·rw[h9 rfl,Jt _ _ _ g];simp[e,j]
def fC:∀(f:Form),(∀q∈named f,∀i,(w i).testBit q=(v i).testBit q)->holds w f=holds v f
 | .yes,h=>rfl
 | .no,h=>rfl
 | .prop p,h=>by
  funext i
  have:=h p (bz.mpr rfl) i;simp only[holds,this]
 | .not f,h=>by funext i;simp only[holds,fC f h]
 | .next f,h=>by funext i;simp only[holds,fC f h]
 | .ever f,h=>by funext i;simp only[holds,fC f h]
 | .globally f,h=>by funext i;simp only[holds,fC f h]
 | .and f g,h=>by
  funext i;simp only[holds,fC f (λq m=>h q (cf _ m)),fC g (λq m=>h q (bW _ m))]
 | .or f g,h=>by
  funext i;simp only[holds,fC f (λq m=>h q (cf _ m)),fC g (λq m=>h q (bW _ m))]
 | .implies f g,h=>by
  funext i;simp only[holds,fC f (λq m=>h q (cf _ m)),fC g (λq m=>h q (bW _ m))]
 | .same f g,h=>by
  funext i;simp only[holds,fC f (λq m=>h q (cf _ m)),fC g (λq m=>h q (bW _ m))]
 | .till f g,h=>by
  funext i;simp only[holds,fC f (λq m=>h q (cf _ m)),fC g (λq m=>h q (bW _ m))]
 | .weak f g,h=>by
  funext i;simp only[holds,fC f (λq m=>h q (cf _ m)),fC g (λq m=>h q (bW _ m))]
 | .release f g,h=>by
  funext i;simp only[holds,fC f (λq m=>h q (cf _ m)),fC g (λq m=>h q (bW _ m))]
def y9:∀(n:Nat) (l:List Nat),↑l<=n->∀a,a∈l.eraseDups↔a∈l
 |_,[],_,a=>by simp
 |0,b ::l,h,a=>absurd h ⋯
 |n+1,b ::l,h,a=>by
  rw[Gn,bo,bo,y9 n _ (cJ (eP _ _) (by simpa using h)),c8]
  by_cases e:a=b
  ·simp[e]
  ·simp[e]
def Be:∀(n:Nat) (l:List Nat),↑l<=n->l.eraseDups.Nodup
 |_,[],_=>by simp
 |0,b ::l,h=>absurd h ⋯
 |n+1,b ::l,h=>by
  have g:↑(l.filter λc=>!c==b)<=n:=cJ (eP _ _) (by simpa using h);rw[Gn,kf,y9 n _ g,c8];show(λz=>by simp at z,Be n _ g)
def LJ(l:List Nat):l.eraseDups.Nodup:=Be _ l (aT _)
def Mq(h:ps.Nodup)(b:Nat->Bool)(g:q∈ps):((anything ps).props (bitsOf (λj=>b (ps.getD j 0)) ↑ps)).testBit q=b q:=by
 change(iN (λp:Nat×Nat=>if (bitsOf (λj=>b (ps.getD j 0)) ↑ps).testBit p.2=true then 2^p.1 else 0) ps.zipIdx).sum.testBit q=b q
 have key:=SG (ps.zipIdx.map λp=>(p.1,(bitsOf (λj=>b (ps.getD j 0)) ↑ps).testBit p.2,)) (by
  rw[qA];change(iN (λp:Nat×Nat=>p.1) ps.zipIdx).Nodup;have e:iN (λp:Nat×Nat=>p.1) ps.zipIdx=ps:=List.zipIdx_map_fst 0 ps;rw[e];show h) q
 rw[qA] at key;show Ti key ?_;rw[Rj]
 have val:∀p∈ps.zipIdx,(bitsOf (λj=>b (ps.getD j 0)) ↑ps).testBit p.2=b p.1:=λp m=>by
  have e:=gK.mp m;rw[dW _ _ _ (aX.mp e).1,ba,e];rfl
 cases c:b q
 ·rw[vt];intro p m;have v:=val p m;simp only[Om,v]
  by_cases e:p.1=q
  ·rw[e,c];simp
  ·simp[e]
 ·rw[iO];let(j,z,e):=dU g;have m:(q,j,)∈ps.zipIdx:=gK.mpr (by rw[←e];show aS z);show((q,j,),m,?_);have v:=val _ m;simp only[Om,v,c];simp
def WC(f g:Form):sameRows f g=true↔∀w:Nat->Nat,holds w f 0↔holds w g 0:=by
 unfold sameRows;rw[UD];have nd:=LJ (named f++named g);constructor
 ·intro h w;have z:=h (λi=>bitsOf (λj=>(w i).testBit ((named f++named g).eraseDups.getD j 0)) ↑(named f++named g).eraseDups) (rfl,λi=>gM _ _,λi=>rfl)
  have agree:∀q∈named f++named g,∀i,(row (anything (named f++named g).eraseDups) (λi=>bitsOf (λj=>(w i).testBit ((named f++named g).eraseDups.getD j 0)) ↑(named f++named g).eraseDups) i).testBit q=(w i).testBit q:=λq m i=>
   Mq nd (λq=>(w i).testBit q) ((y9 _ _ (aT _) q).mpr m)
  rw[←fC f (λq m=>agree q (cf _ m)),←fC g (λq m=>agree q (bW _ m))];show z
 ·intro h p _;show h _
def Qm(b:Bytes):↑(skip b)<=↑b:=(List.dropWhile_sublist _).length_le
def WR(h:first b≠0):0 < ↑(skip b):=by
 unfold first at h
 cases e:skip b with
 |nil=>rw[e] at h;show absurd rfl h
 |cons a l=>simp
def jW(h:first b≠0):↑((skip b).drop 1) < ↑b:=by
 have:=WR h;have:=Qm b;rw[gN];lia
def u_(g:0 < ↑s)(h:sign s b= .ok r):↑r < ↑b:=by
 unfold sign at h
 by_cases q:s.isPrefixOf (skip b)=true
 ·simp only[q,if_true] at h;have e:=kS h;have p:=(List.isPrefixOf_iff_prefix.mp q).length_le;have:=Qm b;rw[←e,gN];lia
 ·simp only[q] at h;cases h
structure aaO(k:Nat):Prop where
 formula:∀b f r,formula k b= .ok (f,r,)->↑r < ↑b
 formulas:∀g b f r,formulas k g b= .ok (f,r,)->↑r<=↑b
 implies:∀b f r,implies k b= .ok (f,r,)->↑r < ↑b
 either:∀b f r,either k b= .ok (f,r,)->↑r < ↑b
 eithers:∀g b f r,eithers k g b= .ok (f,r,)->↑r<=↑b
 both:∀b f r,both k b= .ok (f,r,)->↑r < ↑b
 boths:∀g b f r,boths k g b= .ok (f,r,)->↑r<=↑b
 while_:∀b f r,while_ k b= .ok (f,r,)->↑r < ↑b
 one:∀b f r,one k b= .ok (f,r,)->↑r < ↑b
def g7:∀k,aaO k
 |0=>(λb f r h=>(by rw[formula] at h;cases h),λg b f r h=>(by rw[formulas] at h;cases h),λb f r h=>(by rw[implies] at h;cases h),λb f r h=>(by rw[either] at h;cases h),λg b f r h=>(by rw[eithers] at h;cases h),
  λb f r h=>(by rw[both] at h;cases h),λg b f r h=>(by rw[boths] at h;cases h),λb f r h=>(by rw[while_] at h;cases h),λb f r h=>(by rw[one] at h;cases h))
 |k+1=>by
  have I:=g7 k;show(?_,?_,?_,?_,?_,?_,?_,?_,?_)
  ·intro b f r h;rw[formula] at h
   cases e:implies k b with
   |error x=>rw[e] at h;cases h
   |ok p=>
    rw[e] at h;have:=I.implies b p.1 p.2 e;have:=I.formulas p.1 p.2 f r h;lia
  ·intro g b f r h;rw[formulas] at h
   by_cases q:first b=60
   ·rw[h9 q] at h
    cases e:sign both_ b with
    |error x=>rw[e] at h;cases h
    |ok c=>
     rw[e] at h;have h1:=u_ (by decide) e;simp only at h
     cases j:implies k c with
     |error x=>rw[j] at h;cases h
     |ok p=>
      rw[j] at h;have:=I.implies c p.1 p.2 j;have:=I.formulas _ p.2 f r h;lia
   ·rw[h8 q] at h
    cases h;show aT _
  ·intro b f r h;rw[implies] at h
   cases e:either k b with
   |error x=>rw[e] at h;cases h
   |ok p=>
    rw[e] at h;have B:=I.either b p.1 p.2 e;simp only at h
    by_cases q:first p.2=45
    ·rw[h9 q] at h
     cases D:sign arrow p.2 with
     |error x=>rw[D] at h;cases h
     |ok c=>
      rw[D] at h;have h1:=u_ (by decide) D;simp only at h
      cases j:implies k c with
      |error x=>rw[j] at h;cases h
      |ok z=>
       rw[j] at h;have:=I.implies c z.1 z.2 j
       cases h;lia
    ·rw[h8 q] at h
     cases h;show B
  ·intro b f r h;rw[either] at h
   cases e:both k b with
   |error x=>rw[e] at h;cases h
   |ok p=>
    rw[e] at h;have:=I.both b p.1 p.2 e;have:=I.eithers p.1 p.2 f r h;lia
  ·intro g b f r h;rw[eithers] at h
   by_cases q:first b=124
   ·rw[h9 q] at h;have h1:=jW (b:=b) (by rw[q];decide)
    cases j:both k ((skip b).drop 1) with
    |error x=>rw[j] at h;cases h
    |ok p=>
     rw[j] at h;have:=I.both _ p.1 p.2 j;have:=I.eithers _ p.2 f r h;lia
   ·rw[h8 q] at h
    cases h;show aT _
  ·intro b f r h;rw[both] at h
   cases e:while_ k b with
   |error x=>rw[e] at h;cases h
   |ok p=>
    rw[e] at h;have:=I.while_ b p.1 p.2 e;have:=I.boths p.1 p.2 f r h;lia
  ·intro g b f r h;rw[boths] at h
   by_cases q:first b=38
   ·rw[h9 q] at h;have h1:=jW (b:=b) (by rw[q];decide)
    cases j:while_ k ((skip b).drop 1) with
    |error x=>rw[j] at h;cases h
    |ok p=>
     rw[j] at h;have:=I.while_ _ p.1 p.2 j;have:=I.boths _ p.2 f r h;lia
   ·rw[h8 q] at h
    cases h;show aT _
  ·intro b f r h;rw[while_] at h
   cases e:one k b with
   |error x=>rw[e] at h;cases h
   |ok p=>
    rw[e] at h;have B:=I.one b p.1 p.2 e;simp only at h
    by_cases q:first p.2=85\/first p.2=82\/first p.2=87
    ·rw[h9 q] at h;have h1:=jW (b:=p.2) ()
     cases j:while_ k ((skip p.2).drop 1) with
     |error x=>rw[j] at h;cases h
     |ok z=>
      rw[j] at h;have:=I.while_ _ z.1 z.2 j
      cases h;lia
    ·rw[h8 q] at h
     cases h;show B
  ·intro b f r h;rw[one] at h
   by_cases q:first b=33\/first b=88\/first b=70\/first b=71
   ·rw[h9 q] at h;have h1:=jW (b:=b) ()
    cases j:one k ((skip b).drop 1) with
    |error x=>rw[j] at h;cases h
    |ok z=>
     rw[j] at h;have:=I.one _ z.1 z.2 j
     cases h;lia
   ·rw[h8 q] at h
    by_cases M:first b=40
    ·rw[h9 M] at h;have h1:=jW (b:=b) ()
     cases j:formula k ((skip b).drop 1) with
     |error x=>rw[j] at h;cases h
     |ok z=>
      rw[j] at h;have:=I.formula _ z.1 z.2 j;simp only at h
      cases J:sign [41] z.2 with
      |error x=>rw[J] at h;cases h
      |ok c=>
       rw[J] at h;have:=u_ (by decide) J
       cases h;lia
    ·rw[h8 M] at h
     by_cases N:97<=first b/\first b<=112
     ·rw[h9 N] at h;have h1:=jW (b:=b) ()
      cases h;show h1
     ·rw[h8 N] at h
      by_cases O:first b=48
      ·rw[h9 O] at h;have h1:=jW (b:=b) ()
       cases h;show h1
      ·rw[h8 O] at h
       by_cases Q:first b=49
       ·rw[h9 Q] at h;have h1:=jW (b:=b) ()
        cases h;show h1
       ·rw[h8 Q] at h;cases h
structure Uu(n:Nat):Prop where
 one:∀b:Bytes,↑b<=n->∀k j,8*↑b+1<=k->8*↑b+1<=j->one k b=one j b
 while_:∀b:Bytes,↑b<=n->∀k j,8*↑b+2<=k->8*↑b+2<=j->while_ k b=while_ j b
 boths:∀(b:Bytes) g,↑b<=n->∀k j,8*↑b+1<=k->8*↑b+1<=j->boths k g b=boths j g b
 both:∀b:Bytes,↑b<=n->∀k j,8*↑b+3<=k->8*↑b+3<=j->both k b=both j b
 eithers:∀(b:Bytes) g,↑b<=n->∀k j,8*↑b+1<=k->8*↑b+1<=j->eithers k g b=eithers j g b
 either:∀b:Bytes,↑b<=n->∀k j,8*↑b+4<=k->8*↑b+4<=j->either k b=either j b
 implies:∀b:Bytes,↑b<=n->∀k j,8*↑b+5<=k->8*↑b+5<=j->implies k b=implies j b
 formulas:∀(b:Bytes) g,↑b<=n->∀k j,8*↑b+1<=k->8*↑b+1<=j->formulas k g b=formulas j g b
 formula:∀b:Bytes,↑b<=n->∀k j,8*↑b+6<=k->8*↑b+6<=j->formula k b=formula j b
def RK(I:∀m,m < n->Uu m):Uu n:=by
 have ah:∀b:Bytes,↑b<=n->∀k j,8*↑b+1<=k->8*↑b+1<=j->one k b=one j b:=by
  intro b Y k j hk hj;obtain⟨k,rfl⟩:∃M,k=M+1:=(k - 1,());obtain⟨j,rfl⟩:∃N,j=N+1:=(j - 1,());rw[one,one]
  by_cases z:first b=0
  ·simp only[z];rfl
  ·have hd:=jW z;have E:=I ↑((skip b).drop 1) ();rw[E.one _ (aT _) k j () (),E.formula _ (aT _) k j () ()]
 have Q:∀b:Bytes,↑b<=n->∀k j,8*↑b+2<=k->8*↑b+2<=j->while_ k b=while_ j b:=by
  intro b Y k j hk hj;obtain⟨k,rfl⟩:∃M,k=M+1:=(k - 1,());obtain⟨j,rfl⟩:∃N,j=N+1:=(j - 1,());rw[while_,while_,ah b Y k j () ()]
  cases e:one j b with
  |error x=>rfl
  |ok p=>
   have h0:=(g7 j).one b p.1 p.2 e;simp only
   by_cases z:first p.2=0
   ·simp only[z];rfl
   ·have hd:=jW z;rw[(I ↑((skip p.2).drop 1) ()).while_ _ (aT _) k j () ()]
 have U:∀(b:Bytes) g,↑b<=n->∀k j,8*↑b+1<=k->8*↑b+1<=j->boths k g b=boths j g b:=by
  intro b g Y k j hk hj;obtain⟨k,rfl⟩:∃M,k=M+1:=(k - 1,());obtain⟨j,rfl⟩:∃N,j=N+1:=(j - 1,());rw[boths,boths]
  by_cases z:first b=38
  ·have hd:=jW (b:=b) ();rw[h9 z,h9 z,(I ↑((skip b).drop 1) ()).while_ _ (aT _) k j () ()]
   cases e:while_ j ((skip b).drop 1) with
   |error x=>rfl
   |ok p=>
    have h0:=(g7 j).while_ _ p.1 p.2 e;show(I ↑p.2 ()).boths p.2 _ (aT _) k j () ()
  ·rw[h8 z,h8 z]
 have Z:∀b:Bytes,↑b<=n->∀k j,8*↑b+3<=k->8*↑b+3<=j->both k b=both j b:=by
  intro b Y k j hk hj;obtain⟨k,rfl⟩:∃M,k=M+1:=(k - 1,());obtain⟨j,rfl⟩:∃N,j=N+1:=(j - 1,());rw[both,both,Q b Y k j () ()]
  cases e:while_ j b with
  |error x=>rfl
  |ok p=>
   have h0:=(g7 j).while_ _ p.1 p.2 e;show U p.2 _ () k j () ()
 have D:∀(b:Bytes) g,↑b<=n->∀k j,8*↑b+1<=k->8*↑b+1<=j->eithers k g b=eithers j g b:=by
  intro b g Y k j hk hj;obtain⟨k,rfl⟩:∃M,k=M+1:=(k - 1,());obtain⟨j,rfl⟩:∃N,j=N+1:=(j - 1,());rw[eithers,eithers]
  by_cases z:first b=124
  ·have hd:=jW (b:=b) ();rw[h9 z,h9 z,(I ↑((skip b).drop 1) ()).both _ (aT _) k j () ()]
   cases e:both j ((skip b).drop 1) with
   |error x=>rfl
   |ok p=>
    have h0:=(g7 j).both _ p.1 p.2 e;show(I ↑p.2 ()).eithers p.2 _ (aT _) k j () ()
  ·rw[h8 z,h8 z]
 have O:∀b:Bytes,↑b<=n->∀k j,8*↑b+4<=k->8*↑b+4<=j->either k b=either j b:=by
  intro b Y k j hk hj;obtain⟨k,rfl⟩:∃M,k=M+1:=(k - 1,());obtain⟨j,rfl⟩:∃N,j=N+1:=(j - 1,());rw[either,either,Z b Y k j () ()]
  cases e:both j b with
  |error x=>rfl
  |ok p=>
   have h0:=(g7 j).both _ p.1 p.2 e;show D p.2 _ () k j () ()
 have J:∀b:Bytes,↑b<=n->∀k j,8*↑b+5<=k->8*↑b+5<=j->implies k b=implies j b:=by
  intro b Y k j hk hj;obtain⟨k,rfl⟩:∃M,k=M+1:=(k - 1,());obtain⟨j,rfl⟩:∃N,j=N+1:=(j - 1,());rw[implies,implies,O b Y k j () ()]
  cases e:either j b with
  |error x=>rfl
  |ok p=>
   have h0:=(g7 j).either _ p.1 p.2 e;simp only
   by_cases z:first p.2=45
   ·rw[h9 z,h9 z]
    cases e1:sign arrow p.2 with
    |error x=>rfl
    |ok c=>
     have h1:=u_ (by decide) e1;simp only;rw[(I ↑c ()).implies c (aT _) k j () ()]
   ·rw[h8 z,h8 z]
 have B:∀(b:Bytes) g,↑b<=n->∀k j,8*↑b+1<=k->8*↑b+1<=j->formulas k g b=formulas j g b:=by
  intro b g Y k j hk hj;obtain⟨k,rfl⟩:∃M,k=M+1:=(k - 1,());obtain⟨j,rfl⟩:∃N,j=N+1:=(j - 1,());rw[formulas,formulas]
  by_cases z:first b=60
  ·rw[h9 z,h9 z]
   cases e1:sign both_ b with
   |error x=>rfl
   |ok c=>
    have h1:=u_ (by decide) e1;simp only;rw[(I ↑c ()).implies c (aT _) k j () ()]
    cases e:implies j c with
    |error x=>rfl
    |ok p=>
     have h0:=(g7 j).implies _ p.1 p.2 e;show(I ↑p.2 ()).formulas p.2 _ (aT _) k j () ()
  ·rw[h8 z,h8 z]
 show(ah,Q,U,Z,D,O,J,B,?_);intro b Y k j hk hj;obtain⟨k,rfl⟩:∃M,k=M+1:=(k - 1,());obtain⟨j,rfl⟩:∃N,j=N+1:=(j - 1,());rw[formula,formula,J b Y k j () ()]
 cases e:implies j b with
 |error x=>rfl
 |ok p=>
  have h0:=(g7 j).implies _ p.1 p.2 e;show B p.2 _ () k j () ()
def wg(n:Nat):Uu n:=by
 induction n using lX with
 |ind n g=>show RK g
meta abbrev Got:=Except Nat (Form×Bytes)
abbrev PB(b:Bytes):Got:=one (8*↑b+1) b
abbrev xa(b:Bytes):Got:=while_ (8*↑b+2) b
abbrev Gq(b:Bytes):Got:=both (8*↑b+3) b
abbrev yg(b:Bytes):Got:=either (8*↑b+4) b
abbrev qi(b:Bytes):Got:=implies (8*↑b+5) b
abbrev vd(b:Bytes):Got:=formula (8*↑b+6) b
abbrev Ed(f:Form)(b:Bytes):Got:=boths (8*↑b+1) f b
abbrev wX(f:Form)(b:Bytes):Got:=eithers (8*↑b+1) f b
abbrev um(f:Form)(b:Bytes):Got:=formulas (8*↑b+1) f b
abbrev vK(x:Got)(k:Form->Bytes->Got):Got:=match x with
 | .error e=> .error e
 | .ok (f,r,)=>k f r
def Lf(b:Bytes):vd b=vK (qi b) um:=by
 unfold vd qi;rw[show 8*↑b+6=(8*↑b+5)+1 by lia,formula]
 cases e:implies (8*↑b+5) b with
 |error x=>rfl
 |ok p=>
  have g:=(g7 _).implies _ p.1 p.2 e;show(wg ↑p.2).formulas p.2 _ (aT _) _ _ () ()
def M4(b:Bytes):yg b=vK (Gq b) wX:=by
 unfold yg Gq;rw[show 8*↑b+4=(8*↑b+3)+1 by lia,either]
 cases e:both (8*↑b+3) b with
 |error x=>rfl
 |ok p=>
  have g:=(g7 _).both _ p.1 p.2 e;show(wg ↑p.2).eithers p.2 _ (aT _) _ _ () ()
def SA(b:Bytes):Gq b=vK (xa b) Ed:=by
 unfold Gq xa;rw[show 8*↑b+3=(8*↑b+2)+1 by lia,both]
 cases e:while_ (8*↑b+2) b with
 |error x=>rfl
 |ok p=>
  have g:=(g7 _).while_ _ p.1 p.2 e;show(wg ↑p.2).boths p.2 _ (aT _) _ _ () ()
abbrev ES(f:Form)(r:Bytes):Got:=if first r=45 then(match sign arrow r with
 | .error e=> .error e
 | .ok r=>vK (qi r) λg r=> .ok (.implies f g,r,)) else .ok (f,r,)
def Ld(b:Bytes):qi b=vK (yg b) ES:=by
 unfold qi yg;rw[show 8*↑b+5=(8*↑b+4)+1 by lia,implies]
 cases e:either (8*↑b+4) b with
 |error x=>rfl
 |ok p=>
  have j:=(g7 _).either _ p.1 p.2 e;change(if first p.2=45 then _ else _)=ES p.1 p.2;unfold ES
  by_cases z:first p.2=45
  ·rw[h9 z,h9 z]
   cases g:sign arrow p.2 with
   |error x=>rfl
   |ok c=>
    have h1:=u_ (by decide) g;simp only;rw[(wg ↑c).implies c (aT _) _ (8*↑c+5) () ()]
    rfl
  ·rw[h8 z,h8 z]
abbrev Uh(c:Nat)(f g:Form):Form:=if c=85 then .till f g else if c=82 then .release f g else .weak f g
abbrev J1(f:Form)(r:Bytes):Got:=if first r=85\/first r=82\/first r=87 then vK (xa ((skip r).drop 1)) λg s=> .ok (Uh (first r) f g,s,) else .ok (f,r,)
def O3(b:Bytes):xa b=vK (PB b) J1:=by
 unfold xa PB;rw[show 8*↑b+2=(8*↑b+1)+1 by lia,while_]
 cases e:one (8*↑b+1) b with
 |error x=>rfl
 |ok p=>
  have g:=(g7 _).one _ p.1 p.2 e;change(if first p.2=85\/first p.2=82\/first p.2=87 then _ else _)=J1 p.1 p.2;unfold J1
  by_cases z:first p.2=85\/first p.2=82\/first p.2=87
  ·rw[h9 z,h9 z];have hd:=jW (b:=p.2) ();rw[(wg ↑((skip p.2).drop 1)).while_ _ (aT _) _ (8*↑((skip p.2).drop 1)+2) () ()]
   rfl
  ·rw[h8 z,h8 z]
abbrev QD(c:Nat)(f:Form):Form:=if c=33 then .not f else if c=88 then .next f else if c=70 then .ever f else .globally f
abbrev Vq(f:Form)(r:Bytes):Got:=match sign [41] r with
 | .error e=> .error e
 | .ok r=> .ok (f,r,)
def aaP(b:Bytes):PB b=if first b=33\/first b=88\/first b=70\/first b=71 then vK (PB ((skip b).drop 1)) λf r=> .ok (QD (first b) f,r,)
  else if first b=40 then vK (vd ((skip b).drop 1)) Vq
  else if 97<=first b/\first b<=112 then .ok (.prop (first b - 97),(skip b).drop 1,)
  else if first b=48 then .ok (.no,(skip b).drop 1,) else if first b=49 then .ok (.yes,(skip b).drop 1,) else .error ↑(skip b):=by
 unfold PB;rw[one]
 by_cases z:first b=0
 ·simp only[z];rfl
 ·have hd:=jW z;have E:=wg ↑((skip b).drop 1);rw[E.one _ (aT _) (8*↑b) (8*↑((skip b).drop 1)+1) () (),E.formula _ (aT _) (8*↑b) (8*↑((skip b).drop 1)+6) () ()]
  rfl
def FD(f:Form)(b:Bytes):Ed f b=if first b=38 then vK (xa ((skip b).drop 1)) λg r=>Ed (.and f g) r else .ok (f,b,):=by
 unfold Ed;rw[boths]
 by_cases z:first b=38
 ·rw[h9 z,h9 z];have hd:=jW (b:=b) ();rw[(wg ↑((skip b).drop 1)).while_ _ (aT _) (8*↑b) (8*↑((skip b).drop 1)+2) () ()];change _=vK (while_ _ _) _
  cases e:while_ (8*↑((skip b).drop 1)+2) ((skip b).drop 1) with
  |error x=>rfl
  |ok p=>
   have j:=(g7 _).while_ _ p.1 p.2 e;show(wg ↑p.2).boths p.2 _ (aT _) _ _ () ()
 ·rw[h8 z,h8 z]
def zX(f:Form)(b:Bytes):wX f b=if first b=124 then vK (Gq ((skip b).drop 1)) λg r=>wX (.or f g) r else .ok (f,b,):=by
 unfold wX;rw[eithers]
 by_cases z:first b=124
 ·rw[h9 z,h9 z];have hd:=jW (b:=b) ();rw[(wg ↑((skip b).drop 1)).both _ (aT _) (8*↑b) (8*↑((skip b).drop 1)+3) () ()];change _=vK (both _ _) _
  cases e:both (8*↑((skip b).drop 1)+3) ((skip b).drop 1) with
  |error x=>rfl
  |ok p=>
   have j:=(g7 _).both _ p.1 p.2 e;show(wg ↑p.2).eithers p.2 _ (aT _) _ _ () ()
 ·rw[h8 z,h8 z]
def xT(f:Form)(b:Bytes):um f b=if first b=60 then(match sign both_ b with
  | .error e=> .error e
  | .ok c=>vK (qi c) λg r=>um (.same f g) r) else .ok (f,b,):=by
 unfold um;rw[formulas]
 by_cases z:first b=60
 ·rw[h9 z,h9 z]
  cases j:sign both_ b with
  |error x=>rfl
  |ok c=>
   have h1:=u_ (by decide) j;simp only;rw[(wg ↑c).implies c (aT _) (8*↑b) (8*↑c+5) () ()];change _=vK (implies _ _) _
   cases e:implies (8*↑c+5) c with
   |error x=>rfl
   |ok p=>
    have B:=(g7 _).implies _ p.1 p.2 e;show(wg ↑p.2).formulas p.2 _ (aT _) _ _ () ()
 ·rw[h8 z,h8 z]
def ab0(b:Bytes):yy b=match vd b with
  | .error e=> .error (↑b - e)
  | .ok (f,r,)=>if skip r=[] then .ok f else .error (↑b - ↑(skip r)):=by
 unfold yy;rw[(wg ↑b).formula b (aT _) (16*↑b+16) (8*↑b+6) () ()]
 rfl
abbrev binds(c:Nat):Nat:=if c=40 then 0 else if c=60 then 1 else if c=45 then 2 else if c=124 then 3 else if c=38 then 4 else if c=85\/c=82\/c=87 then 5 else 6
abbrev gq(c:Nat):Nat:=if c=60 then 1 else if c=45 then 3 else if c=124 then 3 else if c=38 then 4 else 6
abbrev kW(c:Nat):Bool:=c==33 || c==88 || c==70 || c==71
abbrev jC(c:Nat):Bool:=c==60 || c==45 || c==124 || c==38 || c==85 || c==82 || c==87
abbrev MO(c:Nat)(f g:Form):Form:=if c=60 then .same f g else if c=45 then .implies f g else if c=124 then .or f g else if c=38 then .and f g else Uh c f g
abbrev leafOf(c:Nat):Form:=if c=48 then .no else if c=49 then .yes else .prop (c - 97)
abbrev red(j:Nat)(R:List Form):List Form:=if kW j=true then(match R with
 |f ::R=>QD j f ::R
 |[]=>[]) else(match R with
 |g ::f ::R=>MO j f g ::R
 |R=>R)
abbrev dw(m:Nat):List Form->List Nat->List Form×List Nat
 |R,[]=>(R,[],)
 |R,g ::W=>if m<=binds g then dw m (red g R) W else(R,g ::W,)
abbrev take1(c:Nat)(s:List Form×List Nat):List Form×List Nat:=
 if c=41 then((dw 1 s.1 s.2).1,(dw 1 s.1 s.2).2.drop 1,)
 else if jC c=true then((dw (gq c) s.1 s.2).1,c ::(dw (gq c) s.1 s.2).2,)
 else if c=40\/kW c=true then(s.1,c ::s.2,)
 else(leafOf c ::s.1,s.2,)
structure LS where
 JW:Bool
 d:Nat
 ar:Nat
abbrev iD(c:Nat):Bool:=(decide (97<=c) && decide (c<=112)) || (c==48 || c==49)
abbrev lg(c:Nat):Bool:=c==38 || c==124 || c==85 || c==82 || c==87
abbrev jB(s:LS)(c:Nat):Option (LS×List Nat):=
 if s.ar=1 then(if c=62 then some ((true,s.d,0),[45],) else none)
 else if s.ar=2 then(if c=45 then some ((s.JW,s.d,3),[],) else none)
 else if s.ar=3 then(if c=62 then some ((true,s.d,0),[60],) else none)
 else if s.JW=false/\c=45 then some ((s.JW,s.d,1),[],)
 else if s.JW=false/\c=60 then some ((s.JW,s.d,2),[],)
 else if c=32 then some (s,[],)
 else if s.JW=true then(if c=40 then some ((true,s.d+1,0),[c],) else if iD c=true then some ((false,s.d,0),[c],) else if kW c=true then some ((true,s.d,0),[c],) else none)
 else(if c=41/\0 < s.d then some ((false,s.d - 1,0),[c],) else if lg c=true then some ((true,s.d,0),[c],) else none)
abbrev AQ(s:LS):Bool:=!s.JW && (s.d==0 && s.ar==0)
abbrev gL(ts:List Nat)(s:List Form×List Nat):List Form×List Nat:=ts.foldl (λs t=>take1 t s) s
abbrev finish(s:List Form×List Nat):Form:=(dw 1 s.1 s.2).1.headD .no
abbrev run(st:LS)(s:List Form×List Nat):Bytes->Except Nat Form
 |[]=>if AQ st=true then .ok (finish s) else .error 0
 |c ::b=>match jB st c.toNat with
  |none=> .error (↑b+1)
  |some (st',ts,)=>run st' (gL ts s) b
meta abbrev sD(d:Nat):LS:=(true,d,0)
meta abbrev sN(d:Nat):LS:=(false,d,0)
abbrev MQ(x:Got)(k:Form->Bytes->Except Nat Form):Except Nat Form:=match x with
 | .error e=> .error e
 | .ok (f,r,)=>k f r
def jg(x:Got)(k:Form->Bytes->Got)(h:Form->Bytes->Except Nat Form):MQ (vK x k) h=MQ x λf r=>MQ (k f r) h:=by
 cases x with
 |error e=>rfl
 |ok p=>rfl
def jf(e:∀f r,x= .ok (f,r,)->k f r=h f r):MQ x k=MQ x h:=by
 cases x with
 |error e=>rfl
 |ok p=>show e p.1 p.2 rfl
def Pa(c:UInt8)(b:Bytes):skip (c ::b)=if c=32 then skip b else c ::b:=by
 unfold skip;rw[List.dropWhile_cons]
 by_cases h:c=32
 ·rw[h9 h,h9 (by rw[h];rfl)]
 ·rw[h8 h,h8 (by simpa using h)]
def tI(b:Bytes):skip b=[]\/∃c r,skip b=c ::r/\c≠32:=by
 induction b with
 |nil=>show .inl rfl
 |cons c b g=>
  rw[Pa]
  by_cases h:c=32
  ·rw[h9 h];show g
  ·rw[h8 h];show .inr (c,b,rfl,h)
def Vy{c:UInt8}(h:c≠32):c.toNat≠32:=λe=>h (lW.mp e)
def wN(u:Bool)(d:Nat)(s:List Form×List Nat)(b:Bytes):run (u,d,0) s b=run (u,d,0) s (skip b):=by
 induction b with
 |nil=>rfl
 |cons c b g=>
  rw[Pa]
  by_cases h:c=32
  ·rw[h9 h,run];subst h;have e:jB (u,d,0) (32:UInt8).toNat=some ((u,d,0),[],):=by cases u <;> rfl
   rw[e];show g
  ·rw[h8 h]
def yH(h:skip b=c ::r):first b=c.toNat:=by
 unfold first;rw[h];rfl
def CK(h:skip b=[]):first b=0:=by
 unfold first;rw[h];rfl
def abR(h:skip b=c ::r):(skip b).drop 1=r:=by rw[h];rfl
abbrev N7(W:List Nat):Nat:=match W with
 |[]=>0
 |op ::_=>binds op
def VD(h:N7 W < m):dw m R W=(R,W,):=by
 cases W with
 |nil=>rfl
 |cons op W=>rw[dw,h8 (by show Nat.not_le.mpr h)]
def Nh(h:m<=binds g):dw m R (g ::W)=dw m (red g R) W:=by
 rw[dw,h9 h]
abbrev need(c:Nat):Nat:=if c=85\/c=82\/c=87 then 6 else if c=38 then 4 else if c=124\/c=45 then 3 else 1
def Sf(c:Nat):1<=need c:=by unfold need;((repeat' split) <;> lia)
def SF(h:need c<=binds z)(B:c=41\/lg c=true):take1 c (R,z ::W,)=take1 c (red z R,W,):=by
 unfold take1
 by_cases g:c=41
 ·simp only[h9 g];rw[Nh (cJ (Sf c) h)]
 ·have j:lg c=true:=B.resolve_left g
  have D:jC c=true:=by
   unfold lg at j;unfold jC;simp only[bw,beq_iff_eq] at j ⊢;lia
  simp only[h8 g,h9 D]
  have hd:gq c<=binds z:=by
   show cJ ?_ h;unfold lg at j;simp only[bw,beq_iff_eq] at j;unfold gq need
   repeat' split
   all_goals lia
  rw[Nh hd]
def yw(h:a≠0):AQ (u,d,a)=false:=by
 unfold AQ;simp[h]
def abc(h:3<=binds g)(b:Bytes):run (false,d,1) (R,g ::W,) b=run (false,d,1) (red g R,W,) b:=by
 cases b with
 |nil=>rw[run,run,yw (by decide)];rfl
 |cons c b=>
  rw[run,run]
  by_cases e:c.toNat=62
  ·have:jB (false,d,1) c.toNat=some ((true,d,0),[45],):=by rw[e];rfl
   rw[this];change run _ (take1 45 (R,g ::W,)) b=run _ (take1 45 (red g R,W,)) b
   have:take1 45 (R,g ::W,)=take1 45 (red g R,W,):=by
    change((dw 3 R (g ::W)).1,45 ::(dw 3 R (g ::W)).2,)=_;rw[Nh h];rfl
   rw[this]
  ·have:jB (false,d,1) c.toNat=none:=by change(if c.toNat=62 then _ else none)=none;rw[h8 e]
   rw[this]
def aai(h:1<=binds g)(b:Bytes):run (false,d,3) (R,g ::W,) b=run (false,d,3) (red g R,W,) b:=by
 cases b with
 |nil=>rw[run,run,yw (by decide)];rfl
 |cons c b=>
  rw[run,run]
  by_cases e:c.toNat=62
  ·have:jB (false,d,3) c.toNat=some ((true,d,0),[60],):=by rw[e];rfl
   rw[this];change run _ (take1 60 (R,g ::W,)) b=run _ (take1 60 (red g R,W,)) b
   have:take1 60 (R,g ::W,)=take1 60 (red g R,W,):=by
    change((dw 1 R (g ::W)).1,60 ::(dw 1 R (g ::W)).2,)=_;rw[Nh h];rfl
   rw[this]
  ·have:jB (false,d,3) c.toNat=none:=by change(if c.toNat=62 then _ else none)=none;rw[h8 e]
   rw[this]
def abu(h:1<=binds g)(b:Bytes):run (false,d,2) (R,g ::W,) b=run (false,d,2) (red g R,W,) b:=by
 cases b with
 |nil=>rw[run,run,yw (by decide)];rfl
 |cons c b=>
  rw[run,run]
  by_cases e:c.toNat=45
  ·have:jB (false,d,2) c.toNat=some ((false,d,3),[],):=by rw[e];rfl
   rw[this];show aai h b
  ·have:jB (false,d,2) c.toNat=none:=by change(if c.toNat=45 then _ else none)=none;rw[h8 e]
   rw[this]
def R8(h1:c≠45)(h2:c≠60)(g:c≠32):jB (sN d) c=if c=41/\0 < d then some ((false,d - 1,0),[c],) else if lg c=true then some ((true,d,0),[c],) else none:=by
 change(if (false=false/\c=45) then _ else if (false=false/\c=60) then _ else if c=32 then _ else _)=_;rw[h8 (),h8 (),h8 g];rfl
def acT(g:c≠32):jB (sD d) c=if c=40 then some ((true,d+1,0),[c],) else if iD c=true then some ((false,d,0),[c],) else if kW c=true then some ((true,d,0),[c],) else none:=by
 unfold jB;rw[h8 ⋯,h8 ⋯,h8 ⋯,h8 ⋯,h8 ⋯,h8 g,h9 rfl]
def Fy(h:need (first r)<=binds D):run (sN d) (R,D ::W,) r=run (sN d) (red D R,W,) r:=by
 rw[wN,wN false d (red D R,W,) r];rcases tI r with e|⟨c,B,e,N⟩
 ·rw[e];rw[run,run]
  have:finish (R,D ::W,)=finish (red D R,W,):=by
   unfold finish;rw[Nh (cJ (Sf _) h)]
  rw[this]
 ·rw[yH e] at h;rw[e,run,run];have J:=Vy N
  by_cases g:c.toNat=45
  ·have:jB (false,d,0) c.toNat=some ((false,d,1),[],):=by rw[g];rfl
   rw[this];show abc ?_ B;rw[g] at h;show h
  ·by_cases j:c.toNat=60
   ·have:jB (false,d,0) c.toNat=some ((false,d,2),[],):=by rw[j];rfl
    rw[this];show abu ?_ B;rw[j] at h;show h
   ·rw[R8 g j J]
    by_cases z:c.toNat=41/\0 < d
    ·rw[h9 z];change run _ (take1 _ _) B=run _ (take1 _ _) B;rw[SF h (.inl z.1)]
    ·rw[h8 z]
     by_cases M:lg c.toNat=true
     ·rw[h9 M];change run _ (take1 _ _) B=run _ (take1 _ _) B;rw[SF h (.inr M)]
     ·rw[h8 M]
abbrev rW(c:Nat):Prop:=c≠85/\c≠82/\c≠87
abbrev rB(c:Nat):Prop:=rW c/\c≠38
abbrev rE(c:Nat):Prop:=rB c/\c≠124
abbrev rI(c:Nat):Prop:=rE c/\c≠45
abbrev rF(c:Nat):Prop:=rI c/\c≠60
def Zt(h:rW c):need c<=4:=by unfold rW at h;unfold need;((repeat' split) <;> lia)
def ac0(h:rB c):need c<=3:=by unfold rB rW at h;unfold need;((repeat' split) <;> lia)
def XO(h:rI c):need c<=1:=by unfold rI rE rB rW at h;unfold need;((repeat' split) <;> lia)
def Mu(g:lg (first b)=true):run (sN d) s b=run (sD d) (take1 (first b) s) ((skip b).drop 1):=by
 rcases tI b with e|⟨c,r,e,j⟩
 ·rw[CK e] at g;cases g
 ·rw[wN,yH e] at*;rw[e,run]
  have z:c.toNat=38\/c.toNat=124\/c.toNat=85\/c.toNat=82\/c.toNat=87:=by
   unfold lg at g;simp only[bw,beq_iff_eq] at g;lia
  rw[R8 () () (),h8 (),h9 g]
  rfl
def Wv{d:Nat}{s:List Form×List Nat}{b:Bytes}(h:first b=45):run (sN d) s b=match sign arrow b with
  | .error e=> .error e
  | .ok r=>run (sD d) (take1 45 s) r:=by
 rcases tI b with e|⟨c,r,e,B⟩
 ·rw[CK e] at h;cases h
 ·rw[wN];rw[yH e] at h;have g:c=45:=lW.mp h;subst g;unfold sign;simp only[e];rw[run];change run (false,d,1) s r=_
  cases r with
  |nil=>rw[run,yw (by decide)];rfl
  |cons x r=>
   rw[run]
   by_cases hx:x=62
   ·subst hx;rfl
   ·have:jB (false,d,1) x.toNat=none:=by change(if x.toNat=62 then _ else none)=none;show h8 (λe=>hx (lW.mp e))
    rw[this]
    have j:arrow.isPrefixOf (45 ::x ::r)=false:=by
     change(([45,62]:Bytes)).isPrefixOf (45 ::x ::r)=false;simp only[xq,cU,beq_eq_false_iff_ne];show .inr (.inl (d5 hx))
    rw[j]
    have z:common arrow (45 ::x ::r)=1:=by
     change(if (45:UInt8)=45 then(if (62:UInt8)=x then _ else 0)+1 else 0)=1;rw[h9 rfl,h8 (d5 hx)]
    simp only[z];simp
def ZK{d:Nat}{s:List Form×List Nat}{b:Bytes}(h:first b=60):run (sN d) s b=match sign both_ b with
  | .error e=> .error e
  | .ok r=>run (sD d) (take1 60 s) r:=by
 rcases tI b with e|⟨c,r,e,D⟩
 ·rw[CK e] at h;cases h
 ·rw[wN];rw[yH e] at h;have j:c=60:=lW.mp h;subst j;unfold sign;simp only[e];rw[run];change run (false,d,2) s r=_
  cases r with
  |nil=>rw[run,yw (by decide)];rfl
  |cons x r=>
   rw[run]
   by_cases hx:x=45
   ·subst hx;change run (false,d,3) s r=_
    cases r with
    |nil=>rw[run,yw (by decide)];rfl
    |cons y r=>
     rw[run]
     by_cases g:y=62
     ·subst g;rfl
     ·have:jB (false,d,3) y.toNat=none:=by change(if y.toNat=62 then _ else none)=none;show h8 (λe=>g (lW.mp e))
      rw[this]
      have z:both_.isPrefixOf (60 ::45 ::y ::r)=false:=by
       change(([60,45,62]:Bytes)).isPrefixOf (60 ::45 ::y ::r)=false;simp only[xq,cU,beq_eq_false_iff_ne];show .inr (.inr (.inl (d5 g)))
      rw[z]
      have B:common both_ (60 ::45 ::y ::r)=2:=by
       change(if (60:UInt8)=60 then(if (45:UInt8)=45 then(if (62:UInt8)=y then _ else 0)+1 else 0)+1 else 0)=2;rw[h9 rfl,h9 rfl,h8 (d5 g)]
      simp only[B];simp
   ·have:jB (false,d,2) x.toNat=none:=by change(if x.toNat=45 then _ else none)=none;show h8 (λe=>hx (lW.mp e))
    rw[this]
    have z:both_.isPrefixOf (60 ::x ::r)=false:=by
     change(([60,45,62]:Bytes)).isPrefixOf (60 ::x ::r)=false;simp only[xq,cU,beq_eq_false_iff_ne];show .inr (.inl (d5 hx))
    rw[z]
    have B:common both_ (60 ::x ::r)=1:=by
     change(if (60:UInt8)=60 then(if (45:UInt8)=x then _ else 0)+1 else 0)=1;rw[h9 rfl,h8 (d5 hx)]
    simp only[B];simp
abbrev Xw(x:Bytes->Got)(b:Bytes)(m:Nat):Prop:=∀d R W,N7 W<=m->run (sD d) (R,W,) b=MQ (x b) λf r=>run (sN d) (f ::R,W,) r
abbrev Eqs(x:Form->Bytes->Got)(b:Bytes)(m:Nat):Prop:=∀f d R W,N7 W<=m->run (sN d) (f ::R,W,) b=MQ (x f b) λg r=>run (sN d) (g ::R,W,) r
structure Lev(n:Nat):Prop where
 one:∀b,↑b<=n->Xw PB b 6
 while_:∀b,↑b<=n->Xw xa b 5/\∀f r,xa b= .ok (f,r,)->rW (first r)
 boths:∀b,↑b<=n->rW (first b)->Eqs Ed b 3/\∀f g r,Ed f b= .ok (g,r,)->rB (first r)
 both:∀b,↑b<=n->Xw Gq b 3/\∀f r,Gq b= .ok (f,r,)->rB (first r)
 eithers:∀b,↑b<=n->rB (first b)->Eqs wX b 2/\∀f g r,wX f b= .ok (g,r,)->rE (first r)
 either:∀b,↑b<=n->Xw yg b 2/\∀f r,yg b= .ok (f,r,)->rE (first r)
 implies:∀b,↑b<=n->Xw qi b 2/\∀f r,qi b= .ok (f,r,)->rI (first r)
 formulas:∀b,↑b<=n->rI (first b)->Eqs um b 0/\∀f g r,um f b= .ok (g,r,)->rF (first r)
 formula:∀b,↑b<=n->Xw vd b 0/\∀f r,vd b= .ok (f,r,)->rF (first r)
def r9(h:vK x k= .ok (f,r,)):∃g s,x= .ok (g,s,)/\k g s= .ok (f,r,):=by
 cases x with
 |error e=>cases h
 |ok p=>show(p.1,p.2,rfl,h)
def Bk(h:jC c=true)(j:N7 W < gq c):take1 c (R,W,)=(R,c ::W,):=by
 have g:c≠41:=λe=>by rw[e] at h;cases h
 unfold take1;rw[h8 g,h9 h];simp only;rw[VD j]
section
variable{n:Nat}(I:∀m,m < n->Lev m)
include I
def VM(b:Bytes)(hb:↑b<=n):Xw PB b 6:=by
 intro d R W _;rw[aaP,wN];rcases tI b with e|⟨c,r,e,hc⟩
 ·rw[CK e];simp only[e];rw[run];rfl
 ·have hlen:↑r < ↑b:=by have:=Qm b;rw[e] at this;simp at this;lia
  have B:=Vy hc;rw[abR e,yH e,e,run,acT B]
  by_cases h1:c.toNat=33\/c.toNat=88\/c.toNat=70\/c.toNat=71
  ·have hu:kW c.toNat=true:=by unfold kW;simp only[bw,beq_iff_eq];lia
   have g:¬iD c.toNat=true:=by unfold iD;simp only[bw,bf,decide_eq_true_eq,beq_iff_eq];lia
   rw[h9 h1,h8 (),h8 g,h9 hu,jg];change run (sD d) (take1 c.toNat (R,W,)) r=_
   have D:take1 c.toNat (R,W,)=(R,c.toNat ::W,):=by
    unfold take1;rw[h8 (),h8 (by unfold jC;simp only[bw,beq_iff_eq];lia),h9 (.inr hu)]
   have J:binds c.toNat=6:=by unfold binds;((repeat' split) <;> lia)
   rw[D,(I ↑r ()).one r (aT _) d R (c.toNat ::W) (by change binds _<=6;lia)];show jf λf s _=>?_;rw[Fy (by rw[J];unfold need;((repeat' split) <;> lia))];change run (sN d) (red c.toNat (f ::R),W,) s=run (sN d) (QD c.toNat f ::R,W,) s;unfold red;rw[h9 hu]
  ·rw[h8 h1]
   by_cases h2:c.toNat=40
   ·rw[h9 h2,h9 h2,jg];change run (sD (d+1)) (take1 c.toNat (R,W,)) r=_;have D:take1 c.toNat (R,W,)=(R,40 ::W,):=by rw[h2];rfl
    rw[D,((I ↑r ()).formula r (aT _)).1 (d+1) R (40 ::W) (by change binds 40<=0;decide)];show jf λf s es=>?_;have U:=((I ↑r ()).formula r (aT _)).2 f s es;unfold Vq sign;rw[wN];rcases tI s with z|⟨x,s',z,hx⟩
    ·simp only[z];rw[run];rfl
    ·rw[yH z] at U;simp only[z];rw[run];unfold rF rI rE rB rW at U
     by_cases j:x=41
     ·subst j;have:jB (false,d+1,0) (41:UInt8).toNat=some ((false,d,0),[41],):=rfl;rw[this];change run (sN d) (take1 41 (f ::R,40 ::W,)) s'=run (sN d) (f ::R,W,) s'
      have M:take1 41 (f ::R,40 ::W,)=(f ::R,W,):=by
       unfold take1;rw[h9 rfl];simp only;rw[VD (by change binds 40 < 1;decide)]
       rfl
      rw[M]
     ·have Y:x.toNat≠41:=λe=>j (lW.mp e);have hj:¬lg x.toNat=true:=by unfold lg;simp only[bw,beq_iff_eq];lia
      rw[R8 () () (Vy hx),h8 (),h8 hj]
      have hp:([41]:Bytes).isPrefixOf (x ::s')=false:=by
       simp only[xq,Ow,beq_eq_false_iff_ne];show d5 j
      have hq:common [41] (x ::s')=0:=by
       change(if (41:UInt8)=x then _ else 0)=0;rw[h8 (d5 j)]
      simp only[hp,hq]
      rfl
   ·rw[h8 h2,h8 h2]
    have N:iD c.toNat=true->take1 c.toNat (R,W,)=(leafOf c.toNat ::R,W,):=λg=>by
     unfold iD at g;simp only[bw,bf,decide_eq_true_eq,beq_iff_eq] at g;unfold take1;rw[h8 (),h8 (by unfold jC;simp only[bw,beq_iff_eq];lia),h8 (by unfold kW;simp only[bw,beq_iff_eq];lia)]
    by_cases Z:97<=c.toNat/\c.toNat<=112
    ·have g:iD c.toNat=true:=by unfold iD;simp only[bw,bf,decide_eq_true_eq,beq_iff_eq];lia
     rw[h9 Z,h9 g];change run (sN d) (take1 c.toNat (R,W,)) r=run (sN d) (.prop (c.toNat - 97) ::R,W,) r;rw[N g];unfold leafOf;rw[h8 (),h8 ()]
    ·rw[h8 Z]
     by_cases O:c.toNat=48
     ·rw[h9 O,O];rfl
     ·rw[h8 O]
      by_cases Q:c.toNat=49
      ·rw[h9 Q,Q];rfl
      ·rw[h8 Q];have g:¬iD c.toNat=true:=by unfold iD;simp only[bw,bf,decide_eq_true_eq,beq_iff_eq];lia
       have hu:¬kW c.toNat=true:=by unfold kW;simp only[bw,beq_iff_eq];lia
       rw[h8 g,h8 hu]
       rfl
def O9(b:Bytes)(J:↑b<=n):Xw xa b 5/\∀f r,xa b= .ok (f,r,)->rW (first r):=by
 rw[O3];have key:∀f r,PB b= .ok (f,r,)->↑r < ↑b:=λf r e=>(g7 _).one _ f r e;constructor
 ·intro d R W Z;rw[VM I b J d R W (),show xa b=vK (PB b) J1 from O3 b,jg];show jf λf r er=>?_;have hr:=key f r er;unfold J1
  by_cases z:first r=85\/first r=82\/first r=87
  ·have M:lg (first r)=true:=by unfold lg;simp only[bw,beq_iff_eq];lia
   have B:jC (first r)=true:=by unfold jC;simp only[bw,beq_iff_eq];lia
   have N:gq (first r)=6:=by unfold gq;((repeat' split) <;> lia)
   have O:binds (first r)=5:=by unfold binds;((repeat' split) <;> lia)
   rw[h9 z,jg,Mu M,Bk B ()];have hd:=jW (b:=r) ();have L:=(I ↑((skip r).drop 1) ()).while_ _ (aT _);rw[L.1 d (f ::R) (first r ::W) (by change binds _<=5;lia)];show jf λg s es=>?_;have:=Zt (L.2 g s es);rw[Fy ()];change run (sN d) (red (first r) (g ::f ::R),W,) s=run (sN d) (Uh (first r) f g ::R,W,) s;unfold red;rw[h8 (by unfold kW;simp only[bw,beq_iff_eq];lia)];simp only;unfold MO;rw[h8 (),h8 (),h8 (),h8 ()]
  ·rw[h8 z];rfl
 ·intro f r e;let(g,s,Q,j):=r9 e;have hs:=key g s Q;unfold J1 at j
  by_cases z:first s=85\/first s=82\/first s=87
  ·rw[h9 z] at j;let(h,t,U,Y):=r9 j;have hd:=jW (b:=s) ();have:=((I ↑((skip s).drop 1) ()).while_ _ (aT _)).2 h t U;have D:=eI (kS Y);rw[←D.2];show this
  ·rw[h8 z] at j;have D:=eI (kS j);rw[←D.2];unfold rW;lia
def J8(b:Bytes)(Q:↑b<=n)(J:rW (first b)):Eqs Ed b 3/\∀f g r,Ed f b= .ok (g,r,)->rB (first r):=by
 by_cases z:first b=38
 ·have hd:=jW (b:=b) ();have L:=(I ↑((skip b).drop 1) ()).while_ _ (aT _);constructor
  ·intro f d R W j;rw[FD,h9 z,jg,Mu (by rw[z];rfl),Bk (by rw[z];rfl) (by rw[z];change N7 W < 4;lia)];rw[L.1 d (f ::R) (first b ::W) (by change binds _<=5;rw[z];decide)];show jf λg s es=>?_;have M:↑s < ↑((skip b).drop 1):=(g7 _).while_ _ g s es;have B:=L.2 g s es;rw[Fy (by rw[z];show Zt B)];rw[z];show((I ↑s ()).boths s (aT _) B).1 (.and f g) d R W j
  ·intro f g r e;rw[FD,h9 z] at e;let(h,s,D,N):=r9 e;have M:↑s < ↑((skip b).drop 1):=(g7 _).while_ _ h s D;show((I ↑s ()).boths s (aT _) (L.2 h s D)).2 _ g r N
 ·constructor
  ·intro f d R W j;rw[FD,h8 z];rfl
  ·intro f g r e;rw[FD,h8 z] at e;have O:=eI (kS e);rw[←O.2];show(J,z)
def SO(b:Bytes)(B:↑b<=n):Xw Gq b 3/\∀f r,Gq b= .ok (f,r,)->rB (first r):=by
 have key:∀f r,xa b= .ok (f,r,)->↑r < ↑b:=λf r e=>(g7 _).while_ _ f r e;have j:=O9 I b B;constructor
 ·intro d R W D;rw[j.1 d R W (),SA,jg];show jf λf r er=>?_;have:=key f r er;show(J8 I r () (j.2 f r er)).1 f d R W D
 ·intro f r e;rw[SA] at e;let(g,s,z,J):=r9 e;have:=key g s z;show(J8 I s () (j.2 g s z)).2 g f r J
def EK(b:Bytes)(Q:↑b<=n)(J:rB (first b)):Eqs wX b 2/\∀f g r,wX f b= .ok (g,r,)->rE (first r):=by
 by_cases z:first b=124
 ·have hd:=jW (b:=b) ();have L:=(I ↑((skip b).drop 1) ()).both _ (aT _);constructor
  ·intro f d R W j;rw[zX,h9 z,jg,Mu (by rw[z];rfl),Bk (by rw[z];rfl) (by rw[z];change N7 W < 3;lia)];rw[L.1 d (f ::R) (first b ::W) (by change binds _<=3;rw[z];decide)];show jf λg s es=>?_;have M:↑s < ↑((skip b).drop 1):=(g7 _).both _ g s es;have B:=L.2 g s es;rw[Fy (by rw[z];show ac0 B)];rw[z];show((I ↑s ()).eithers s (aT _) B).1 (.or f g) d R W j
  ·intro f g r e;rw[zX,h9 z] at e;let(h,s,D,N):=r9 e;have M:↑s < ↑((skip b).drop 1):=(g7 _).both _ h s D;show((I ↑s ()).eithers s (aT _) (L.2 h s D)).2 _ g r N
 ·constructor
  ·intro f d R W j;rw[zX,h8 z];rfl
  ·intro f g r e;rw[zX,h8 z] at e;have O:=eI (kS e);rw[←O.2];show(J,z)
def MR(b:Bytes)(B:↑b<=n):Xw yg b 2/\∀f r,yg b= .ok (f,r,)->rE (first r):=by
 have key:∀f r,Gq b= .ok (f,r,)->↑r < ↑b:=λf r e=>(g7 _).both _ f r e;have j:=SO I b B;constructor
 ·intro d R W D;rw[j.1 d R W (),M4,jg];show jf λf r er=>?_;have:=key f r er;show(EK I r () (j.2 f r er)).1 f d R W D
 ·intro f r e;rw[M4] at e;let(g,s,z,J):=r9 e;have:=key g s z;show(EK I s () (j.2 g s z)).2 g f r J
def Lh(b:Bytes)(M:↑b<=n):Xw qi b 2/\∀f r,qi b= .ok (f,r,)->rI (first r):=by
 have key:∀f r,yg b= .ok (f,r,)->↑r < ↑b:=λf r e=>(g7 _).either _ f r e;have LE:=MR I b M;constructor
 ·intro d R W N;rw[LE.1 d R W N,Ld,jg];show jf λf r er=>?_;have U:=key f r er;unfold ES
  by_cases z:first r=45
  ·rw[h9 z,Wv z]
   cases B:sign arrow r with
   |error x=>rfl
   |ok c=>
    have h1:=u_ (by decide) B;simp only;rw[jg,Bk (by rfl) (by change N7 W < 3;lia)];have L:=(I ↑c ()).implies c (aT _);rw[L.1 d (f ::R) (45 ::W) (by change binds 45<=2;decide)];show jf λg s es=>?_;rw[Fy (cJ (XO (L.2 g s es)) (by decide))]
    rfl
  ·rw[h8 z];rfl
 ·intro f r e;rw[Ld] at e;let(g,s,B,j):=r9 e;have Y:=key g s B;unfold ES at j
  by_cases z:first s=45
  ·rw[h9 z] at j
   cases D:sign arrow s with
   |error x=>rw[D] at j;cases j
   |ok c=>
    rw[D] at j;have h1:=u_ (by decide) D;let(h,t,O,J):=r9 j;have:=((I ↑c ()).implies c (aT _)).2 h t O;have Q:=eI (kS J);rw[←Q.2];show this
  ·rw[h8 z] at j;have J:=eI (kS j);rw[←J.2];show(LE.2 g s B,z)
def Ci(b:Bytes)(U:↑b<=n)(M:rI (first b)):Eqs um b 0/\∀f g r,um f b= .ok (g,r,)->rF (first r):=by
 by_cases z:first b=60
 ·constructor
  ·intro f d R W B;rw[xT,h9 z,ZK z]
   cases j:sign both_ b with
   |error x=>rfl
   |ok c=>
    have h1:=u_ (by decide) j;simp only;have L:=(I ↑c ()).implies c (aT _);rw[jg,Bk (by rfl) (by change N7 W < 1;lia)];rw[L.1 d (f ::R) (60 ::W) (by change binds 60<=2;decide)];show jf λg s es=>?_;have N:↑s < ↑c:=(g7 _).implies _ g s es;have D:=L.2 g s es;rw[Fy (cJ (XO D) (by decide))];show((I ↑s ()).formulas s (aT _) D).1 (.same f g) d R W B
  ·intro f g r e;rw[xT,h9 z] at e
   cases j:sign both_ b with
   |error x=>rw[j] at e;cases e
   |ok c=>
    rw[j] at e;have h1:=u_ (by decide) j;let(h,s,J,O):=r9 e;have N:↑s < ↑c:=(g7 _).implies _ h s J;show((I ↑s ()).formulas s (aT _) (((I ↑c ()).implies c (aT _)).2 h s J)).2 _ g r O
 ·constructor
  ·intro f d R W B;rw[xT,h8 z];rfl
  ·intro f g r e;rw[xT,h8 z] at e;have Q:=eI (kS e);rw[←Q.2];show(M,z)
def Sa(b:Bytes)(B:↑b<=n):Xw vd b 0/\∀f r,vd b= .ok (f,r,)->rF (first r):=by
 have key:∀f r,qi b= .ok (f,r,)->↑r < ↑b:=λf r e=>(g7 _).implies _ f r e;have j:=Lh I b B;constructor
 ·intro d R W D;rw[j.1 d R W (),Lf,jg];show jf λf r er=>?_;have:=key f r er;show(Ci I r () (j.2 f r er)).1 f d R W D
 ·intro f r e;rw[Lf] at e;let(g,s,z,J):=r9 e;have:=key g s z;show(Ci I s () (j.2 g s z)).2 g f r J
def Zb:Lev n:=(VM I,O9 I,J8 I,SO I,EK I,MR I,Lh I,Ci I,Sa I)
end
def lev(n:Nat):Lev n:=by
 induction n using lX with
 |ind n g=>show Zb g
def run_read(b:Bytes):yy b=match run (sD 0) ([],[],) b with
  | .error e=> .error (↑b - e)
  | .ok f=> .ok f:=by
 have L:=(lev ↑b).formula b (aT _);rw[ab0,L.1 0 [] [] (aT _)]
 cases e:vd b with
 |error x=>rfl
 |ok p=>
  have j:=L.2 p.1 p.2 e
  change(if skip p.2=[] then Px p.1 else CU (↑b - ↑(skip p.2)))=match run (sN 0) ([p.1],[],) p.2 with
   |CU e=>CU (↑b - e)
   |Px f=>Px f
  rw[wN];rcases tI p.2 with g|⟨x,s',g,hx⟩
  ·rw[g,h9 rfl];rfl
  ·rw[g,h8 ⋯];rw[yH g] at j;unfold rF rI rE rB rW at j;rw[run];have z:¬lg x.toNat=true:=by unfold lg;simp only[bw,beq_iff_eq];lia
   rw[R8 () () (Vy hx),h8 (),h8 z]
   rfl
inductive Kd where
 |fS|never|always|not|and|or|alike|next|De|unless
 deriving DecidableEq
structure Nd where
 k:Kd
 l:Nat
 r:Nat
 deriving DecidableEq
abbrev Kd.eX:Kd->Bool
 | .next=>true
 | .De=>true
 | .unless=>true
 |_=>false
abbrev Kd.leaf:Kd->Bool
 | .fS=>true
 | .never=>true
 | .always=>true
 |_=>false
abbrev build{α β:Type}(g:List α->β->α)(ns:List β):List α:=ns.foldl (λacc n=>acc++[g acc n]) []
def Cu(g:List α->β->α)(ns:List β)(n:β):build g (ns++[n])=build g ns++[g (build g ns) n]:=by
 unfold build;rw[mi];rfl
def snoc_cases(ns:List β):ns=[]\/∃ms n,ns=ms++[n]:=by
 rcases DW ns with h|⟨ms,n,h⟩
 ·show .inl h
 ·show .inr (ms,n,by simpa using h)
def snoc_ind{C:List β->Prop}(g:C [])(h1:∀ms n,C ms->C (ms++[n]))(ns:List β):C ns:=by
 have:∀k (ns:List β),↑ns=k->C ns:=by
  intro k
  induction k with
  |zero=>intro ns e;rw[j7.mp e];show g
  |succ k j=>
   intro ns e;rcases snoc_cases ns with rfl|⟨ms,n,rfl⟩
   ·cases e
   ·show h1 ms n (j ms (by simp at e;show e))
 show this _ ns rfl
def l_(g:List α->β->α)(ns:List β):↑(build g ns)=↑ns:=by
 show snoc_ind (C:=λns=>↑(build g ns)=↑ns) rfl (λms n j=>?_) ns;rw[Cu,aY,aY,j];rfl
def CJ(g:List α->β->α)(ns ms:List β):(build g (ns++ms)).take ↑ns=build g ns:=by
 show snoc_ind (C:=λms=>(build g (ns++ms)).take ↑ns=build g ns) ?_ (λms n j=>?_) ms
 ·rw[fL,←l_ g ns,dC]
 ·rw[←bO,Cu,List.take_append_of_le_length (by rw[l_,aY];lia),j]
def Kf(g:List α->β->α)(h:ns[p]? =some n):(build g ns)[p]? =some (g ((build g ns).take p) n):=by
 have z:p < ↑ns:=(aX.mp h).1
 have e:ns=ns.take p++(n ::ns.drop (p+1)):=by
  have:n ::ns.drop (p+1)=ns.drop p:=by
   rw[dN z];congr 1;show(bQ ((aS z).symm.trans h)).symm
  rw[this,vN]
 have j:↑(ns.take p)=p:=by rw[cK];lia
 have B:(build g ns).take p=build g (ns.take p):=by
  conv=>lhs;rw[e]
  have:=CJ g (ns.take p) (n ::ns.drop (p+1));rw[j] at this;show this
 have D:(build g ns).take (p+1)=build g (ns.take p)++[g (build g (ns.take p)) n]:=by
  conv=>lhs;rw[e,show ns.take p++n ::ns.drop (p+1)=(ns.take p++[n])++ns.drop (p+1) by simp]
  have:=CJ g (ns.take p++[n]) (ns.drop (p+1));rw[aY,j] at this;rw[Cu] at this;show this
 have:((build g ns).take (p+1))[p]? =(build g ns)[p]? :=by rw[t9];simp
 rw[←this,D,B,cX (by rw[l_,j];show aT _),l_,j,vo];rfl
abbrev VY(F:List Form)(n:Nd):Form:=match n.k with
 | .fS=> .prop n.l
 | .never=> .no
 | .always=> .yes
 | .not=> .not (F.getD n.l .no)
 | .and=> .and (F.getD n.l .no) (F.getD n.r .no)
 | .or=> .or (F.getD n.l .no) (F.getD n.r .no)
 | .alike=> .same (F.getD n.l .no) (F.getD n.r .no)
 | .next=> .next (F.getD n.l .no)
 | .De=> .till (F.getD n.l .no) (F.getD n.r .no)
 | .unless=> .weak (F.getD n.l .no) (F.getD n.r .no)
abbrev YE(ns:List Nd):List Form:=build VY ns
abbrev cv(ns:List Nd)(p:Nat):Form:=(YE ns).getD p .no
structure Ok(ns:List Nd):Prop where
 nd:ns.Nodup
 inner:∀(p:Nat) (n:Nd),ns[p]? =some n->n.k.leaf=false->n.l < p/\n.r < p
 fS:∀(p:Nat) (n:Nd),ns[p]? =some n->n.k= .fS->n.l < 16/\n.r=0
 leaf:∀(p:Nat) (n:Nd),ns[p]? =some n->n.k.leaf=true->n.r=0
def uq{l:List α}{d:α}(h:i < p):(l.take p).getD i d=l.getD i d:=by
 rw[ba,ba,t9,h9 h]
def eh{l:List α}{x d:α}(h:l[i]? =some x):l.getD i d=x:=by
 rw[ba,h];rfl
abbrev Z8(k:Kd)(l:Nat)(f g:Form):Form:=match k with
 | .fS=> .prop l
 | .never=> .no
 | .always=> .yes
 | .not=> .not f
 | .and=> .and f g
 | .or=> .or f g
 | .alike=> .same f g
 | .next=> .next f
 | .De=> .till f g
 | .unless=> .weak f g
def qw(ok:Ok ns)(h:ns[p]? =some n):cv ns p=Z8 n.k n.l (cv ns n.l) (cv ns n.r):=by
 unfold cv YE;rw[eh (Kf VY h)];unfold VY Z8;have hi:=ok.inner p n h
 cases e:n.k <;> simp only[e,Kd.leaf] at hi ⊢
 all_goals (simp only[cQ,forall_const,lC,false_implies] at hi)
 all_goals (try rw[uq hi.1])
 all_goals (try rw[uq hi.2])
 all_goals rfl
def MV(h:p < ↑ns):cv (ns++ms) p=cv ns p:=by
 unfold cv YE;rw[←CJ VY ns ms,uq h]
abbrev nY(ns:List Nd)(n:Nd):List Nd×Nat:=if n∈ns then(ns,ns.idxOf n,) else(ns++[n],↑ns,)
structure vY(ns g:List Nd)(a b:Nat):Prop where
 ok:Ok g
 ext:∃ms,g=ns++ms
 len:↑g<=↑ns+a
 times:↑(g.filter λn=>n.k.eX)<=↑(ns.filter λn=>n.k.eX)+b
def vY.refl(ok:Ok ns):vY ns ns 0 0:=(ok,([],⋯),aT _,aT _)
def vY.trans(g:vY n1 n2 a b)(h:vY n2 n3 c d):vY n1 n3 (a+c) (b+d):=by
 let(ms,e):=g.ext;let(j,z):=h.ext;show(h.ok,(ms++j,by rw[z,e,bO]),by have:=g.len;have:=h.len;lia,by have:=g.times;have:=h.times;lia)
def vY.mono(g:vY ns j a b)(h:a<=z)(k:b<=B):vY ns j z B:=(g.ok,g.ext,cJ g.len (),cJ g.times ())
def vY.cv{ns j:List Nd}{a b:Nat}(g:vY ns j a b){p:Nat}(h:p < ↑ns):cv j p=cv ns p:=by
 let(ms,e):=g.ext;rw[e,MV h]
def vY.le(g:vY ns j a b):↑ns<=↑j:=by
 let(ms,e):=g.ext;rw[e,aY];lia
def Fq(ok:Ok ns)(hi:n.k.leaf=false->n.l < ↑ns/\n.r < ↑ns)(B:n.k= .fS->n.l < 16/\n.r=0)(D:n.k.leaf=true->n.r=0):
  vY ns (nY ns n).1 1 (if n.k.eX=true then 1 else 0)/\(nY ns n).2 < ↑(nY ns n).1/\(nY ns n).1[(nY ns n).2]? =some n:=by
 unfold nY
 by_cases h:n∈ns
 ·rw[h9 h];have hx:=gP.mpr h;show((ok,([],⋯),⋯,⋯),hx,?_);rw[aS hx];show congrArg some (oq hx)
 ·rw[h8 h]
  have cs:∀p m,(ns++[n])[p]? =some m->ns[p]? =some m\/(p=↑ns/\m=n):=by
   intro p m e
   by_cases J:p < ↑ns
   ·rw[eU J] at e;show .inl e
   ·rw[cX ()] at e
    cases g:p - ↑ns with
    |zero=>rw[g] at e;show .inr ((),(bQ e).symm)
    |succ q=>rw[g] at e;simp at e
  show(((?_,?_,?_,?_),([n],rfl),⋯,?_),⋯,⋯)
  ·rw[me];show(ok.nd,⋯,λa M b j e=>h ?_);rw[bz] at j;rw[←j,←e];show M
  ·intro p m e;rcases cs p m e with e|⟨rfl,rfl⟩
   ·show ok.inner p m e
   ·show hi
  ·intro p m e;rcases cs p m e with e|⟨rfl,rfl⟩
   ·show ok.fS p m e
   ·show B
  ·intro p m e;rcases cs p m e with e|⟨rfl,rfl⟩
   ·show ok.leaf p m e
   ·show D
  ·rw[hJ,aY]
   by_cases z:n.k.eX=true
   ·simp[z]
   ·simp[z]
def Oy(ok:Ok ns)(hi:n.k.leaf=false->n.l < ↑ns/\n.r < ↑ns)(j:n.k= .fS->n.l < 16/\n.r=0)(z:n.k.leaf=true->n.r=0):
  cv (nY ns n).1 (nY ns n).2=Z8 n.k n.l (cv ns n.l) (cv ns n.r):=by
 let(g,h1,h2):=Fq ok hi j z;rw[qw g.ok h2]
 cases e:n.k.leaf with
 |false=>rw[g.cv (hi e).1,g.cv (hi e).2]
 |true=>
  unfold Z8
  cases B:n.k <;> simp only[B,Kd.leaf] at e ⊢
  all_goals cases e
abbrev evN(L:Nat->Bool)(o:Nat->Bool)(E:List Bool)(n:Nd):Bool:=match n.k with
 | .fS=>L n.l
 | .never=>false
 | .always=>true
 | .not=>!E.getD n.l false
 | .and=>E.getD n.l false && E.getD n.r false
 | .or=>E.getD n.l false || E.getD n.r false
 | .alike=>E.getD n.l false==E.getD n.r false
 | .next=>o ↑E
 | .De=>E.getD n.r false || (o ↑E && E.getD n.l false)
 | .unless=>E.getD n.r false || (o ↑E && E.getD n.l false)
abbrev evs(ns:List Nd)(L:Nat->Bool)(o:Nat->Bool):List Bool:=build (evN L o) ns
abbrev ev(ns:List Nd)(L:Nat->Bool)(o:Nat->Bool)(p:Nat):Bool:=(evs ns L o).getD p false
abbrev mkE(k:Kd)(x o a b:Bool):Bool:=match k with
 | .fS=>x
 | .never=>false
 | .always=>true
 | .not=>!a
 | .and=>a && b
 | .or=>a || b
 | .alike=>a==b
 | .next=>o
 | .De=>b || (o && a)
 | .unless=>b || (o && a)
def ML(ok:Ok ns)(h:ns[p]? =some n):ev ns L o p=mkE n.k (L n.l) (o p) (ev ns L o n.l) (ev ns L o n.r):=by
 have j:p < ↑ns:=(aX.mp h).1;unfold ev evs;rw[eh (Kf (evN L o) h)];have g:↑((build (evN L o) ns).take p)=p:=by rw[cK,l_];lia
 generalize build (evN L o) ns=B at g ⊢;unfold evN mkE;have hi:=ok.inner p n h
 cases e:n.k <;> simp only[e,Kd.leaf] at hi ⊢
 all_goals (simp only[cQ,forall_const,lC,false_implies] at hi)
 all_goals (try rw[g])
 all_goals (try rw[uq hi.1])
 all_goals (try rw[uq hi.2])
 all_goals rfl
abbrev bef(ns:List Nd)(L:Nat->Bool)(o:Nat->Bool)(p:Nat):Bool:=match ns[p]? with
 |some (.next,l,_)=>ev ns L o l
 |_=>ev ns L o p
abbrev Dd(ns:List Nd)(L:Nat->Bool)(o:Nat->Bool)(p:Nat):Bool:=match ns[p]? with
 |some (.De,_,r)=>!ev ns L o p || ev ns L o r
 |some (.unless,l,_)=>ev ns L o p || !ev ns L o l
 |_=>true
section
variable{ns:List Nd}(ok:Ok ns){w:Nat->Nat}{o:Nat->Nat->Bool}
include ok
def XJ(L:Nat->Nat->Bool)(M:∀(p:Nat) (n:Nd),ns[p]? =some n->n.k= .fS->∀i,L i n.l=(w i).testBit n.l)(st:∀(i p:Nat) (n:Nd),ns[p]? =some n->n.k.eX=true->o i p=bef ns (L (i+1)) (o (i+1)) p)
  (yI:∀(p:Nat) (n:Nd),ns[p]? =some n->n.k.eX=true->∀N,∃i,N<=i/\Dd ns (L i) (o i) p=true):
  ∀p,p < ↑ns->∀i,ev ns (L i) (o i) p=true↔holds w (cv ns p) i:=by
 intro p
 induction p using lX with
 |ind p J=>
  intro O;obtain⟨n,g⟩:∃n,ns[p]? =some n:=(_,aS O);have hi:=ok.inner p n g;have B:=λi=>st i p n g;have D:=yI p n g;rw[qw ok g];have E:∀i,ev ns (L i) (o i) p=mkE n.k (L i n.l) (o i p) (ev ns (L i) (o i) n.l) (ev ns (L i) (o i) n.r):=λi=>ML ok g;let(k,l,r):=n
  cases k <;> simp only[Kd.leaf,Kd.eX] at hi B D ⊢
  all_goals (simp only[cQ,forall_const,lC,false_implies] at hi B D)
  all_goals (try have j:=λi=>J l hi.1 () i)
  all_goals (try have z:=λi=>J r hi.2 () i)
  ·intro i;rw[E i];change L i l=true↔(w i).testBit l=true;rw[M p _ g rfl i]
  ·intro i;rw[E i];change false=true↔False;simp
  ·intro i;rw[E i];change true=true↔True;simp
  ·intro i;rw[E i];change(!ev ns (L i) (o i) l)=true↔¬holds w _ i;rw[←j i];simp
  ·intro i;rw[E i];change(ev ns (L i) (o i) l && ev ns (L i) (o i) r)=true↔holds w _ i/\holds w _ i;rw[←j i,←z i];simp
  ·intro i;rw[E i];change(ev ns (L i) (o i) l || ev ns (L i) (o i) r)=true↔holds w _ i\/holds w _ i;rw[←j i,←z i];simp
  ·intro i;rw[E i];change(ev ns (L i) (o i) l==ev ns (L i) (o i) r)=true↔(holds w _ i↔holds w _ i);rw[←j i,←z i]
   cases ev ns (L i) (o i) l <;> cases ev ns (L i) (o i) r <;> simp
  ·intro i;rw[E i];change o i p=true↔holds w _ (i+1);rw[←j (i+1),B i];unfold bef;rw[g]
  ·show P4 (n:=λi=>ev ns (L i) (o i) p=true) (λi=>?_) (λN=>?_)
   ·change ev ns (L i) (o i) p=true↔holds w _ i\/(holds w _ i/\ev ns (L (i+1)) (o (i+1)) p=true);rw[←j i,←z i,E i,show ev ns (L (i+1)) (o (i+1)) p=o i p by rw[B i];unfold bef;rw[g]]
    change(_ || (_ && _))=true↔_;simp only[bw,bf];show(λh=>h.imp id λh=>(h.2,h.1),λh=>h.imp id λh=>(h.2,h.1))
   ·let(i,h1,h2):=D N;show(i,h1,?_);unfold Dd at h2;rw[g] at h2;simp only[bw,iz] at h2;rw[←z i];show h2.imp (λh=>by simp[h]) id
  ·show L3 (n:=λi=>ev ns (L i) (o i) p=true) (λi=>?_) (λN=>?_)
   ·change ev ns (L i) (o i) p=true↔holds w _ i\/(holds w _ i/\ev ns (L (i+1)) (o (i+1)) p=true);rw[←j i,←z i,E i,show ev ns (L (i+1)) (o (i+1)) p=o i p by rw[B i];unfold bef;rw[g]]
    change(_ || (_ && _))=true↔_;simp only[bw,bf];show(λh=>h.imp id λh=>(h.2,h.1),λh=>h.imp id λh=>(h.2,h.1))
   ·let(i,h1,h2):=D N;show(i,h1,?_);unfold Dd at h2;rw[g] at h2;simp only[bw,iz] at h2;rw[←j i];show h2.imp id (λh=>by simp[h])
end
end Pt
namespace Pt
abbrev sub(a b:Nat):Prop:=∀i,a.testBit i=true->b.testBit i=true
def Z1(a:Nat):sub a a:=λ_ h=>h
def uf(h:sub a b)(k:sub b c):sub a c:=λi e=>k i (h i e)
def sub_zero(a:Nat):sub 0 a:=λi h=>by rw[f9] at h;cases h
def IM(a b:Nat):sub a (a ||| b):=λi e=>by rw[de,e];rfl
def sub_right(a b:Nat):sub b (a ||| b):=λi e=>by rw[de,e];simp
def PD(h:sub a b)(k:sub b a):a=b:=by
 apply cp;intro i
 cases e:a.testBit i <;> cases g:b.testBit i
 ·rfl
 ·rw[k i g] at e;cases e
 ·rw[h i e] at g;cases g
 ·rfl
meta abbrev Gr:=Nat->List (Nat×Nat)
abbrev Stp(S:Gr)(a b:Nat×Nat):Prop:=b∈S a.1
abbrev gH(S:Gr)(W:Nat)(k:Nat):Prop:=∃s:Nat->Nat×Nat,(s 0).1=k/\(∀i,s (i+1)∈S (s i).1)/\∀b,W.testBit b=true->∀N,∃i,N<=i/\(s i).2.testBit b=true
def gH.suffix{s:Nat->Nat×Nat}(h1:∀i,s (i+1)∈S (s i).1)(h2:∀b,W.testBit b=true->∀N,∃i,N<=i/\(s i).2.testBit b=true)(j:Nat):gH S W (s j).1:=
 (λi=>s (j+i),rfl,λi=>h1 (j+i),λb g N=>by
  let(i,hi,e):=h2 b g (j+N);show(i - j,(),by change(s (j+(i - j))).2.testBit b=true;rw[dM ()];show e))
abbrev RT(S:Gr)(a b:Nat):Prop:=a=b\/∃g,B7 (Stp S) (a,0,) (b,g,)
def Sw(h:B7 (Stp S) (a,g,) y):B7 (Stp S) (a,g',) y:=by
 let(n,f,j,z,h1,h2):=h;show(n,λi=>if i=0 then(a,g',) else f i,j,⋯,by change(if n=0 then _ else f n)=y;rw[h8 ()];show h1,λi hi=>?_)
 cases i with
 |zero=>
  have:=h2 0 hi;rw[z] at this;show this
 |succ i=>show h2 (i+1) hi
def RT.refl(a:Nat):RT S a a:= .inl rfl
def RT.trans(h:RT S a b)(k:RT S b c):RT S a c:=by
 rcases h with rfl|⟨g,h⟩
 ·show k
 ·rcases k with rfl|⟨g',k⟩
  ·show .inr (g,h)
  ·show .inr (g',h.trans (Sw k))
def RT.step(h:(b,g,)∈S a):RT S a b:= .inr (g,.one h)
def RT.far(h:RT S a b)(k:(c,g,)∈S b):B7 (Stp S) (a,j,) (c,g,):=by
 rcases h with rfl|⟨g',h⟩
 ·show .one k
 ·show(Sw h).tail k
def aa_(hx:RT S x t)(B:(k,g,)∈S t)(D:RT S k t)(h:∀b,W.testBit b=true->∃a o g',(o,g',)∈S a/\g'.testBit b=true/\RT S k a/\RT S o t):gH S W x:=by
 let(s,J,M,N):=Na (R:=Stp S) (P:=λ(b:Nat) (z:Nat×Nat)=>z.2.testBit b=true) (ts:=(du W).filter λb=>W.testBit b) (x:=(x,0,)) (y:=(k,g,))
  (.inr (hx.far B)) (D.far B) (λb j=>by
   let(a,o,g',h1,h2,O,Q):=h b (c8.mp j).2;show((o,g',),O.far h1,h2,Q.far B))
 show(s,by rw[J],M,λb j=>N b (c8.mpr (eY.mpr ?_,j)));show bF Nat.lt_two_pow_self (Nat.ge_two_pow_of_testBit j)
def Ws{G:Nat->Prop}(M:sub w W)(h:∀k,G k->∀o g,(o,g,)∈S k->(¬gH S W o)\/(G o/\sub g w/\w≠W))(N:G k):¬gH S W k:=by
 rintro⟨s,O,z,B⟩
 have all:∀i,G (s i).1:=by
  intro i
  induction i with
  |zero=>rw[O];show N
  |succ i Q=>
   rcases h _ Q (s (i+1)).1 (s (i+1)).2 (z i) with q|q
   ·show absurd (gH.suffix z B (i+1)) q
   ·show q.1
 have j:∀i,sub (s (i+1)).2 w/\w≠W:=by
  intro i;rcases h _ (all i) (s (i+1)).1 (s (i+1)).2 (z i) with q|q
  ·show absurd (gH.suffix z B (i+1)) q
  ·show q.2
 have:∃b,W.testBit b=true/\¬w.testBit b=true:=by
  apply bR;intro D;show(j 0).2 (PD M λb J=>?_);show bR λU=>D (b,J,U)
 let(b,J,D):=this;let(i,hi,e):=B b J 1;have:=(j (i - 1)).1 b (by rw[zp hi];show e);show D this
meta abbrev G3:=Nat×Nat×Nat
abbrev uL(s:Int)(acc:Nat):List G3->List G3
 |[]=>[]
 |(f,w,i,) ::rest=>if s < (f:Int) then uL s (acc ||| w ||| i) rest else(f,acc ||| w,i,) ::rest
section
variable(S:Gr)(W:Nat)(kn:Nat->Nat)
abbrev NW:List G3->Nat->Prop
 |[],hi=>hi=1
 |(f,w,i,) ::rest,hi=>1<=f/\f < hi/\(∀x y,f<=x->x < hi->f<=y->y < hi->RT S (kn x) (kn y))/\
  (∀b,w.testBit b=true->∃x y g,f<=x/\x < hi/\f<=y/\y < hi/\(kn y,g,)∈S (kn x)/\g.testBit b=true)/\
  (∀j z B r,rest=(j,z,B,) ::r->∃x y,j<=x/\x < f/\f<=y/\y < hi/\(kn y,i,)∈S (kn x))/\NW rest f
abbrev abL:List G3->Nat->Nat->Nat->Prop
 |[],_,_,_=>False
 |(f,w,i,) ::rest,x,y,g=>(f<=x/\f<=y/\sub g w/\w≠W)\/(x < f/\f<=y/\sub g i/\∃j z B r,rest=(j,z,B,) ::r/\j<=x)\/(x < f/\y < f/\abL rest x y g)
end
section
variable{S:Gr}{W:Nat}{kn:Nat->Nat}
def NW.up:∀{gs:List G3} {hi:Nat},NW S kn gs hi->∀x y,1<=x->x<=y->y < hi->RT S (kn x) (kn y)
 |[],hi,h,x,y,h1,h2,z=>by have:hi=1:=h;lia
 |(f,w,i,) ::rest,hi,(Q,hf,O,hw,j,g),x,y,h1,h2,z=>by
  rcases kK x f with q|q
  ·rcases kK y f with B|B
   ·show g.up x y h1 h2 B
   ·match rest,g,j with
     |[],g,_=>have:f=1:=g;lia
     |(U,Y,Z,) ::r,g,j=>
      let(a,b,D,J,M,N,hs):=j U Y Z r rfl;have u1:=g.up x (f - 1) h1 () ();have u2:=g.2.2.1 (f - 1) a (by have:=g.2.1;lia) () D J;show u1.trans (u2.trans ((RT.step hs).trans (O b y M N B z)))
  ·show O x y q () () z
def NW.Hg:∀{gs:List G3} {hi:Nat},NW S kn gs hi->∀g∈gs,1<=g.1/\g.1 < hi
 |[],_,_,g,j=>nomatch j
 |(f,w,i,) ::rest,hi,h,g,j=>by
  rcases bo.mp j with rfl|j
  ·show(h.1,h.2.1)
  ·have:=NW.Hg h.2.2.2.2.2 g j;have:=h.2.1;lia
def NW.congr:∀{gs:List G3} {hi:Nat},(∀x,1<=x->x < hi->kn' x=kn x)->NW S kn gs hi->NW S kn' gs hi
 |[],_,_,h=>h
 |(f,w,i,) ::rest,hi,e,(B,U,Y,Z,D,J)=>by
  show(B,U,λx y a b c d=>?_,λb hb=>?_,λQ w' i' r er=>?_,J.congr λx a b=>e x a ())
  ·rw[e x () b,e y () d];show Y x y a b c d
  ·let(x,y,g,M,z,N,j,O,q6):=Z b hb;show(x,y,g,M,z,N,j,by rw[e x () z,e y () j];show O,q6)
  ·let(x,y,M,z,N,j,O):=D Q w' i' r er;have:1<=Q:=by rw[er] at J;show J.1
   show(x,y,M,z,N,j,by rw[e x () (),e y () j];show O)
def MB(s:Int):∀(gs:List G3) (acc:Nat),(∃g∈gs,(g.1:Int)<=s)->∃(pre:List G3) (F w I:Nat) (rest:List G3) (A:Nat),gs=pre++(F,w,I,) ::rest/\(∀p∈pre,s < (p.1:Int))/\(F:Int)<=s/\uL s acc gs=(F,A,I,) ::rest/\
  (∀p∈pre,sub p.2.1 A/\sub p.2.2 A)/\sub w A/\sub acc A/\∀b,A.testBit b=true->acc.testBit b=true\/w.testBit b=true\/∃p∈pre,p.2.1.testBit b=true\/p.2.2.testBit b=true
 |[],acc,h=>by let(g,B,_):=h;cases B
 |(f,w,i,) ::rest,acc,h=>by
  rw[uL]
  by_cases q:s < (f:Int)
  ·rw[h9 q]
   obtain⟨pre,F,N,I,z,A,O,Q,U,Y,Z,e6,J,e8⟩:=MB s rest (acc ||| w ||| i) (by
    let(g,B,M):=h;rcases bo.mp B with rfl|B
    ·show absurd q (by simp only at M ⊢;lia)
    ·show(g,B,M))
   show((f,w,i,) ::pre,F,N,I,z,A,by rw[O];rfl,?_,U,Y,?_,e6,?_,?_)
   ·intro p j;rcases bo.mp j with rfl|j
    ·show q
    ·show Q p j
   ·intro p j;rcases bo.mp j with rfl|j
    ·show(uf (uf (sub_right acc w) (IM _ i)) J,uf (sub_right _ i) J)
    ·show Z p j
   ·show uf (uf (IM acc w) (IM _ i)) J
   ·intro b D;rcases e8 b D with k|k|⟨p,j,k⟩
    ·rw[de,de,bw,bw] at k;rcases k with(k|k)|k
     ·show .inl k
     ·show .inr (.inr (_,bg,.inl k))
     ·show .inr (.inr (_,bg,.inr k))
    ·show .inr (.inl k)
    ·show .inr (.inr (p,aZ _ j,k))
  ·rw[h8 q];show([],f,w,i,rest,acc ||| w,rfl,(λp j=>nomatch j),Int.not_lt.mp q,rfl,(λp j=>nomatch j),sub_right _ _,IM _ _,λb D=>?_);rw[de,bw] at D;show D.elim .inl λh=> .inr (.inl h)
def NW.drop:∀{pre:List G3} {F w I:Nat} {rest:List G3} {hi:Nat},NW S kn (pre++(F,w,I,) ::rest) hi->∃c,NW S kn ((F,w,I,) ::rest) c/\c<=hi/\(∀x,x < hi->(∀p∈pre,x < p.1)->x < c)/\
  (∀p∈pre,F < p.1/\p.1 < hi/\(∀b,p.2.1.testBit b=true->∃x y g,F<=x/\x < hi/\F<=y/\y < hi/\(kn y,g,)∈S (kn x)/\g.testBit b=true)/\∀b,p.2.2.testBit b=true->∃x y g,F<=x/\x < hi/\F<=y/\y < hi/\(kn y,g,)∈S (kn x)/\g.testBit b=true)
 |[],F,w,I,rest,hi,h=>(hi,h,aT _,λx hx _=>hx,λp j=>nomatch j)
 |(f,w',i,) ::pre,F,w,I,rest,hi,(ah,hf,hc,hw,Y,hr)=>by
  let(c,h1,h2,Z,h3):=NW.drop hr;have hF:=NW.Hg hr (F,w,I,) (bW _ bg);show(c,h1,(),λx hx j=>Z x (j _ bg) λp h=>j p (aZ _ h),λp j=>?_);rcases bo.mp j with rfl|j
  ·show(hF.2,hf,λb z=>?_,λb z=>?_)
   ·let(x,y,g,J,Q,M,N,B,O):=hw b z;have:=hF.2;show(x,y,g,by simp only at this;lia,Q,by simp only at this;lia,N,B,O)
   ·have:∃U D i' r,pre++(F,w,I,) ::rest=(U,D,i',) ::r:=by
      cases pre with
      |nil=>show(F,w,I,rest,rfl)
      |cons p pre=>show(p.1,p.2.1,p.2.2,_,rfl)
    let(U,D,i',r,er):=this;let(x,y,J,Q,M,N,B):=Y U D i' r er
    have ar:F<=U:=by
     cases pre with
     |nil=>cases er;show aT _
     |cons p pre=>
      have:=h3 p bg
      cases er;show iI this.1
    show(x,y,i,(),(),(),N,B,z)
  ·let(k1,k2,k3,k4):=h3 p j
   show(k1,(),λb z=>by
    let(x,y,g,J,Q,M,N,B,O):=k3 b z;show(x,y,g,J,(),M,(),B,O),λb z=>by
    let(x,y,g,J,Q,M,N,B,O):=k4 b z;show(x,y,g,J,(),M,(),B,O))
def O_(j:A≠W)(D:sub w A):∀{pre:List G3},(∀p∈pre,F < p.1/\sub p.2.1 A/\sub p.2.2 A)->abL W (pre++(F,w,I,) ::rest) x y g->abL W ((F,A,I,) ::rest) x y g
 |[],_,h=>by
  rcases h with⟨a,b,c,d⟩|h|h
  ·show .inl (a,b,uf c D,j)
  ·show .inr (.inl h)
  ·show .inr (.inr h)
 |(f,O,i,) ::pre,z,h=>by
  let(k1,J,M):=z _ bg;simp only at k1 J M;rcases h with⟨a,b,c,d⟩|⟨a,b,c,Q,N,U,r,er,B⟩|⟨a,b,c⟩
  ·show .inl ((),(),uf c J,j)
  ·show .inl (?_,(),uf c M,j)
   cases pre with
   |nil=>cases er;show B
   |cons p pre=>
    have:=(z p (aZ _ bg)).1
    cases er
    simp only at this;lia
  ·show O_ j D (λp h=>z p (aZ _ h)) c
end
meta abbrev Tr:=List (Nat×List (Nat×Nat))
abbrev Cov(W:Nat)(st:Nat->Int)(gs:List G3)(x:Nat)(e:Nat×Nat):Prop:=st e.1=-1\/(0 < st e.1/\abL W gs x (st e.1).toNat e.2)
structure uO(S:Gr)(W n start:Nat)(st:Nat->Int)(kn:Nat->Nat)(L:Nat)(gs:List G3)(tr:Tr):Prop where
 N9:∀x,1<=x->x<=L->kn x < n/\st (kn x)=(x:Int)
 inv:∀k,k < n->st k=0\/st k=-1\/∃x,1<=x/\x<=L/\st k=(x:Int)/\kn x=k
 Tp:NW S kn gs (L+1)
 bad:∀k,k < n->st k=-1->¬gH S W k
 trd:tr.Pairwise λa b=>st b.1 < st a.1
 VT:∀a∈tr,a.1 < n/\0 < st a.1/\∀e∈a.2,e∈S a.1
 fst:∀g∈gs,∃rem,(kn g.1,rem,)∈tr
 cov:∀x,1<=x->x<=L->∀e∈S (kn x),(∃rem,(kn x,rem,)∈tr/\e∈rem)\/Cov W st gs x e
 seen:st start≠0
 one:1<=L->kn 1=start
 Qo:∀g∈gs,sub g.2.1 W/\sub g.2.2 W
structure MK(S:Gr)(W n:Nat):Prop where
 lt:∀k e,e∈S k->e.1 < n
 sub:∀k e,e∈S k->Pt.sub e.2 W
section
variable{S:Gr}{W n start:Nat}{st:Nat->Int}{kn:Nat->Nat}{L:Nat}{gs:List G3}{tr:Tr}
def uO.top(I:uO S W n start st kn L gs tr)(e:tr=(t,rem,) ::rest):∃x f w i j,gs=(f,w,i,) ::j/\f<=x/\x<=L/\1<=x/\kn x=t/\st t=(x:Int):=by
 let(h1,h2,Y):=I.VT (t,rem,) (by rw[e];show bg);simp only at h1 h2;rcases I.inv t h1 with q|q|⟨x,M,N,O,Q⟩
 ·lia
 ·lia
 ·match Z:gs,I.Tp,I.fst with
   |[],g,_=>have:L+1=1:=g;lia
   |(f,w,i,) ::j,g,U=>
    show(x,f,w,i,j,rfl,?_,N,M,Q,O);let(B,D):=U (f,w,i,) bg;rw[e] at D;have z:=I.N9 f g.1 (by have:=g.2.1;lia);rcases bo.mp D with k|k
    ·have:kn f=t:=(eI k).1;rw[this] at z;lia
    ·have J:=I.trd;rw[e] at J;have:=zO J k;simp only at this;lia
def uO.enter(gr:MK S W n)(I:uO S W n start st kn L gs ((t,rem++[(o,g,)],) ::tr))(ho:st o=0)(h1:∀k,st' k=if k=o then((L+1:Nat):Int) else st k)(h2:∀x,kn' x=if x=L+1 then o else kn x):
  uO S W n start st' kn' (L+1) ((L+1,0,g,) ::gs) ((o,S o,) ::(t,rem,) ::tr):=by
 let(x,f,w,i,av,eg,aA,aE,bk,bl,bt):=I.top rfl;let(ah,Q,U):=I.VT _ bg;simp only at ah Q U;have Y:(o,g,)∈S t:=U _ ⋯;have ar:o < n:=gr.lt t _ Y;have bx:t≠o:=λe=>by rw[e] at Q;lia
 have B:∀y,1<=y->y<=L->kn' y=kn y/\kn y≠o:=λy a b=>by
  show(by rw[h2,h8 ()],λe=>?_);have:=(I.N9 y a b).2;rw[e] at this;lia
 have D:∀a∈(t,rem,) ::tr,a.1 < n/\0 < st a.1/\a.1≠o/\∀e∈a.2,e∈S a.1:=by
  intro a j;rcases bo.mp j with rfl|j
  ·show(ah,Q,bx,λe N=>U e (cf _ N))
  ·let(q1,J,M):=I.VT a (aZ _ j);show(q1,J,λe=>by rw[e] at J;lia,M)
 have O:∀a∈(t,rem,) ::tr,st' a.1=st a.1:=λa j=>by rw[h1,h8 (D a j).2.2.1]
 have stb:∀a∈(t,rem,) ::tr,st a.1 < ((L+1:Nat):Int):=λa j=>by
  rcases I.inv a.1 (D a j).1 with q|q|⟨y,q1,J,M,q4⟩
  ·lia
  ·lia
  ·rw[M];lia
 show(?_,?_,?_,?_,?_,?_,?_,?_,?_,?_,?_)
 ·intro y a b
  by_cases e:y=L+1
  ·rw[h2,h9 e,h1,h9 rfl,e];show(ar,rfl)
  ·let(k1,k2):=B y a ();rw[k1,h1,h8 k2];show I.N9 y a ()
 ·intro k hk
  by_cases e:k=o
  ·show .inr (.inr (L+1,(),aT _,by rw[h1,h9 e],by rw[h2,h9 rfl,e]))
  ·rw[h1,h8 e];rcases I.inv k hk with q|q|⟨y,q1,J,M,q4⟩
   ·show .inl q
   ·show .inr (.inl q)
   ·show .inr (.inr (y,q1,(),M,by rw[(B y q1 J).1];show q4))
 ·have go:=I.Tp.congr (kn':=kn') (λy a b=>(B y a ()).1);show((),(),λy z a b c d=>?_,(λb hb=>by rw[f9] at hb;cases hb),λf' w' i' r er=>?_,go)
  ·have:y=z:=by lia
   rw[this];show .refl _
  ·rw[eg] at er
   cases er
   show(x,L+1,aA,(),aT _,(),?_);rw[(B x bk aE).1,h2,h9 rfl,bl];show Y
 ·intro k hk e;rw[h1] at e
  by_cases q:k=o
  ·rw[h9 q] at e;lia
  ·rw[h8 q] at e;show I.bad k hk e
 ·have hp:((t,rem,) ::tr).Pairwise λa b=>st b.1 < st a.1:=by
    have:=I.trd;rw[lB] at this ⊢;show this
  rw[lB];show(λa j=>?_,Bb (λ{a b} j hb h=>by rw[O a j,O b hb];show h) hp);change st' a.1 < st' o;rw[O a j,h1 o,h9 rfl];show stb a j
 ·intro a j;rcases bo.mp j with rfl|j
  ·show(ar,by rw[h1,h9 rfl];lia,λe N=>N)
  ·rw[O a j];show((D a j).1,(D a j).2.1,(D a j).2.2.2)
 ·intro a j;rcases bo.mp j with rfl|j
  ·show(S o,by rw[h2,h9 rfl];show bg)
  ·have b0:=NW.Hg I.Tp a j;rw[(B a.1 b0.1 ()).1];let(rm,hm):=I.fst a j;rcases bo.mp hm with q|q
   ·show(rem,by rw[(eI q).1];show aZ _ bg)
   ·show(rm,aZ _ (aZ _ q))
 ·intro y a b e N
  by_cases q:y=L+1
  ·rw[h2,h9 q] at N ⊢;show .inl (S o,bg,N)
  ·let(k1,k2):=B y a ();rw[k1] at N ⊢
   have lift:Cov W st gs y e->Cov W st' ((L+1,0,g,) ::gs) y e:=by
    rintro(c|⟨c1,c2⟩)
    ·show .inl ?_;rw[h1,h8 (λz=>by rw[z] at c;lia)];show c
    ·have b1:e.1≠o:=λz=>by rw[z] at c1;lia
     have b2:e.1 < n:=gr.lt _ _ N;show .inr ?_;rw[h1,h8 b1];show(c1,.inr (.inr ((),?_,c2)));rcases I.inv e.1 b2 with z|z|⟨z,z1,z2,z3,z4⟩
     ·lia
     ·lia
     ·rw[z3];lia
   rcases I.cov y a () e N with⟨rm,hm,Z⟩|c
   ·rcases bo.mp hm with J|J
    ·have ey:=(eI J).1;have er:=(eI J).2;rw[er] at Z;rcases cj.mp Z with M|M
     ·show .inl (rem,by rw[ey];show aZ _ bg,M)
     ·rw[bz] at M;subst M;show .inr (.inr ?_);rw[h1,h9 rfl];show((),.inr (.inl ((),(),Z1 g,f,w,i,av,eg,?_)));have hy:=(I.N9 y a ()).2;rw[ey,bt] at hy;lia
    ·show .inl (rm,aZ _ (aZ _ J),Z)
   ·show .inr (lift c)
 ·rw[h1]
  by_cases q:start=o
  ·rw[h9 q];lia
  ·rw[h8 q];show I.seen
 ·intro _;rw[h2,h8 ()];show I.one ()
 ·intro a j;rcases bo.mp j with rfl|j
  ·show(sub_zero W,gr.sub t (o,g,) Y)
  ·show I.Qo a j
def uO.skip(I:uO S W n start st kn L gs ((t,rem++[(o,g,)],) ::tr))(Y:st o=-1):uO S W n start st kn L gs ((t,rem,) ::tr):=by
 let(J,M,N):=I.VT _ bg;show(I.N9,I.inv,I.Tp,I.bad,?_,?_,?_,?_,I.seen,I.one,I.Qo)
 ·have:=I.trd;rw[lB] at this ⊢;show this
 ·intro a z;rcases bo.mp z with rfl|z
  ·show(J,M,λe O=>N e (cf _ O))
  ·show I.VT a (aZ _ z)
 ·intro a z;let(Q,U):=I.fst a z;rcases bo.mp U with q|q
  ·show(rem,by rw[(eI q).1];show bg)
  ·show(Q,aZ _ q)
 ·intro y a b e O;rcases I.cov y a b e O with⟨Q,U,j⟩|c
  ·rcases bo.mp U with B|B
   ·have Z:=(eI B).1;have er:=(eI B).2;rw[er] at j;rcases cj.mp j with D|D
    ·show .inl (rem,by rw[Z];show bg,D)
    ·rw[bz] at D;subst D;show .inr (.inl Y)
   ·show .inl (Q,aZ _ B,j)
  ·show .inr c
def uO.close(gr:MK S W n)(I:uO S W n start st kn L gs ((t,rem++[(o,g,)],) ::tr))(ho:0 < st o):
  ∃F A J rest,uL (st o) g gs=(F,A,J,) ::rest/\(A=W->gH S W start)/\(A≠W->uO S W n start st kn L ((F,A,J,) ::rest) ((t,rem,) ::tr)):=by
 let(x,f,w,i,cc,eg,bl,bt,bx,Q,b0):=I.top rfl;let(aA,aE,ah):=I.VT _ bg;simp only at aA aE ah;have D:(o,g,)∈S t:=ah _ ⋯;have b1:o < n:=gr.lt t _ D
 obtain⟨B,q1,q2,q3,q4⟩:∃B,1<=B/\B<=L/\st o=(B:Int)/\kn B=o:=by
  rcases I.inv o b1 with q|q|q
  ·lia
  ·lia
  ·show q
 have hex:∃g'∈gs,(g'.1:Int)<=st o:=by
  have:∀{gs:List G3} {hi:Nat},NW S kn gs hi->1 < hi->∃g'∈gs,g'.1=1:=by
   intro gs
   induction gs with
   |nil=>intro hi h k;have:hi=1:=h;lia
   |cons a r ih=>
    intro hi h k;let(f,w,i):=a
    by_cases e:f=1
    ·show(_,bg,e)
    ·let(g',hg,h1):=ih h.2.2.2.2.2 (by have:=h.1;lia);show(g',aZ _ hg,h1)
  let(g',hg,h1):=this I.Tp ();show(g',hg,())
 let(pre,F,w0,J,rest,A,M,e2,e3,e4,e5,e6,e7,e8):=MB (st o) gs g hex;have U:=I.Tp;rw[M] at U;let(c,k1,k2,b2,k3):=U.drop;have bk:F<=B:=by rw[q3] at e3;lia
 have cm:F<=f:=by
  cases pre with
  |nil=>rw[eg] at M;cases M;show aT _
  |cons p pre=>
   rw[eg] at M;have:=(k3 p bg).1
   cases M
   show iI this
 have b3:1<=F:=k1.1;have b4:B < c:=b2 B () λp Y=>by have:=e2 p Y;rw[q3] at this;lia
 have ar:=I.Tp.up;have ct:F < c:=k1.2.1
 have toT:∀y,F<=y->y<=L->RT S (kn y) t:=λy a b=>by
  have h1:=ar y L () b ();have hg:=I.Tp;rw[eg] at hg;have h2:=hg.2.2.1 L x () () bl ();rw[Q] at h2;show h1.trans h2
 have j:∀y,F<=y->y<=L->RT S o (kn y):=λy a b=>by
  rcases kK y B with h|h
  ·have:=k1.2.2.1 B y bk b4 a ();rw[q4] at this;show this
  ·have:=ar B y q1 h ();rw[q4] at this;show this
 have b5:RT S o t:=by have:=j x () bt;rw[Q] at this;show this
 have conn:∀y z,F<=y->y<=L->F<=z->z<=L->RT S (kn y) (kn z):=λy z a b c d=>(toT y a b).trans ((RT.step D).trans (j z c d))
 have wit:∀b,A.testBit b=true->∃y z g',F<=y/\y < L+1/\F<=z/\z < L+1/\(kn z,g',)∈S (kn y)/\g'.testBit b=true:=λb hb=>by
  rcases e8 b hb with h|h|⟨p,Y,h⟩
  ·show(x,B,g,(),(),bk,(),by rw[q4,Q];show D,h)
  ·let(y,z,g',r1,Z,O,r4,r5,r6):=k1.2.2.2.1 b h;show(y,z,g',r1,(),O,(),r5,r6)
  ·let(_,_,m1,m2):=k3 p Y;rcases h with h|h
   ·show m1 b h
   ·show m2 b h
 show(F,A,J,rest,e4,λhA=>?_,λhA=>?_)
 ·have h1:RT S start t:=by
    have:=ar 1 x (aT _) bx ();rw[I.one (),Q] at this;show this
  show aa_ h1 D b5 λb hb=>?_;let(y,z,g',r1,Z,O,r4,r5,r6):=wit b (by rw[hA];show hb);show(kn y,kn z,g',r5,r6,j y r1 (),toT z O ())
 ·show(I.N9,I.inv,?_,I.bad,?_,?_,?_,?_,I.seen,I.one,?_)
  ·show(b3,(),λy z a b c d=>conn y z a () c (),wit,λf' w' i' r er=>?_,k1.2.2.2.2.2);let(y,z,r1,Z,O,r4,r5):=k1.2.2.2.2.1 f' w' i' r er;show(y,z,r1,Z,O,(),r5)
  ·have:=I.trd;rw[lB] at this ⊢;show this
  ·intro a N;rcases bo.mp N with rfl|N
   ·show(aA,aE,λe he=>ah e (cf _ he))
   ·show I.VT a (aZ _ N)
  ·intro a N
   have:∃rm,(kn a.1,rm,)∈(t,rem++[(o,g,)],) ::tr:=by
    rcases bo.mp N with rfl|N
    ·show I.fst (F,w0,J,) (by rw[M];show bW _ bg)
    ·show I.fst a (by rw[M];show bW _ (aZ _ N))
   let(rm,hm):=this;rcases bo.mp hm with q|q
   ·show(rem,by rw[(eI q).1];show bg)
   ·show(rm,aZ _ q)
  ·intro y a b e he;rcases I.cov y a b e he with⟨rm,hm,av⟩|c
   ·rcases bo.mp hm with Z|Z
    ·have ey:=(eI Z).1;have er:=(eI Z).2;rw[er] at av;rcases cj.mp av with O|O
     ·show .inl (rem,by rw[ey];show bg,O)
     ·rw[bz] at O;subst O;show .inr (.inr (ho,.inl (?_,?_,e7,hA)))
      ·have hy:=(I.N9 y a b).2;rw[ey,b0] at hy;lia
      ·rw[q3];lia
    ·show .inl (rm,aZ _ Z,av)
   ·rcases c with c|⟨c1,c2⟩
    ·show .inr (.inl c)
    ·show .inr (.inr (c1,?_));rw[M] at c2;show O_ hA e6 (λp Y=>((k3 p Y).1,e5 p Y)) c2
  ·intro a N;rcases bo.mp N with rfl|N
   ·have hm:=I.Qo (F,w0,J,) (by rw[M];show bW _ bg);show(λb hb=>?_,hm.2);rcases e8 b hb with h|h|⟨p,Y,h⟩
    ·show gr.sub t _ D b h
    ·show hm.1 b h
    ·have:=I.Qo p (by rw[M];show cf _ Y);show h.elim (this.1 b) (this.2 b)
   ·show I.Qo a (by rw[M];show bW _ (aZ _ N))
def uO.back(I:uO S W n start st kn L gs ((t,[],) ::tr))(h:∀f w i r,gs=(f,w,i,) ::r->(f:Int)≠st t):uO S W n start st kn L gs tr:=by
 let(x,f,w,i,B,D,Y,Z,ah,ar,z):=I.top rfl;show(I.N9,I.inv,I.Tp,I.bad,(lB.mp I.trd).2,λa g=>I.VT a (aZ _ g),?_,?_,I.seen,I.one,I.Qo)
 ·intro a g;let(J,M):=I.fst a g;rcases bo.mp M with q|q
  ·exfalso;have ek:=(eI q).1;have N:=NW.Hg I.Tp a g;have:=(I.N9 a.1 N.1 ()).2;rw[ek,z] at this;have O:=h f w i B D;rw[z] at O;rw[D] at g;have U:=I.Tp;rw[D] at U;rcases bo.mp g with rfl|g
   ·simp only at this;lia
   ·have:=NW.Hg U.2.2.2.2.2 a g;lia
  ·show(J,q)
 ·intro y a b e he;rcases I.cov y a b e he with⟨J,M,j⟩|c
  ·rcases bo.mp M with Q|Q
   ·rw[(eI Q).2] at j;cases j
   ·show .inl (J,Q,j)
  ·show .inr c
def uO.leave(gr:MK S W n)(I:uO S W n start st kn L ((f,w,i,) ::gs) ((t,[],) ::tr))(hf:(f:Int)=st t)(h1:∀k,k < n->st' k=if (f:Int)<=st k then -1 else st k)(ah:start < n):
  uO S W n start st' kn (f - 1) gs tr:=by
 let(x,f',w',i',bk,eg,bl,bt,bx,b0,O):=I.top rfl
 cases eg
 have b1:f=x:=by rw[O] at hf;lia
 let(g1,g2,g3,g4,g5,g6):=I.Tp;let(ar,av,b2):=I.VT _ bg;simp only at ar av
 have Q:∀a∈tr,st a.1 < (f:Int):=λa j=>by
  have:=zO I.trd j;simp only at this;lia
 have D:∀a∈tr,st' a.1=st a.1:=λa j=>by
  rw[h1 _ (I.VT a (aZ _ j)).1,h8 (by have:=Q a j;lia)]
 have ns:∀y,1<=y->y<=f - 1->st' (kn y)=(y:Int):=λy a b=>by
  let(k1,k2):=I.N9 y a ();rw[h1 _ k1,h8 (),k2]
 have U:∀k,k < n->(f:Int)<=st k->¬gH S W k:=by
  intro k B hs;show Ws (w:=w) (G:=λk=>k < n/\(f:Int)<=st k) (I.Qo _ bg).1 (λa (j,b3) o g Y=>?_) (B,hs)
  obtain⟨y,y1,y2,y3,y4⟩:∃y,1<=y/\y<=L/\st a=(y:Int)/\kn y=a:=by
   rcases I.inv a j with q|q|q
   ·lia
   ·lia
   ·show q
  have Z:=gr.lt a _ Y;rcases I.cov y y1 y2 (o,g,) (by rw[y4];show Y) with⟨rm,M,z⟩|c|⟨c1,c2⟩
  ·exfalso;rw[y4] at M;rcases bo.mp M with J|J
   ·rw[(eI J).2] at z;cases z
   ·have:=Q _ J;simp only at this;lia
  ·show .inl (I.bad o Z c)
  ·simp only at c1 c2;rcases c2 with⟨N,d2,d3,d4⟩|⟨N,_⟩|⟨N,_⟩
   ·show .inr ((Z,()),d3,d4)
   ·lia
   ·lia
 show(?_,?_,?_,?_,?_,?_,?_,?_,?_,?_,?_)
 ·intro y a b;show((I.N9 y a ()).1,ns y a b)
 ·intro k B;rw[h1 k B];rcases I.inv k B with q|q|⟨y,y1,y2,y3,y4⟩
  ·rw[h8 ()];show .inl q
  ·rw[h8 ()];show .inr (.inl q)
  ·by_cases e:(f:Int)<=st k
   ·rw[h9 e];show .inr (.inl rfl)
   ·rw[h8 e];show .inr (.inr (y,y1,(),y3,y4))
 ·rw[zp g1];show g6
 ·intro k B e;rw[h1 k B] at e
  by_cases q:(f:Int)<=st k
  ·show U k B q
  ·rw[h8 q] at e;show I.bad k B e
 ·show Bb (λ{a b} j hb h=>by rw[D a j,D b hb];show h) (lB.mp I.trd).2
 ·intro a j;rw[D a j];show I.VT a (aZ _ j)
 ·intro a j;let(rm,M):=I.fst a (aZ _ j);rcases bo.mp M with q|q
  ·exfalso;have ek:=(eI q).1;have aA:=NW.Hg g6 a j;have:=(I.N9 a.1 aA.1 ()).2;rw[ek,O] at this;lia
  ·show(rm,q)
 ·intro y a b e he;rcases I.cov y a () e he with⟨rm,M,z⟩|c
  ·rcases bo.mp M with J|J
   ·rw[(eI J).2] at z;cases z
   ·show .inl (rm,J,z)
  ·have aE:=gr.lt _ _ he;show .inr ?_;unfold Cov;rw[h1 _ aE];rcases c with c|⟨c1,c2⟩
   ·rw[h8 ()];show .inl c
   ·by_cases q:(f:Int)<=st e.1
    ·rw[h9 q];show .inl rfl
    ·rw[h8 q];rcases c2 with⟨N,_⟩|⟨_,N,_⟩|⟨_,_,N⟩
     ·lia
     ·lia
     ·show .inr (c1,N)
 ·rw[h1 _ ah]
  by_cases q:(f:Int)<=st start
  ·rw[h9 q];lia
  ·rw[h8 q];show I.seen
 ·intro h;show I.one ()
 ·intro a j;show I.Qo a (aZ _ j)
def uO.begin(J:start < n)(M:∀k,k < n->st k=0\/st k=-1)(j:∀k,k < n->st k=-1->¬gH S W k)(h1:∀k,st' k=if k=start then(1:Int) else st k)(h2:kn' 1=start):
  uO S W n start st' kn' 1 [(1,0,0,)] [(start,S start,)]:=by
 show(?_,?_,?_,?_,?_,?_,?_,?_,?_,?_,?_)
 ·intro y a b;have:y=1:=by lia
  subst this;rw[h2,h1,h9 rfl];show(J,rfl)
 ·intro k D;rw[h1]
  by_cases e:k=start
  ·rw[h9 e];show .inr (.inr (1,aT _,aT _,rfl,by rw[h2,e]))
  ·rw[h8 e];rcases M k D with q|q
   ·show .inl q
   ·show .inr (.inl q)
 ·show(aT _,(),λy z a b c d=>?_,(λb j=>by rw[f9] at j;cases j),(by intro N O Q r er;cases er),rfl);have:y=z:=by lia
  rw[this];show .refl _
 ·intro k D e;rw[h1] at e
  by_cases q:k=start
  ·rw[h9 q] at e;lia
  ·rw[h8 q] at e;show j k D e
 ·simp
 ·intro a g;rw[bz] at g;subst g;show(J,by rw[h1,h9 rfl];lia,λe B=>B)
 ·intro a g;rw[bz] at g;subst g;show(S start,by rw[h2];show bz.mpr rfl)
 ·intro y a b e B;have:y=1:=by lia
  subst this;rw[h2] at B ⊢;show .inl (S start,bz.mpr rfl,B)
 ·rw[h1,h9 rfl];lia
 ·intro _;show h2
 ·intro a g;rw[bz] at g;subst g;show(sub_zero W,sub_zero W)
def uO.over(I:uO S W n start st kn L gs []):L=0/\gs=[]/\∀k,k < n->st k=0\/st k=-1:=by
 have g:gs=[]:=by
  cases gs with
  |nil=>rfl
  |cons a r=>
   let(B,j):=I.fst a bg
   cases j
 subst g;have D:L+1=1:=I.Tp;show((),rfl,λk z=>?_);rcases I.inv k z with q|q|⟨y,J,M,_⟩
 ·show .inl q
 ·show .inr q
 ·lia
end
end Pt
namespace Pt
open Sg30
abbrev iR:LS->Bytes->Except Nat (List Nat)
 |st,[]=>if AQ st=true then .ok [] else .error 0
 |st,c ::b=>match jB st c.toNat with
  |none=> .error (↑b+1)
  |some (st',ts,)=>match iR st' b with
   | .error e=> .error e
   | .ok us=> .ok (ts++us)
def VG:∀(b:Bytes) (st:LS) (s:List Form×List Nat),run st s b=match iR st b with
  | .error e=> .error e
  | .ok ts=> .ok (finish (gL ts s))
 |[],st,s=>by
  rw[run,iR]
  by_cases h:AQ st=true
  ·rw[h9 h,h9 h];rfl
  ·rw[h8 h,h8 h]
 |c ::b,st,s=>by
  rw[run,iR]
  cases e:jB st c.toNat with
  |none=>rfl
  |some p=>
   let(st',ts):=p;simp only;rw[VG b st' (gL ts s)]
   cases iR st' b with
   |error x=>rfl
   |ok us=>
    simp only;unfold gL;rw[mi]
abbrev valid:Bool->Nat->List Nat->Prop
 |u,d,[]=>u=false/\d=0
 |true,d,t ::ts=>(t=40/\valid true (d+1) ts)\/(iD t=true/\valid false d ts)\/(kW t=true/\valid true d ts)
 |false,d,t ::ts=>(t=41/\0 < d/\valid false (d - 1) ts)\/(jC t=true/\valid true d ts)
def OR:∀(b:Bytes) (st:LS) (ts:List Nat),iR st b= .ok ts->(st.ar=0\/(st.ar<=3/\st.JW=false))->valid st.JW st.d ts
 |[],st,ts,h,_=>by
  rw[iR] at h
  by_cases e:AQ st=true
  ·rw[h9 e] at h
   cases h
   unfold AQ at e;simp only[bf,iz,beq_iff_eq] at e;rw[e.1,e.2.1];show(rfl,rfl)
  ·rw[h8 e] at h;cases h
 |c ::b,st,ts,h,B=>by
  rw[iR] at h
  cases e:jB st c.toNat with
  |none=>rw[e] at h;cases h
  |some p=>
   let(st',us):=p;rw[e] at h;simp only at h
   cases D:iR st' b with
   |error x=>rw[D] at h;cases h
   |ok vs=>
    rw[D] at h;have h':=kS h;subst h';have j:=OR b st' vs D;let(u,d,a):=st;simp only at B ⊢;unfold jB at e;simp only at e
    by_cases a1:a=1
    ·rw[h9 a1] at e
     by_cases g:c.toNat=62
     ·rw[h9 g] at e;cases e;have hu:u=false:=(B.resolve_left ()).2;subst hu;show .inr (rfl,j (.inl rfl))
     ·rw[h8 g] at e;cases e
    rw[h8 a1] at e
    by_cases a2:a=2
    ·rw[h9 a2] at e
     by_cases g:c.toNat=45
     ·rw[h9 g] at e;cases e;have hu:u=false:=(B.resolve_left ()).2;subst hu;show j (.inr (by change 3<=3;lia,rfl))
     ·rw[h8 g] at e;cases e
    rw[h8 a2] at e
    by_cases a3:a=3
    ·rw[h9 a3] at e
     by_cases g:c.toNat=62
     ·rw[h9 g] at e;cases e;have hu:u=false:=(B.resolve_left ()).2;subst hu;show .inr (rfl,j (.inl rfl))
     ·rw[h8 g] at e;cases e
    rw[h8 a3] at e;have a0:a=0:=by lia
    subst a0
    by_cases J:u=false/\c.toNat=45
    ·rw[h9 J] at e;cases e;show j (.inr (by change 1<=3;lia,J.1))
    rw[h8 J] at e
    by_cases M:u=false/\c.toNat=60
    ·rw[h9 M] at e;cases e;show j (.inr (by change 2<=3;lia,M.1))
    rw[h8 M] at e
    by_cases Q:c.toNat=32
    ·rw[h9 Q] at e;cases e;show j (.inl rfl)
    rw[h8 Q] at e
    by_cases N:u=true
    ·subst N;rw[h9 rfl] at e
     by_cases g:c.toNat=40
     ·rw[h9 g] at e;cases e;show .inl (g,j (.inl rfl))
     rw[h8 g] at e
     by_cases z:iD c.toNat=true
     ·rw[h9 z] at e;cases e;show .inr (.inl (z,j (.inl rfl)))
     rw[h8 z] at e
     by_cases O:kW c.toNat=true
     ·rw[h9 O] at e;cases e;show .inr (.inr (O,j (.inl rfl)))
     rw[h8 O] at e;cases e
    ·have hu:u=false:=by simpa using N
     subst hu;rw[h8 N] at e
     by_cases g:c.toNat=41/\0 < d
     ·rw[h9 g] at e;cases e;show .inl (g.1,g.2,j (.inl rfl))
     rw[h8 g] at e
     by_cases z:lg c.toNat=true
     ·rw[h9 z] at e;cases e;show .inr (?_,j (.inl rfl));unfold lg at z;unfold jC;simp only[bw,beq_iff_eq] at z ⊢;lia
     rw[h8 z] at e;cases e
abbrev core:Form->Form
 | .yes=> .yes
 | .no=> .no
 | .prop i=> .prop i
 | .not f=> .not (core f)
 | .and f g=> .and (core f) (core g)
 | .or f g=> .or (core f) (core g)
 | .implies f g=> .or (.not (core f)) (core g)
 | .same f g=> .same (core f) (core g)
 | .next f=> .next (core f)
 | .till f g=> .till (core f) (core g)
 | .ever f=> .till .yes (core f)
 | .globally f=> .weak (core f) .no
 | .weak f g=> .weak (core f) (core g)
 | .release f g=> .weak (core g) (.and (core f) (core g))
def fR(w:Nat->Nat):∀(f:Form) (i:Nat),holds w (core f) i↔holds w f i
 | .yes,i=>qy
 | .no,i=>qy
 | .prop _,i=>qy
 | .not f,i=>not_congr (fR w f i)
 | .and f g,i=>and_congr (fR w f i) (fR w g i)
 | .or f g,i=>or_congr (fR w f i) (fR w g i)
 | .implies f g,i=>by
  change(¬holds w (core f) i\/holds w (core g) i)↔(holds w f i->holds w g i);rw[fR w f i,fR w g i]
  by_cases h:holds w f i <;> simp[h]
 | .same f g,i=>iff_congr (fR w f i) (fR w g i)
 | .next f,i=>fR w f (i+1)
 | .till f g,i=>by
  have z:holds w (core f)=holds w f:=funext λj=>propext (fR w f j);have B:holds w (core g)=holds w g:=funext λj=>propext (fR w g j);change(∃j,i<=j/\holds w (core g) j/\∀k,i<=k->k < j->holds w (core f) k)↔_;rw[z,B];show qy
 | .ever f,i=>by
  have z:holds w (core f)=holds w f:=funext λj=>propext (fR w f j);change(∃j,i<=j/\holds w (core f) j/\∀k,i<=k->k < j->True)↔∃j,i<=j/\holds w f j;rw[z];show(λ(j,a,b,_)=>(j,a,b),λ(j,a,b)=>(j,a,b,λ_ _ _=>trivial))
 | .globally f,i=>by
  have z:holds w (core f)=holds w f:=funext λj=>propext (fR w f j);change((∃j,i<=j/\False/\∀k,i<=k->k < j->holds w (core f) k)\/∀j,i<=j->holds w (core f) j)↔∀j,i<=j->holds w f j;rw[z];show(λh=>h.elim (λ(_,_,h,_)=>h.elim) id,.inr)
 | .weak f g,i=>by
  have z:holds w (core f)=holds w f:=funext λj=>propext (fR w f j);have B:holds w (core g)=holds w g:=funext λj=>propext (fR w g j);change((∃j,i<=j/\holds w (core g) j/\∀k,i<=k->k < j->holds w (core f) k)\/∀j,i<=j->holds w (core f) j)↔_;rw[z,B];show qy
 | .release f g,i=>by
  have z:holds w (core f)=holds w f:=funext λj=>propext (fR w f j);have B:holds w (core g)=holds w g:=funext λj=>propext (fR w g j);change((∃j,i<=j/\(holds w (core f) j/\holds w (core g) j)/\∀k,i<=k->k < j->holds w (core g) k)\/∀j,i<=j->holds w (core g) j)↔_;rw[z,B];show qy
abbrev Hw(c:Nat):Nd:=if c=48 then(.never,0,0) else if c=49 then(.always,0,0) else(.fS,c - 97,0)
abbrev nV(ns:List Nd)(c:Nat):List Nd×Nat:=nY ns (Hw c)
abbrev kindOf(c:Nat):Kd:=if c=60 then .alike else if c=124 then .or else if c=38 then .and else if c=85 then .De else if c=87 then .unless else if c=33 then .not else .next
abbrev u6(ns:List Nd)(c p:Nat):List Nd×Nat:=
 if c=70 then nY (nV ns 49).1 (.De,(nV ns 49).2,p)
 else if c=71 then nY (nV ns 48).1 (.unless,p,(nV ns 48).2)
 else nY ns (kindOf c,p,p)
abbrev Dj(ns:List Nd)(c l r:Nat):List Nd×Nat:=
 if c=45 then nY (u6 ns 33 l).1 (.or,(u6 ns 33 l).2,r)
 else if c=82 then nY (nY ns (.and,l,r)).1 (.unless,r,(nY ns (.and,l,r)).2)
 else nY ns (kindOf c,l,r)
abbrev nj(c:Nat):Bool:=c==88 || c==70 || c==71 || c==85 || c==82 || c==87
abbrev K_(c:Nat):Nat:=if nj c=true then 1 else 0
structure Tv(ns:List Nd)(x:List Nd×Nat)(a b:Nat)(f:Form):Prop where
 g:vY ns x.1 a b
 lt:x.2 < ↑x.1
 FO:cv x.1 x.2=f
def Tv.yE(ok:Ok ns)(hi:n.k.leaf=false->n.l < ↑ns/\n.r < ↑ns)(g:n.k= .fS->n.l < 16/\n.r=0)(j:n.k.leaf=true->n.r=0):
  Tv ns (nY ns n) 1 (if n.k.eX=true then 1 else 0) (Z8 n.k n.l (cv ns n.l) (cv ns n.r)):=
 ((Fq ok hi g j).1,(Fq ok hi g j).2.1,Oy ok hi g j)
def Kj(ok:Ok ns)(h:iD c=true):Tv ns (nV ns c) 1 0 (core (leafOf c)):=by
 unfold iD at h;simp only[bw,bf,decide_eq_true_eq,beq_iff_eq] at h;unfold nV Hw leafOf
 by_cases g:c=48
 ·rw[h9 g,h9 g];show Tv.yE ok (n:=(.never,0,0)) (λh=>by cases h) (λh=>by cases h) (λ_=>rfl)
 ·rw[h8 g,h8 g]
  by_cases j:c=49
  ·rw[h9 j,h9 j];show Tv.yE ok (n:=(.always,0,0)) (λh=>by cases h) (λh=>by cases h) (λ_=>rfl)
  ·rw[h8 j,h8 j];show Tv.yE ok (n:=(.fS,c - 97,0)) (λh=>by cases h) (λ_=>(by change c - 97 < 16;lia,rfl)) (λ_=>rfl)
def Kg(ok:Ok ns)(h:kW c=true)(z:p < ↑ns)(D:cv ns p=core f):Tv ns (u6 ns c p) 2 (K_ c) (core (QD c f)):=by
 unfold kW at h;simp only[bw,beq_iff_eq] at h;unfold u6 QD K_
 by_cases J:c=70
 ·rw[h9 J];subst J;have j:=Kj ok (c:=49) rfl;have B:=Tv.yE j.g.ok (n:=(.De,(nV ns 49).2,p)) (λ_=>(j.lt,bF z j.g.le)) (λh=>by cases h) (λh=>by cases h);show((j.g.trans B.g).mono () (by simp[Kd.eX,nj,K_,kindOf]),B.lt,?_);rw[B.FO];change Form.till (cv _ (nV ns 49).2) (cv _ p)=_;rw[j.FO,j.g.cv z,D];rfl
 ·rw[h8 J]
  by_cases M:c=71
  ·rw[h9 M];subst M;have j:=Kj ok (c:=48) rfl;have B:=Tv.yE j.g.ok (n:=(.unless,p,(nV ns 48).2)) (λ_=>(bF z j.g.le,j.lt)) (λh=>by cases h) (λh=>by cases h);show((j.g.trans B.g).mono () (by simp[Kd.eX,nj,K_,kindOf]),B.lt,?_);rw[B.FO];change Form.weak (cv _ p) (cv _ (nV ns 48).2)=_;rw[j.FO,j.g.cv z,D];rfl
  ·rw[h8 M];have N:c=33\/c=88:=by lia
   rcases N with rfl|rfl
   ·have P:=Tv.yE ok (n:=(.not,p,p)) (λ_=>(z,z)) (λh=>by cases h) (λh=>by cases h);show(P.g.mono () (by simp[Kd.eX,nj,K_,kindOf]),P.lt,?_);rw[show kindOf 33= .not from rfl,P.FO];change Form.not (cv ns p)=_;rw[D];rfl
   ·have P:=Tv.yE ok (n:=(.next,p,p)) (λ_=>(z,z)) (λh=>by cases h) (λh=>by cases h);show(P.g.mono () (by simp[Kd.eX,nj,K_,kindOf]),P.lt,?_);rw[show kindOf 88= .next from rfl,P.FO];change Form.next (cv ns p)=_;rw[D];rfl
def SX(ok:Ok ns)(h:jC c=true)(D:l < ↑ns)(B:r < ↑ns)(J:cv ns l=core f)(M:cv ns r=core g):Tv ns (Dj ns c l r) 3 (K_ c) (core (MO c f g)):=by
 unfold jC at h;simp only[bw,beq_iff_eq] at h;unfold Dj K_
 by_cases N:c=45
 ·rw[h9 N];subst N;have j:=Kg ok (c:=33) rfl D J;have z:=Tv.yE j.g.ok (n:=(.or,(u6 ns 33 l).2,r)) (λ_=>(j.lt,bF B j.g.le)) (λh=>by cases h) (λh=>by cases h);show((j.g.trans z.g).mono () (by simp[Kd.eX,nj,K_,kindOf]),z.lt,?_);rw[z.FO];change Form.or (cv _ (u6 ns 33 l).2) (cv _ r)=_;rw[j.FO,j.g.cv B,M];rfl
 ·rw[h8 N]
  by_cases O:c=82
  ·rw[h9 O];subst O;have j:=Tv.yE ok (n:=(.and,l,r)) (λ_=>(D,B)) (λh=>by cases h) (λh=>by cases h);have z:=Tv.yE j.g.ok (n:=(.unless,r,(nY ns (.and,l,r)).2)) (λ_=>(bF B j.g.le,j.lt)) (λh=>by cases h) (λh=>by cases h);show((j.g.trans z.g).mono () (by simp[Kd.eX,nj,K_,kindOf]),z.lt,?_);rw[z.FO];change Form.weak (cv _ r) (cv _ (nY ns (.and,l,r)).2)=_;rw[j.FO,j.g.cv B];change Form.weak (cv ns r) (Form.and (cv ns l) (cv ns r))=_;rw[J,M];rfl
  ·rw[h8 O]
   have Q:(kindOf c).leaf=false:=by unfold kindOf;repeat' split
                                    all_goals rfl
   have U:kindOf c≠ .fS:=λe=>by rw[e] at Q;cases Q
   have P:=Tv.yE ok (n:=(kindOf c,l,r)) (λ_=>(D,B)) (λh=>absurd h U) (λh=>by rw[show(Nd.mk (kindOf c) l r).k=kindOf c from rfl,Q] at h;cases h);have Y:c=60\/c=124\/c=38\/c=85\/c=87:=by lia
   show(P.g.mono () ?_,P.lt,?_)
   ·rcases Y with rfl|rfl|rfl|rfl|rfl <;> simp[Kd.eX,nj,kindOf]
   ·rw[P.FO];change Z8 (kindOf c) l (cv ns l) (cv ns r)=_;rw[J,M];rcases Y with rfl|rfl|rfl|rfl|rfl <;> rfl
structure BS where
 ns:List Nd
 rd:List Nat
 W:List Nat
abbrev zZ(m:Nat)(ns:List Nd):List Nat->List Nat->BS
 |rd,[]=>(ns,rd,[])
 |rd,g ::W=>if m<=binds g then(if kW g=true then(match rd with
  |p ::rd=>zZ m (u6 ns g p).1 ((u6 ns g p).2 ::rd) W
  |[]=>(ns,[],g ::W)) else(match rd with
  |r ::l ::rd=>zZ m (Dj ns g l r).1 ((Dj ns g l r).2 ::rd) W
  |rd=>(ns,rd,g ::W))) else(ns,rd,g ::W)
def Rz(h:¬m<=binds g):zZ m ns rd (g ::W)=(ns,rd,g ::W):=by
 rw[zZ.eq_def];simp only[h8 h]
def Z4(h:m<=binds g)(hu:kW g=true):zZ m ns (p ::rd) (g ::W)=zZ m (u6 ns g p).1 ((u6 ns g p).2 ::rd) W:=by
 rw[zZ.eq_def];simp only[h9 h,h9 hu]
def VA(h:m<=binds g)(hu:kW g=false):zZ m ns (r ::l ::rd) (g ::W)=zZ m (Dj ns g l r).1 ((Dj ns g l r).2 ::rd) W:=by
 rw[zZ.eq_def];simp only[h9 h,h8 (show ¬kW g=true by rw[hu];simp)]
abbrev lH(c:Nat)(s:BS):BS:=
 if c=41 then let t:=zZ 1 s.ns s.rd s.W
  (t.ns,t.rd,t.W.drop 1)
 else if jC c=true then let t:=zZ (gq c) s.ns s.rd s.W
  (t.ns,t.rd,c ::t.W)
 else if c=40\/kW c=true then(s.ns,s.rd,c ::s.W)
 else((nV s.ns c).1,(nV s.ns c).2 ::s.rd,s.W)
abbrev DE(W:List Nat):Nat:=↑(W.filter jC)
abbrev NF(W:List Nat):Nat:=↑(W.filter λc=>c==40)
abbrev vQ(W:List Nat):Nat:=↑(W.filter nj)
abbrev Il(R:List Form):Nat:=(R.map Form.timely).sum
abbrev RQ(c:Nat):Prop:=c=40\/kW c=true\/jC c=true
structure sr(ns:List Nd)(rd W:List Nat)(R:List Form):Prop where
 ok:Ok ns
 len:↑rd=↑R
 at_:∀(i p:Nat) (f:Form),rd[i]? =some p->R[i]? =some f->p < ↑ns/\cv ns p=core f
 ops:∀c∈W,RQ c
def sr.nil(ok:Ok ns):sr ns [] [] []:=(ok,rfl,λi p f h=>by simp at h,λc h=>nomatch h)
def sr.oA:sr ns (p ::rd) W (f ::R)↔sr ns rd W R/\p < ↑ns/\cv ns p=core f:=by
 constructor
 ·intro h;show((h.ok,by have:=h.len;simpa using this,λi q g a b=>h.at_ (i+1) q g (by simpa using a) (by simpa using b),h.ops),h.at_ 0 p f rfl rfl)
 ·rintro⟨h,j,z⟩;show(h.ok,by simpa using h.len,λi q g a b=>?_,h.ops)
  cases i with
  |zero=>simp at a b;subst a b;show(j,z)
  |succ i=>show h.at_ i q g (by simpa using a) (by simpa using b)
def sr.grow(h:sr ns rd W R)(g:vY ns j a b):sr j rd W R:=
 (g.ok,h.len,λi p f x y=>by
  let(h1,h2):=h.at_ i p f x y;show(bF h1 g.le,by rw[g.cv h1,h2]),h.ops)
def sr.tail(h:sr ns rd (j ::W) R):sr ns rd W R:=(h.ok,h.len,h.at_,λc g=>h.ops c (aZ _ g))
def yW(h:kW c=true):jC c=false:=by
 unfold kW at h;unfold jC;simp only[bw,beq_iff_eq] at h;simp only[gn,beq_eq_false_iff_ne];lia
def UJ(h:jC c=true):kW c=false:=by
 cases e:kW c with
 |false=>rfl
 |true=>rw[yW e] at h;cases h
def Vj(h:RQ c)(j:1<=m)(g:m<=binds c):kW c=true\/jC c=true:=by
 rcases h with rfl|h
 ·show absurd g (by change ¬m<=0;lia)
 ·show h
def WH(h:kW c=true)(f:Form):(QD c f).timely=f.timely+K_ c:=by
 unfold kW at h;simp only[bw,beq_iff_eq] at h;have:c=33\/c=88\/c=70\/c=71:=by lia
 rcases this with rfl|rfl|rfl|rfl <;> rfl
def Uc(h:jC c=true)(f g:Form):(MO c f g).timely=f.timely+g.timely+K_ c:=by
 unfold jC at h;simp only[bw,beq_iff_eq] at h;have:c=60\/c=45\/c=124\/c=38\/c=85\/c=82\/c=87:=by lia
 rcases this with rfl|rfl|rfl|rfl|rfl|rfl|rfl <;> rfl
def lV(c:Nat)(W:List Nat):vQ (c ::W)=K_ c+vQ W:=by
 unfold vQ K_;rw[cP]
 by_cases h:nj c=true
 ·rw[h9 h,h9 h,a_];lia
 ·rw[h8 h,h8 h];lia
def uj(c:Nat)(W:List Nat):DE (c ::W)=(if jC c=true then 1 else 0)+DE W:=by
 unfold DE;rw[cP]
 by_cases h:jC c=true
 ·rw[h9 h,h9 h,a_];lia
 ·rw[h8 h,h8 h];lia
def vX(c:Nat)(W:List Nat):NF (c ::W)=(if c=40 then 1 else 0)+NF W:=by
 unfold NF;rw[cP]
 by_cases h:c=40
 ·rw[h9 (by simpa using h),h9 h,a_];lia
 ·rw[h8 (by simpa using h),h8 h];lia
def yt(f:Form)(R:List Form):Il (f ::R)=f.timely+Il R:=rfl
def CB(M:1<=m):∀(W:List Nat) (ns:List Nd) (rd:List Nat) (R:List Form),sr ns rd W R->↑rd=DE W+1->
  (zZ m ns rd W).W=(dw m R W).2/\sr (zZ m ns rd W).ns (zZ m ns rd W).rd (zZ m ns rd W).W (dw m R W).1/\↑(zZ m ns rd W).rd=DE (zZ m ns rd W).W+1/\NF (zZ m ns rd W).W=NF W/\
  (∃a b,vY ns (zZ m ns rd W).ns a b/\a+3*↑(zZ m ns rd W).W<=3*↑W/\b+vQ (zZ m ns rd W).W<=vQ W)/\Il (dw m R W).1+vQ (zZ m ns rd W).W=Il R+vQ W
 |[],ns,rd,R,h,j=>(rfl,h,j,rfl,(0,0,vY.refl h.ok,aT _,aT _),rfl)
 |z ::W,ns,rd,R,h,j=>by
  by_cases D:m<=binds z
  ·rw[Nh D];rcases Vj (h.ops z bg) M D with hu|hu
   ·have N:=yW hu;rw[uj,h8 (by rw[N];simp)] at j
    match rd,R,h,j with
    |[],_,h,j=>simp at j
    |p ::rd,[],h,j=>have:=h.len;simp at this
    |p ::rd,f ::R,h,j=>
     let(h1,O,Q):=sr.oA.mp h.tail;have P:=Kg h.ok hu O Q;have U:=CB M W (u6 ns z p).1 ((u6 ns z p).2 ::rd) (QD z f ::R) (sr.oA.mpr (h1.grow P.g,P.lt,P.FO)) (by simp only[a_] at j ⊢;lia);rw[Z4 D hu];have er:red z (f ::R)=QD z f ::R:=by unfold red;rw[h9 hu]
     rw[er];let(Y,Z,i3,i4,(a,b,g,i5,i6),i7):=U;have B:z≠40:=λe=>by rw[e] at hu;cases hu
     show(Y,Z,i3,?_,(2+a,K_ z+b,P.g.trans g,?_,?_),?_)
     ·rw[i4,vX,h8 B,gF]
     ·rw[a_];lia
     ·rw[lV];lia
     ·rw[i7,yt,yt,WH hu,lV];lia
   ·have J:=UJ hu;rw[uj,h9 hu] at j
    match rd,R,h,j with
    |[],_,h,j=>simp at j
    |[_],_,h,j=>simp only[a_,cW] at j;lia
    |r ::l ::rd,[],h,j=>have:=h.len;simp at this
    |r ::l ::rd,[_],h,j=>have:=h.len;simp at this
    |r ::l ::rd,g ::f ::R,h,j=>
     let(h1,hr,hg):=sr.oA.mp h.tail;let(h2,O,Q):=sr.oA.mp h1;have P:=SX h.ok hu O hr Q hg;have U:=CB M W (Dj ns z l r).1 ((Dj ns z l r).2 ::rd) (MO z f g ::R) (sr.oA.mpr (h2.grow P.g,P.lt,P.FO)) (by simp only[a_] at j ⊢;lia);rw[VA D J];have er:red z (g ::f ::R)=MO z f g ::R:=by unfold red;rw[h8 (by rw[J];simp)]
     rw[er];let(Y,Z,i3,i4,(a,b,g',i5,i6),i7):=U;have B:z≠40:=λe=>by rw[e] at hu;cases hu
     show(Y,Z,i3,?_,(3+a,K_ z+b,P.g.trans g',?_,?_),?_)
     ·rw[i4,vX,h8 B,gF]
     ·rw[a_];lia
     ·rw[lV];lia
     ·rw[i7,yt,yt,yt,Uc hu,lV];lia
  ·rw[dw,h8 D,Rz D];show(rfl,h,j,rfl,(0,0,vY.refl h.ok,⋯,⋯),rfl)
def PQ:∀(W:List Nat) (R:List Form),(∀c∈W,RQ c)->N7 (dw m R W).2 < m\/(dw m R W).2=[]
 |[],R,_=> .inr rfl
 |g ::W,R,h=>by
  by_cases j:m<=binds g
  ·rw[Nh j];show PQ W _ λc z=>h c (aZ _ z)
  ·rw[dw,h8 j];show .inl (by change binds g < m;lia)
def Vm(h:∀c∈W,RQ c)(g:N7 W < 1\/W=[])(z:0 < NF W):∃B,W=40 ::B:=by
 cases W with
 |nil=>simp[NF] at z
 |cons c W=>
  rcases g with g|g
  ·have j:binds c < 1:=g;rcases h c bg with q|q|q
   ·show(W,by rw[q])
   ·exfalso;unfold kW at q;simp only[bw,beq_iff_eq] at q;have:c=33\/c=88\/c=70\/c=71:=by lia
    rcases this with rfl|rfl|rfl|rfl <;> show absurd j (by decide)
   ·exfalso;unfold jC at q;simp only[bw,beq_iff_eq] at q;have:c=60\/c=45\/c=124\/c=38\/c=85\/c=82\/c=87:=by lia
    rcases this with rfl|rfl|rfl|rfl|rfl|rfl|rfl <;> show absurd j (by decide)
  ·cases g
structure Uy(u:Bool)(d:Nat)(s:BS)(sp:List Form×List Nat):Prop where
 W:s.W=sp.2
 rel:sr s.ns s.rd s.W sp.1
 cnt:↑s.rd=DE s.W+(if u=true then 0 else 1)
 par:NF s.W=d
def RH(I:Uy u d s sp)(v:valid u d (t ::ts)):
  ∃u' d',valid u' d' ts/\Uy u' d' (lH t s) (take1 t sp)/\(∃a b,vY s.ns (lH t s).ns a b/\a+3*↑(lH t s).W<=3*↑s.W+3/\b+vQ (lH t s).W<=vQ s.W+K_ t)/\↑(lH t s).W<=↑s.W+1/\Il (take1 t sp).1+vQ (lH t s).W=Il sp.1+vQ s.W+K_ t:=by
 cases u with
 |true=>
  rcases v with⟨rfl,v⟩|⟨h,v⟩|⟨h,v⟩
  ·show(true,d+1,v,(?_,?_,?_,?_),(0,0,vY.refl I.rel.ok,?_,?_),?_,?_)
   ·change 40 ::s.W=40 ::sp.2;rw[I.W]
   ·show⟨I.rel.ok,I.rel.len,I.rel.at_,λc z=>by
     rcases bo.mp z with rfl|z
     ·show .inl rfl
     ·show I.rel.ops c z⟩
   ·change ↑s.rd=DE (40 ::s.W)+0;rw[uj,h8 (by decide)];have:=I.cnt;simpa using this
   ·change NF (40 ::s.W)=d+1;rw[vX,I.par];simp;lia
   ·change 0+3*↑(40 ::s.W)<=_;rw[a_];lia
   ·change 0+vQ (40 ::s.W)<=_;rw[lV];lia
   ·change↑(40 ::s.W)<=_;rw[a_];show aT _
   ·change Il sp.1+vQ (40 ::s.W)=_;rw[lV];lia
  ·have B:=h;unfold iD at B;simp only[bw,bf,decide_eq_true_eq,beq_iff_eq] at B;have j:t≠41:=by lia
   have N:¬jC t=true:=by unfold jC;simp only[bw,beq_iff_eq];lia
   have eu:¬(t=40\/kW t=true):=by unfold kW;simp only[bw,beq_iff_eq];lia
   have et:K_ t=0:=by unfold K_ nj;rw[h8];simp only[bw,beq_iff_eq];lia
   have J:lH t s=((nV s.ns t).1,(nV s.ns t).2 ::s.rd,s.W):=by unfold lH;rw[h8 j,h8 N,h8 eu]
   have M:take1 t sp=(leafOf t ::sp.1,sp.2,):=by unfold take1;rw[h8 j,h8 N,h8 eu]
   have P:=Kj I.rel.ok h;show(false,d,v,?_);rw[J,M];show((I.W,sr.oA.mpr (I.rel.grow P.g,P.lt,P.FO),?_,I.par),(1,0,P.g,by simp only;lia,by simp only;lia),by simp only;lia,?_)
   ·have:=I.cnt;simp at this ⊢;lia
   ·simp only;rw[yt,et]
    have:(leafOf t).timely=0:=by unfold leafOf;repeat' split
                                 all_goals rfl
    lia
  ·have B:=h;unfold kW at B;simp only[bw,beq_iff_eq] at B;have j:t≠41:=by lia
   have N:=yW h;have J:lH t s=(s.ns,s.rd,t ::s.W):=by unfold lH;rw[h8 j,h8 (by rw[N];simp),h9 (.inr h)]
   have M:take1 t sp=(sp.1,t ::sp.2,):=by unfold take1;rw[h8 j,h8 (by rw[N];simp),h9 (.inr h)]
   show(true,d,v,?_);rw[J,M]
   show((by change t ::s.W=t ::sp.2;rw[I.W],⟨I.rel.ok,I.rel.len,I.rel.at_,λc z=>by
    rcases bo.mp z with rfl|z
    ·show .inr (.inl h)
    ·show I.rel.ops c z⟩,?_,?_),(0,0,vY.refl I.rel.ok,by simp only[a_];lia,by simp only;rw[lV];lia),⋯,?_)
   ·change ↑s.rd=DE (t ::s.W)+0;rw[uj,h8 (by rw[N];simp)];have:=I.cnt;simpa using this
   ·change NF (t ::s.W)=d;rw[vX,h8 (),I.par,gF]
   ·change Il sp.1+vQ (t ::s.W)=_;rw[lV];lia
 |false=>
  have Q:↑s.rd=DE s.W+1:=by have:=I.cnt;simpa using this
  rcases v with⟨rfl,hd,v⟩|⟨h,v⟩
  ·let(U,D,Z,O,(a,b,g,Y,i6),i7):=CB (m:=1) (aT _) s.W s.ns s.rd sp.1 I.rel Q;have ht:=PQ (m:=1) s.W sp.1 I.rel.ops;rw[←U] at ht;let(W',eW):=Vm D.ops ht (by rw[O,I.par];show hd)
   have J:lH 41 s=((zZ 1 s.ns s.rd s.W).ns,(zZ 1 s.ns s.rd s.W).rd,W'):=by
    unfold lH;rw[h9 rfl];simp only;rw[eW];rfl
   have M:take1 41 sp=((dw 1 sp.1 s.W).1,W',):=by
    unfold take1;rw[h9 rfl];rw[←I.W,←U,eW];rfl
   show(false,d - 1,v,?_);rw[J,M];rw[eW] at D Z O Y i6 i7;show((rfl,D.tail,?_,?_),(a,b,g,?_,?_),?_,?_)
   ·rw[uj,h8 (by decide)] at Z;simp only;simp;lia
   ·rw[vX,I.par] at O;simp at O ⊢;lia
   ·simp only[a_] at Y ⊢;lia
   ·rw[lV] at i6;simp only;lia
   ·simp only[a_] at Y ⊢;lia
   ·rw[lV] at i7;simp only;have:K_ 40=0:=rfl;have:K_ 41=0:=rfl;lia
  ·have B:=h;unfold jC at B;simp only[bw,beq_iff_eq] at B;have j:t≠41:=by lia
   have ah:1<=gq t:=by unfold gq;repeat' split
                       all_goals lia
   let(U,D,Z,O,(a,b,g,Y,i6),i7):=CB ah s.W s.ns s.rd sp.1 I.rel Q
   have J:lH t s=((zZ (gq t) s.ns s.rd s.W).ns,(zZ (gq t) s.ns s.rd s.W).rd,t ::(zZ (gq t) s.ns s.rd s.W).W):=by
    unfold lH;rw[h8 j,h9 h]
   have M:take1 t sp=((dw (gq t) sp.1 s.W).1,t ::(dw (gq t) sp.1 s.W).2,):=by
    unfold take1;rw[h8 j,h9 h,←I.W]
   show(true,d,v,?_);rw[J,M]
   show((by simp only;rw[U],⟨D.ok,D.len,D.at_,λc z=>by
    rcases bo.mp z with rfl|z
    ·show .inr (.inr h)
    ·show D.ops c z⟩,?_,?_),(a,b,g,by simp only[a_];lia,by simp only;rw[lV];lia),?_,?_)
   ·simp only;rw[uj,h9 h];simp;lia
   ·simp only;rw[vX,h8 (),O,I.par,gF]
   ·simp only[a_];lia
   ·simp only;rw[lV];lia
abbrev kindAt(ns:List Nd)(p:Nat):Kd:=(ns.getD p (.never,0,0)).k
abbrev fN(ns:List Nd):List Nat:=(du ↑ns).filter λp=>(kindAt ns p).eX
abbrev tL(k:Kd):Bool:=match k with
 | .De=>true
 | .unless=>true
 |_=>false
abbrev DS(ns:List Nd)(k:Nat):Nat:=(fN ns).getD k 0
abbrev nT(ns:List Nd):Nat:=↑(fN ns)
abbrev oP(ns:List Nd)(o p:Nat):Bool:=o.testBit ((fN ns).idxOf p)
abbrev iS(ns:List Nd)(L:Nat->Bool)(o:Nat):Nat:=bitsOf (λk=>bef ns L (oP ns o) (DS ns k)) (nT ns)
abbrev l5(ns:List Nd)(L:Nat->Bool)(o:Nat):Nat:=bitsOf (λk=>tL (kindAt ns (DS ns k)) && Dd ns L (oP ns o) (DS ns k)) (nT ns)
abbrev fY(ns:List Nd):Nat:=bitsOf (λk=>tL (kindAt ns (DS ns k))) (nT ns)
def uz(b:Nat->Bool)(n q:Nat)(h:n<=q):(bitsOf b n).testBit q=false:=
 c7 (bF (gM b n) (b_ (by decide) h))
def cS(b:Nat->Bool)(n q:Nat):(bitsOf b n).testBit q=(decide (q < n) && b q):=by
 by_cases h:q < n
 ·rw[dW b n q h,decide_eq_true h,fH]
 ·rw[uz b n q (),decide_eq_false h,gJ]
def D8(g:a < 2^n)(j:b < 2^n)(h:∀q,q < n->a.testBit q=b.testBit q):a=b:=by
 apply cp;intro q
 by_cases z:q < n
 ·show h q z
 ·rw[c7 (bF g (b_ (by decide) ())),c7 (bF j (b_ (by decide) ()))]
def kX(h:ns[p]? =some n):kindAt ns p=n.k:=by
 unfold kindAt;rw[eh h]
def qx:p∈fN ns↔∃n,ns[p]? =some n/\n.k.eX=true:=by
 unfold fN;rw[c8,eY];constructor
 ·rintro⟨h,k⟩;show(ns[p],aS h,?_);rw[kX (aS h)] at k;show k
 ·rintro⟨n,h,k⟩;show((aX.mp h).1,by rw[kX h];show k)
def RN(ns:List Nd):(fN ns).Nodup:=zi xR KS
def PF(h:p∈fN ns):(fN ns).idxOf p < nT ns:=gP.mpr h
def Mf(h:p∈fN ns):DS ns ((fN ns).idxOf p)=p:=by
 unfold DS;have g:=gP.mpr h;rw[eh (aS g)];show oq g
def Jl(h:k < nT ns):DS ns k∈fN ns:=by
 unfold DS;rw[eh (aS h)];show nE _
def VH(h:k < nT ns):(fN ns).idxOf (DS ns k)=k:=by
 unfold DS;rw[eh (aS h)];show List.Nodup.idxOf_getElem (RN ns) k h
def Kn(ns:List Nd)(L:Nat->Bool)(o:Nat):iS ns L o < 2^nT ns:=gM _ _
def Mo(h:p∈fN ns):(iS ns L o).testBit ((fN ns).idxOf p)=bef ns L (oP ns o) p:=by
 unfold iS;rw[dW _ _ _ (PF h),Mf h]
structure Seq(ns:List Nd)(Lc:Nat->Nat->Bool)(c o:Nat->Nat):Prop where
 st:∀i,iS ns (Lc (c (i+1))) (o (i+1))=o i
 yI:∀k,(fY ns).testBit k=true->∀N,∃i,N<=i/\(l5 ns (Lc (c i)) (o i)).testBit k=true
def Fh(ok:Ok ns)(s:Seq ns Lc c o)(D:∀(p:Nat) (n:Nd),ns[p]? =some n->n.k= .fS->∀i,Lc (c i) n.l=(w i).testBit n.l)
 (J:p < ↑ns)(i:Nat):ev ns (Lc (c i)) (oP ns (o i)) p=true↔holds w (cv ns p) i:=by
  show XJ ok (λi=>Lc (c i)) (o:=λi=>oP ns (o i)) D (λi p n j z=>?_) (λp n j z N=>?_) p J i
  ·have g:=qx.mpr (n,j,z);have:=Mo (L:=Lc (c (i+1))) (o:=o (i+1)) g;rw[s.st i] at this;show this
  ·have g:=qx.mpr (n,j,z)
   by_cases B:tL n.k=true
   ·let(i,hi,e):=s.yI ((fN ns).idxOf p) (by unfold fY;rw[dW _ _ _ (PF g),Mf g,kX j];show B) N;show(i,hi,?_);unfold l5 at e;rw[dW _ _ _ (PF g),Mf g,bf] at e;show e.2
   ·show(N,aT _,?_);unfold Dd;rw[j];let(k,l,r):=n
    cases k <;> first|rfl|(show absurd rfl B)
abbrev Z6(ns:List Nd)(p:Nat):Form:=match ns[p]? with
 |some (.next,l,_)=>cv ns l
 |_=>cv ns p
def Si(ok:Ok ns)(M:∀(p:Nat) (n:Nd),ns[p]? =some n->n.k= .fS->L n.l=(w i).testBit n.l)
  (N:∀(p:Nat) (n:Nd),ns[p]? =some n->n.k.eX=true->O p=dc (holds w (Z6 ns p) (i+1))):∀p,p < ↑ns->ev ns L O p=dc (holds w (cv ns p) i):=by
 intro p
 induction p using lX with
 |ind p z=>
  intro Q;obtain⟨n,g⟩:∃n,ns[p]? =some n:=(_,aS Q);have hi:=ok.inner p n g;have j:=N p n g;have E:ev ns L O p=mkE n.k (L n.l) (O p) (ev ns L O n.l) (ev ns L O n.r):=ML ok g;have F:cv ns p=Z8 n.k n.l (cv ns n.l) (cv ns n.r):=qw ok g;show Bs ?_;rw[E,F]
  have B:Z6 ns p=match n.k with
    | .next=>cv ns n.l
    |_=>cv ns p:=by
   unfold Z6;rw[g];let(k,l,r):=n;cases k <;> rfl
  let(k,l,r):=n
  cases k <;> simp only[Kd.leaf,Kd.eX] at hi j B ⊢
  all_goals (simp only[cQ,forall_const,lC,false_implies] at hi j)
  all_goals (try rw[z l hi.1 ()])
  all_goals (try rw[z r hi.2 ()])
  all_goals (try rw[j,B])
  ·change L l=true↔(w i).testBit l=true;rw[M p _ g rfl]
  ·change false=true↔False;simp
  ·change true=true↔True;simp
  ·change(!dc _)=true↔¬holds w _ i;rw[iz,←qC,gi]
  ·change(dc _ && dc _)=true↔holds w _ i/\holds w _ i;rw[bf,gi,gi]
  ·change(dc _ || dc _)=true↔holds w _ i\/holds w _ i;rw[bw,gi,gi]
  ·change(dc _==dc _)=true↔(holds w _ i↔holds w _ i);rcases jP (holds w (cv ns l) i) with⟨a,b⟩|⟨a,b⟩ <;> rcases jP (holds w (cv ns r) i) with⟨D,J⟩|⟨D,J⟩ <;> (rw[b,J];simp[a,D])
  ·change dc _=true↔holds w _ (i+1);rw[gi]
  ·change(dc _ || (dc _ && dc _))=true↔HL (holds w (cv ns l)) (holds w (cv ns r)) i;rw[Fu,bw,bf,gi,gi,gi,F];show or_congr qy and_comm
  ·change(dc _ || (dc _ && dc _))=true↔N4 (holds w (cv ns l)) (holds w (cv ns r)) i;rw[FG,bw,bf,gi,gi,gi,F];show or_congr qy and_comm
def YZ(ok:Ok ns){c w:Nat->Nat}(hL:∀(p:Nat) (n:Nd),ns[p]? =some n->n.k= .fS->∀i,Lc (c i) n.l=(w i).testBit n.l):
  ∃o,(∀i,o i < 2^nT ns)/\Seq ns Lc c o:=by
 show(λi=>bitsOf (λk=>dc (holds w (Z6 ns (DS ns k)) (i+1))) (nT ns),λi=>gM _ _,?_)
 have hO:∀i (p:Nat) (n:Nd),ns[p]? =some n->n.k.eX=true->oP ns (bitsOf (λk=>dc (holds w (Z6 ns (DS ns k)) (i+1))) (nT ns)) p=dc (holds w (Z6 ns p) (i+1)):=λi p n g B=>by
  have J:=qx.mpr (n,g,B);unfold oP;rw[dW _ _ _ (PF J),Mf J]
 have E:=λi=>Si ok (w:=w) (i:=i) (L:=Lc (c i)) (λp n a b=>hL p n a b i) (hO i)
 have D:∀(p:Nat) (n:Nd),ns[p]? =some n->n.k.eX=true->n.l < ↑ns/\n.r < ↑ns:=λp n g B=>by
  have:=ok.inner p n g (by revert B;cases n.k <;> decide);have O:=(aX.mp g).1;lia
 show(λi=>?_,λk z N=>?_)
 ·show D8 (n:=nT ns) (Kn _ _ _) (gM _ _) λq U=>?_;have J:=Jl U;have e:=Mo (L:=Lc (c (i+1))) (o:=bitsOf (λk=>dc (holds w (Z6 ns (DS ns k)) (i+1+1))) (nT ns)) J;rw[VH U] at e;rw[e,dW _ _ _ U];let(n,g,B):=qx.mp J;have O:=(aX.mp g).1;let(Y,hr):=D _ n g B;unfold bef Z6;rw[g];let(Z,l,r):=n
  cases Z <;> first|(cases B;done)|show E (i+1) _ Y|show E (i+1) _ O
 ·have M:k < nT ns:=by
    apply bR;intro h;unfold fY at z;rw[uz _ _ _ ()] at z;cases z
  have J:=Jl M;let(n,g,B):=qx.mp J;have O:=(aX.mp g).1;let(Y,hr):=D _ n g B;unfold fY at z;rw[dW _ _ _ M] at z
  have fin:∀i,Dd ns (Lc (c i)) (oP ns (bitsOf (λk=>dc (holds w (Z6 ns (DS ns k)) (i+1))) (nT ns))) (DS ns k)=true->(l5 ns (Lc (c i)) (bitsOf (λk=>dc (holds w (Z6 ns (DS ns k)) (i+1))) (nT ns))).testBit k=true:=λi h=>by
   unfold l5;rw[dW _ _ _ M,z,h];rfl
  have F:cv ns (DS ns k)=Z8 n.k n.l (cv ns n.l) (cv ns n.r):=qw ok g;rw[kX g] at z;let(Z,l,r):=n
  cases Z <;> simp only[tL] at z <;> try (cases z;done)
  ·
    by_cases h:holds w (cv ns (DS ns k)) N
    ·rw[F] at h;let(j,Q,hg,_):=h;show(j,Q,fin j ?_);unfold Dd;rw[g];simp only;rw[E j _ hr,gi.mpr hg,CY]
    ·show(N,aT _,fin N ?_);unfold Dd;rw[g];simp only;rw[E N _ O,(jP _).elim (λa=>absurd a.1 h) (λa=>a.2)]
     rfl
  ·by_cases h:holds w (cv ns (DS ns k)) N
   ·show(N,aT _,fin N ?_);unfold Dd;rw[g];simp only;rw[E N _ O,gi.mpr h];rfl
   ·have:∃j,N<=j/\¬holds w (cv ns l) j:=by
      apply bR;intro ah;apply h;rw[F];show .inr λj Q=>bR λhh=>ah (j,Q,hh)
    let(j,Q,hh):=this;show(j,Q,fin j ?_);unfold Dd;rw[g];simp only;rw[E j _ Y,(jP _).elim (λa=>absurd a.1 hh) (λa=>a.2)];simp
def Qb(ok:Ok ns)(af:ab < ↑ns){Lc:Nat->Nat->Bool}{props:Nat->Nat}{arc:Nat->Nat->Prop}{start:Nat->Prop}
  (O:∀(p:Nat) (n:Nd),ns[p]? =some n->n.k= .fS->∀s,s < nS->Lc s n.l=(props s).testBit n.l)(ag:∀s,start s->s < nS)(z:∀a b,arc a b->b < nS)
  (hS:∀k e,e∈S k↔∃c o,arc (k / 2^nT ns) c/\o < 2^nT ns/\iS ns (Lc c) o=k % 2^nT ns/\e=(c*2^nT ns+o,l5 ns (Lc c) o,)):
  (∃s o,start s/\o < 2^nT ns/\ev ns (Lc s) (oP ns o) ab=false/\gH S (fY ns) (s*2^nT ns+o))↔∃p:Nat->Nat,start (p 0)/\(∀i,arc (p i) (p (i+1)))/\¬holds (λi=>props (p i)) (cv ns ab) 0:=by
 have D:0 < 2^nT ns:=d9 _
 have dv:∀c o,o < 2^nT ns->(c*2^nT ns+o) / 2^nT ns=c/\(c*2^nT ns+o) % 2^nT ns=o:=λc o h=>by
  constructor
  ·rw[vq,LX D,BP h,gW]
  ·rw[vq,sU,iP h]
 constructor
 ·rintro⟨Q,U,h1,h2,Y,s,e0,e1,e2⟩;have key:∀i,∃c o,arc ((s i).1 / 2^nT ns) c/\o < 2^nT ns/\iS ns (Lc c) o=(s i).1 % 2^nT ns/\s (i+1)=(c*2^nT ns+o,l5 ns (Lc c) o,):=λi=>(hS _ _).mp (e1 i);have B:(s 0).1 / 2^nT ns=Q:=by rw[e0];show(dv Q U h2).1
  have Z:(s 0).1 % 2^nT ns=U:=by rw[e0];show(dv Q U h2).2
  have hA:∀i,arc ((s i).1 / 2^nT ns) ((s (i+1)).1 / 2^nT ns):=λi=>by
   let(c,o,a,b,d,e):=key i;rw[e];change arc _ ((c*2^nT ns+o) / 2^nT ns);rw[(dv c o b).1];show a
  have g:∀i,(s i).1 / 2^nT ns < nS:=λi=>by
   cases i with
   |zero=>rw[B];show ag _ h1
   |succ i=>show z _ _ (hA i)
  have J:Seq ns Lc (λi=>(s i).1 / 2^nT ns) (λi=>(s i).1 % 2^nT ns):=by
   show(λi=>?_,λk hk N=>?_)
   ·let(c,o,a,b,d,e):=key i;rw[e];change iS ns (Lc ((c*2^nT ns+o) / 2^nT ns)) ((c*2^nT ns+o) % 2^nT ns)=_;rw[(dv c o b).1,(dv c o b).2];show d
   ·let(i,hi,e):=e2 k hk (N+1);show(i,(),?_);obtain⟨j,rfl⟩:∃j,i=j+1:=(i - 1,());let(c,o,a,b,d,e'):=key j;rw[e'] at e ⊢;change(l5 ns (Lc ((c*2^nT ns+o) / 2^nT ns)) ((c*2^nT ns+o) % 2^nT ns)).testBit k=true;rw[(dv c o b).1,(dv c o b).2];show e
  show(λi=>(s i).1 / 2^nT ns,by change start ((s 0).1 / 2^nT ns);rw[B];show h1,hA,λhh=>?_);have:=(Fh ok J (w:=λi=>props ((s i).1 / 2^nT ns)) (λp n a b i=>O p n a b _ (g i)) af 0).mpr hh;rw[B,Z,Y] at this
  cases this
 ·rintro⟨p,h1,h2,Y⟩
  have g:∀i,p i < nS:=λi=>by
   cases i with
   |zero=>show ag _ h1
   |succ i=>show z _ _ (h2 i)
  let(o,M,J):=YZ ok (Lc:=Lc) (c:=p) (w:=λi=>props (p i)) (λq n a b i=>O q n a b _ (g i));have H:=Fh ok J (w:=λi=>props (p i)) (λq n a b i=>O q n a b _ (g i)) af 0;show(p 0,o 0,h1,M 0,?_,λi=>(p i*2^nT ns+o i,l5 ns (Lc (p i)) (o i),),rfl,λi=>?_,λk hk N=>J.yI k hk N)
  ·cases e:ev ns (Lc (p 0)) (oP ns (o 0)) ab with
    |false=>rfl
    |true=>show absurd (H.mp e) Y
  ·show(hS _ _).mpr (p (i+1),o (i+1),?_,M _,?_,rfl)
   ·change arc ((p i*2^nT ns+o i) / 2^nT ns) _;rw[(dv _ _ (M i)).1];show h2 i
   ·change _=(p i*2^nT ns+o i) % 2^nT ns;rw[(dv _ _ (M i)).2];show J.st i
section
variable{G:Nat->Nat->Prop}{P:Nat->Nat}
def advance(g:∀i,(G i (P i % K)->P (i+1)=P i+1)/\(¬G i (P i % K)->P (i+1)=P i)):∀d i,G (i+d) (P i % K)->∃j,i<=j/\P j=P i/\G j (P j % K)
 |0,i,h=>(i,aT _,rfl,h)
 |d+1,i,h=>by
  by_cases q:G i (P i % K)
  ·show(i,aT _,rfl,q)
  ·have e:=(g i).2 q
   obtain⟨j,h1,h2,z⟩:=advance g d (i+1) (by rw[e];have:i+1+d=i+(d+1):=by lia
                                            rw[this];show h)
   show(j,(),by rw[h2,e],z)
def afo(B:0 < K)(D:∀i,(G i (P i % K)->P (i+1)=P i+1)/\(¬G i (P i % K)->P (i+1)=P i))(O:∀k,k < K->∀N,∃i,N<=i/\G i k)(Q:k < K)(N:Nat):∃i,N<=i/\P i % K=k/\G i k:=by
 have g:∀i,∃j,i<=j/\P j=P i/\G j (P j % K):=λi=>by
  let(j,z,h):=O (P i % K) (qm _ B) i;show advance D (j - i) i (by rw[dM z];show h)
 have all:∀d,∃i,N<=i/\P i=P N+d:=by
  intro d
  induction d with
  |zero=>show(N,aT _,rfl)
  |succ d U=>
   let(i,hi,e):=U;let(j,z,J,h):=g i;show(j+1,(),by rw[(D j).1 h];lia)
 let(i,hi,e):=all (K*(P N+1)+k - P N)
 have Y:P N<=K*(P N+1)+k:=by
  have:=C5 (P N+1) B;lia
 have Z:P i=K*(P N+1)+k:=by lia
 let(j,z,J,h):=g i;have M:P j % K=k:=by rw[J,Z,sU,iP Q]
 rw[M] at h;show(j,(),M,h)
end
def SN(ok:Ok ns)(af:ab < ↑ns){Lc:Nat->Nat->Bool}{props:Nat->Nat}
  (hL:∀(p:Nat) (n:Nd),ns[p]? =some n->n.k= .fS->∀s,s < m->Lc s n.l=(props s).testBit n.l)
  (B:∀x:Nat,∃c,c < m/\∀(p:Nat) (n:Nd),ns[p]? =some n->n.k= .fS->Lc c n.l=x.testBit n.l)
  (hS:∀k e,e∈S k↔e.1 < 2^nT ns/\(∃c,c < m/\iS ns (Lc c) e.1=k)/\e.2 < 2^nT ns/\∀b,e.2.testBit b=true↔(fY ns).testBit b=true/\∃c,c < m/\iS ns (Lc c) e.1=k/\(l5 ns (Lc c) e.1).testBit b=true):
  (∃o,o < 2^nT ns/\(∃c,c < m/\ev ns (Lc c) (oP ns o) ab=false)/\gH S (fY ns) o)↔∃w:Nat->Nat,¬holds w (cv ns ab) 0:=by
 constructor
 ·rintro⟨o0,h1,⟨c0,h2,h3⟩,s,e0,e1,e2⟩;have key:=λi=>(hS _ _).mp (e1 i);let O:Nat->Nat->Nat->Prop:=λi k c=>c < m/\iS ns (Lc c) (s (i+1)).1=(s i).1/\(l5 ns (Lc c) (s (i+1)).1).testBit k=true;let G:Nat->Nat->Prop:=λi k=>(fY ns).testBit k=true->∃c,O i k c;have Q:∀i,∃c,c < m/\iS ns (Lc c) (s (i+1)).1=(s i).1:=λi=>(key i).2.1
  have D:∀i k,∃c,(c < m/\iS ns (Lc c) (s (i+1)).1=(s i).1)/\(G i k->(fY ns).testBit k=true->(l5 ns (Lc c) (s (i+1)).1).testBit k=true):=λi k=>by
   by_cases q:∃c,O i k c
   ·let(c,a,b,d):=q;show(c,(a,b),λ_ _=>d)
   ·let(c,a):=Q i;show(c,a,λg w=>absurd (g w) q)
  let pick:Nat->Nat->Nat:=λi k=>qz (D i k);have z:∀i k,(pick i k < m/\iS ns (Lc (pick i k)) (s (i+1)).1=(s i).1)/\(G i k->(fY ns).testBit k=true->(l5 ns (Lc (pick i k)) (s (i+1)).1).testBit k=true):=λi k=>jr (D i k);let K:=nT ns;let P:Nat->Nat:=λi=>Wc 0 (λi q=>q+(dc (G i (q % K))).toNat) i;have hP:∀i,P (i+1)=P i+(dc (G i (P i % K))).toNat:=λi=>rfl
  have hs:∀i,(G i (P i % K)->P (i+1)=P i+1)/\(¬G i (P i % K)->P (i+1)=P i):=λi=>by
   rw[hP i];show(λh=>by rw[gi.mpr h];rfl,λh=>by rw[(jP _).elim (λa=>absurd a.1 h) (λa=>a.2)];rfl)
  have hG:∀k,k < K->∀N,∃i,N<=i/\G i k:=λk J N=>by
   by_cases hw:(fY ns).testBit k=true
   ·let(i,hi,e):=e2 k hw (N+1);obtain⟨j,rfl⟩:∃j,i=j+1:=(i - 1,());show(j,(),λ_=>?_);let(_,c,a,b,d):=((key j).2.2.2 k).mp e;show(c,a,b,d)
   ·show(N,aT _,λh=>absurd h hw)
  let c:Nat->Nat:=λi=>match i with
   |0=>c0
   |i+1=>pick i (P i % K)
  have Z:∀i,c i < m:=λi=>by
   cases i with
   |zero=>show h2
   |succ i=>show(z i _).1.1
  have M:Seq ns Lc c (λi=>(s i).1):=by
   show(λi=>(z i _).1.2,λk J N=>?_)
   have ah:k < K:=by
    apply bR;intro h;unfold fY at J;rw[uz _ _ _ ()] at J;cases J
   let(i,hi,e,g):=afo () hs hG ah N;show(i+1,(),?_);have:=(z i (P i % K)).2;rw[e] at this;have q:=this g J;change(l5 ns (Lc (pick i (P i % K))) (s (i+1)).1).testBit k=true;rw[e];show q
  show(λi=>props (c i),λhh=>?_);have:=(Fh ok M (w:=λi=>props (c i)) (λp n a b i=>hL p n a b _ (Z i)) af 0).mpr hh;rw[e0] at this;rw[show c 0=c0 from rfl,h3] at this
  cases this
 ·rintro⟨w,h⟩;let c:Nat->Nat:=λi=>qz (B (w i));have U:∀i,c i < m/\∀(p:Nat) (n:Nd),ns[p]? =some n->n.k= .fS->Lc (c i) n.l=(w i).testBit n.l:=λi=>jr (B (w i));let(o,ho,M):=YZ ok (Lc:=Lc) (c:=c) (w:=w) (λq n a b i=>(U i).2 q n a b);have H:=Fh ok M (w:=w) (λq n a b i=>(U i).2 q n a b) af 0;let gg:Nat->Nat->Nat:=λk o'=>bitsOf (λb=>(fY ns).testBit b && dc (∃c,c < m/\iS ns (Lc c) o'=k/\(l5 ns (Lc c) o').testBit b=true)) (nT ns)
  let s:Nat->Nat×Nat:=λi=>match i with
   |0=>(o 0,0,)
   |i+1=>(o (i+1),gg (o i) (o (i+1)),)
  have s1:∀i,(s i).1=o i:=λi=>by cases i <;> rfl
  have wl:∀b,(fY ns).testBit b=true->b < nT ns:=λb hb=>by
   apply bR;intro h;unfold fY at hb;rw[uz _ _ _ ()] at hb;cases hb
  have Y:∀k o' b,(gg k o').testBit b=true↔(fY ns).testBit b=true/\∃c,c < m/\iS ns (Lc c) o'=k/\(l5 ns (Lc c) o').testBit b=true:=λk o' b=>by
   change(bitsOf _ _).testBit b=true↔_;rw[cS,bf,bf,gi,decide_eq_true_eq];show(λh=>h.2,λh=>(wl b h.1,h))
  show(o 0,ho 0,(c 0,(U 0).1,?_),s,s1 0,λi=>?_,λk J N=>?_)
  ·cases e:ev ns (Lc (c 0)) (oP ns (o 0)) ab with
    |false=>rfl
    |true=>show absurd (H.mp e) h
  ·rw[s1 i];show(hS _ _).mpr (ho _,(c (i+1),(U _).1,M.st i),gM _ _,λb=>Y _ _ b)
  ·let(i,hi,e):=M.yI k J (N+1);obtain⟨j,rfl⟩:∃j,i=j+1:=(i - 1,());show(j+1,(),(Y _ _ k).mpr (J,c (j+1),(U _).1,M.st j,e))
def fk(h:∀q,q < n->a q=b q):bitsOf a n=bitsOf b n:=
 D8 (gM _ _) (gM _ _) λq g=>by rw[dW _ _ _ g,dW _ _ _ g,h q g]
def UZ(a b:Nat->Bool)(n:Nat):bitsOf a n &&& bitsOf b n=bitsOf (λq=>a q && b q) n:=by
 apply cp;intro q;rw[di,cS,cS,cS]
 cases decide (q < n) <;> simp
def J3(a b:Nat->Bool)(n:Nat):bitsOf a n ||| bitsOf b n=bitsOf (λq=>a q || b q) n:=by
 apply cp;intro q;rw[de,cS,cS,cS]
 cases decide (q < n) <;> simp
def G9(a b:Nat->Bool)(n:Nat):bitsOf a n^^^bitsOf b n=bitsOf (λq=>a q^^b q) n:=by
 apply cp;intro q;rw[d_,cS,cS,cS]
 cases decide (q < n) <;> simp
def Bf(n:Nat):2^n - 1=bitsOf (λ_=>true) n:=by
 apply cp;intro q;rw[gY,cS];simp
def Kw(n:Nat):0=bitsOf (λ_=>false) n:=by
 apply cp;intro q;rw[f9,cS];simp
def Ql(j:Nat):(1:Nat).testBit j=decide (0=j):=ik (n:=0) (m:=j)
def Lb(b:Nat->Bool)(n:Nat):bitsOf b n ||| ((b n).toNat*2^n)=bitsOf b (n+1):=by
 apply cp;intro q;rw[de,cS,cS,iQ];rcases Al q n with h|h|h
 ·simp[show q < n+1 by lia,h,show ¬n<=q by lia]
 ·subst h;cases b q <;> simp
 ·have:¬q < n:=by lia
  have h2:¬q < n+1:=by lia
  simp only[this,h2,decide_false,gJ,mL];rw[show decide (n<=q)=true from decide_eq_true ()]
  cases b n
  ·simp
  ·simp only[xr,fH];rw[Ql];simp;lia
abbrev plainT(k:Kd)(full lt a b:Nat):Nat:=match k with
 | .and=>a &&& b
 | .or=>a ||| b
 | .not=>full^^^a
 | .fS=>lt
 | .never=>0
 | .always=>full
 |_=>(full^^^a)^^^b
def NA(g:k.eX=false):plainT k (2^m - 1) (bitsOf x m) (bitsOf a m) (bitsOf b m)=bitsOf (λc=>mkE k (x c) false (a c) (b c)) m:=by
 cases k <;> simp only[plainT,mkE] <;> try (cases g;done)
 ·show Kw m
 ·show Bf m
 ·rw[Bf,G9];show fk λq _=>by simp
 ·show UZ _ _ _
 ·show J3 _ _ _
 ·rw[Bf,G9,G9];show fk λq _=>by cases a q <;> cases b q <;> rfl
abbrev O6(k:Kd)(full a b:Nat)(told:Bool):Nat:=if k= .next then full*told.toNat else if told=false then b else b ||| a
def Wk(g:k.eX=true){x a b:Nat->Bool}:O6 k (2^m - 1) (bitsOf a m) (bitsOf b m) t=bitsOf (λc=>mkE k (x c) t (a c) (b c)) m:=by
 cases k <;> simp only[O6,mkE] <;> try (cases g;done)
 ·rw[h9 trivial]
  cases t
  ·simp only[KY,Nat.mul_zero];show Kw m
  ·simp only[xr,Nat.mul_one];show Bf m
 ·rw[h8 (by decide)]
  cases t
  ·rw[h9 rfl];show fk λq _=>by simp
  ·rw[h8 (by decide),J3];show fk λq _=>by simp
 ·rw[h8 (by decide)]
  cases t
  ·rw[h9 rfl];show fk λq _=>by simp
  ·rw[h8 (by decide),J3];show fk λq _=>by simp
abbrev tabAt(ns:List Nd)(Lc:Nat->Nat->Bool)(m o p:Nat):Nat:=bitsOf (λc=>ev ns (Lc c) (oP ns o) p) m
def O8(ok:Ok ns)(h:ns[p]? =some n)(g:n.k.eX=false):
  tabAt ns Lc m o p=plainT n.k (2^m - 1) (bitsOf (λc=>Lc c n.l) m) (tabAt ns Lc m o n.l) (tabAt ns Lc m o n.r):=by
 unfold tabAt;rw[NA g];show fk λc _=>?_;rw[ML ok h];let(k,l,r):=n
 cases k <;> first|rfl|(cases g;done)
def RJ(ok:Ok ns)(h:ns[p]? =some n)(g:n.k.eX=true):
  tabAt ns Lc m o p=O6 n.k (2^m - 1) (tabAt ns Lc m o n.l) (tabAt ns Lc m o n.r) (oP ns o p):=by
 unfold tabAt;rw[Wk (x:=λc=>Lc c n.l) g];show fk λc _=>ML ok h
abbrev AM(A:List Bool)(n:Nd):Bool:=n.k.eX || (!n.k.leaf && (A.getD n.l false || A.getD n.r false))
abbrev mF(ns:List Nd):List Bool:=build AM ns
abbrev f_(ns:List Nd)(p:Nat):Bool:=(mF ns).getD p false
def Nm(ok:Ok ns)(h:ns[p]? =some n):f_ ns p=(n.k.eX || (!n.k.leaf && (f_ ns n.l || f_ ns n.r))):=by
 unfold f_ mF;rw[eh (Kf AM h)];generalize build AM ns=B;unfold AM;have hi:=ok.inner p n h
 cases e:n.k.leaf with
 |true=>simp
 |false=>rw[uq (hi e).1,uq (hi e).2]
def XE(ok:Ok ns):∀p,p < ↑ns->f_ ns p=false->ev ns L O p=ev ns L D p:=by
 intro p
 induction p using lX with
 |ind p z=>
  intro B g;obtain⟨n,j⟩:∃n,ns[p]? =some n:=(_,aS B);have hi:=ok.inner p n j;rw[Nm ok j] at g;rw[ML ok j,ML ok j];let(k,l,r):=n
  cases k <;> simp only[Kd.leaf,Kd.eX,Ov,zm,gJ,fH,mL,Rl,gn] at hi g ⊢ <;> try (cases g;done)
  all_goals (simp only[cQ,forall_const,lC,false_implies] at hi)
  all_goals (try rfl)
  all_goals (rw[z l hi.1 () g.1,z r hi.2 () g.2];rfl)
def Fg(ok:Ok ns)(g:p < ↑ns)(j:f_ ns p=false):tabAt ns Lc m o p=tabAt ns Lc m o' p:=
 fk λc _=>XE ok p g j
abbrev xI(marks:List Nat)(l:Nat):Nat:=bitsOf (λc=>(marks.getD c 0).testBit l) ↑marks
abbrev Wo(n j:Nat):Nat:=bitsOf (λc=>c.testBit j) (2^n)
def aau(h:j < n):Wo n j ||| (Wo n j*2^2^n)=Wo (n+1) j:=by
 unfold Wo;apply cp;intro q;rw[de,iQ,cS,cS,cS];have e:2^(n+1)=2^n+2^n:=by rw[qB];lia
 by_cases h1:q < 2^n
 ·simp[h1,show q < 2^(n+1) by lia,show ¬2^n<=q by lia]
 ·simp only[decide_eq_false h1,gJ,mL,decide_eq_true (show 2^n<=q by lia),fH]
  by_cases h2:q < 2^(n+1)
  ·rw[decide_eq_true h2,decide_eq_true (show q - 2^n < 2^n by lia),fH,fH];have g:q=2^n+(q - 2^n):=by lia
   conv=>rhs;rw[g]
   rw[Nat.testBit_two_pow_add_gt h]
  ·rw[decide_eq_false h2,decide_eq_false (show ¬q - 2^n < 2^n by lia),gJ,gJ]
def aaS(n:Nat):(2^2^n - 1)*2^2^n=Wo (n+1) n:=by
 unfold Wo;apply cp;intro q;rw[iQ,gY,cS];have e:2^(n+1)=2^n+2^n:=by rw[qB];lia
 by_cases h1:q < 2^n
 ·rw[decide_eq_false (show ¬2^n<=q by lia),gJ,c7 h1,nA]
 ·rw[decide_eq_true (show 2^n<=q by lia),fH]
  by_cases h2:q < 2^(n+1)
  ·rw[decide_eq_true h2,decide_eq_true (show q - 2^n < 2^n by lia),fH];have g:q=2^n+(q - 2^n):=by lia
   rw[g,Nat.testBit_two_pow_add_eq,c7 (show q - 2^n < 2^n by lia)];rfl
  ·rw[decide_eq_false h2,decide_eq_false (show ¬q - 2^n < 2^n by lia),gJ]
abbrev gh:List Nat->Nat->Nat->Nat->List (Nat×Nat)
 |[],_,n,c=>[(n,c,)]
 |t ::ts,a,n,c=>if c &&& t=0 then gh ts (a+1) n c else if c &&& t=c then gh ts (a+1) (n ||| 2^a) (c &&& t)
  else gh ts (a+1) (n ||| 2^a) (c &&& t)++gh ts (a+1) n (c^^^(c &&& t))
structure Agree(ts:List Nat)(a n n' x:Nat):Prop where
 lt:n' < 2^(a+↑ts)
 low:∀j,j < a->n'.testBit j=n.testBit j
 bit:∀(j t:Nat),ts[j]? =some t->n'.testBit (a+j)=t.testBit x
def agM(h:n < 2^a):n ||| 2^a < 2^(a+1):=Nat.or_lt_two_pow (bF h (b_ (by decide) ())) (Nat.pow_lt_pow_right (by decide) ())
def OQ(h:n < 2^a)(z:t.testBit x=true):Agree ts (a+1) (n ||| 2^a) n' x↔Agree (t ::ts) a n n' x:=by
 constructor
 ·rintro⟨h1,h2,g⟩;show(by rw[a_,show a+(↑ts+1)=a+1+↑ts by lia];show h1,λj B=>?_,λj u e=>?_)
  ·rw[h2 j (),de,ik,decide_eq_false (show ¬a=j by lia),kU]
  ·cases j with
    |zero=>
     cases e
     rw[gW,h2 a (),de,mM,CY,z]
    |succ j=>rw[show a+(j+1)=a+1+j by lia];show g j u (by simpa using e)
 ·rintro⟨h1,h2,g⟩;show(by rw[a_,show a+(↑ts+1)=a+1+↑ts by lia] at h1;show h1,λj B=>?_,λj u e=>?_)
  ·by_cases q:j=a
   ·subst q;have:=g 0 t rfl;rw[gW] at this;rw[this,z,de,mM,CY]
   ·rw[h2 j (),de,ik,decide_eq_false (show ¬a=j by lia),kU]
  ·have:=g (j+1) u (by simpa using e);rw[show a+(j+1)=a+1+j by lia] at this;show this
def ME(h:n < 2^a)(z:t.testBit x=false):Agree ts (a+1) n n' x↔Agree (t ::ts) a n n' x:=by
 have B:n.testBit a=false:=c7 h;constructor
 ·rintro⟨h1,h2,g⟩;show(by rw[a_,show a+(↑ts+1)=a+1+↑ts by lia];show h1,λj D=>h2 j (),λj u e=>?_)
  cases j with
  |zero=>cases e;rw[gW,h2 a (),B,z]
  |succ j=>rw[show a+(j+1)=a+1+j by lia];show g j u (by simpa using e)
 ·rintro⟨h1,h2,g⟩;show(by rw[a_,show a+(↑ts+1)=a+1+↑ts by lia] at h1;show h1,λj D=>?_,λj u e=>?_)
  ·by_cases q:j=a
   ·subst q;have:=g 0 t rfl;rw[gW] at this;rw[this,z,B]
   ·show h2 j ()
  ·have:=g (j+1) u (by simpa using e);rw[show a+(j+1)=a+1+j by lia] at this;show this
def ad4(h:c &&& t=0)(g:c.testBit x=true):t.testBit x=false:=by
 have:=congrArg (λz=>z.testBit x) h;simp only[di,g,fH,f9] at this;show this
def aaZ{c t x:Nat}(h:c &&& t=c)(g:c.testBit x=true):t.testBit x=true:=by
 have:=congrArg (λz=>z.testBit x) h;simp only[di,g,fH] at this;show this
def Fo:∀(ts:List Nat) (a n c n' c':Nat),n < 2^a->c≠0->(n',c',)∈gh ts a n c->c'≠0/\∀x,c'.testBit x=true↔c.testBit x=true/\Agree ts a n n' x
 |[],a,n,c,n',c',g,U,h=>by
  rw[gh,bz] at h
  cases h
  show(U,λx=>(λh=>(h,g,λ_ _=>rfl,λj t e=>by simp at e),λh=>h.1))
 |t ::ts,a,n,c,n',c',g,U,h=>by
  rw[gh] at h;have M:n < 2^(a+1):=bF g (b_ (by decide) ())
  by_cases Q:c &&& t=0
  ·rw[h9 Q] at h;let(D,J):=Fo ts (a+1) n c n' c' M U h;show(D,λx=>?_);rw[J x];show and_congr_right λhx=>ME g (ad4 Q hx)
  ·rw[h8 Q] at h
   have yes:∀{n' c'},(n',c',)∈gh ts (a+1) (n ||| 2^a) (c &&& t)->c'≠0/\∀x,c'.testBit x=true↔c.testBit x=true/\Agree (t ::ts) a n n' x:=λ{n' c'} h=>by
    let(D,J):=Fo ts (a+1) (n ||| 2^a) (c &&& t) n' c' (agM g) Q h;show(D,λx=>?_);rw[J x,di,bf];constructor
    ·rintro⟨⟨p,q⟩,r⟩;show(p,(OQ g q).mp r)
    ·rintro⟨p,r⟩
     have q:t.testBit x=true:=by
      let(y,Y):=iA D;have B:=(J y).mp Y;rw[di,bf] at B;have N:=B.2.low a ();rw[de,mM,CY] at N;have O:=r.bit 0 t rfl;rw[gW,N] at O;show O.symm
     show((p,q),(OQ g q).mpr r)
   by_cases h1:c &&& t=c
   ·rw[h9 h1] at h;show yes h
   ·rw[h8 h1] at h;rcases cj.mp h with h|h
    ·show yes h
    ·have Z:c^^^(c &&& t)≠0:=λe=>h1 (by
       apply cp;intro i;have:=congrArg (λz=>z.testBit i) e;simp only[d_,f9] at this;revert this
       cases c.testBit i <;> cases(c &&& t).testBit i <;> simp)
     let(D,J):=Fo ts (a+1) n (c^^^(c &&& t)) n' c' M Z h
     have bx:∀x,(c^^^(c &&& t)).testBit x=true↔c.testBit x=true/\t.testBit x=false:=λx=>by
      rw[d_,di]
      cases c.testBit x <;> cases t.testBit x <;> simp
     show(D,λx=>?_);rw[J x,bx x];constructor
     ·rintro⟨⟨p,q⟩,r⟩;show(p,(ME g q).mp r)
     ·rintro⟨p,r⟩
      have q:t.testBit x=false:=by
       let(y,Y):=iA D;have B:=(J y).mp Y;have N:=B.2.low a ();rw[c7 g] at N;have O:=r.bit 0 t rfl;rw[gW,N] at O;show O.symm
      show((p,q),(ME g q).mpr r)
def Fx:∀(ts:List Nat) (a n c x:Nat),c.testBit x=true->∃n' c',(n',c',)∈gh ts a n c/\c'.testBit x=true
 |[],a,n,c,x,h=>(n,c,by rw[gh];show bz.mpr rfl,h)
 |t ::ts,a,n,c,x,h=>by
  rw[gh]
  by_cases h0:c &&& t=0
  ·rw[h9 h0];show Fx ts (a+1) n c x h
  ·rw[h8 h0]
   by_cases j:t.testBit x=true
   ·let(n',c',g,z):=Fx ts (a+1) (n ||| 2^a) (c &&& t) x (by rw[di,h,j];rfl);show(n',c',?_,z)
    by_cases h1:c &&& t=c
    ·rw[h9 h1];show g
    ·rw[h8 h1];show cf _ g
   ·have h1:¬c &&& t=c:=λe=>j (aaZ e h);rw[h8 h1];let(n',c',g,z):=Fx ts (a+1) n (c^^^(c &&& t)) x (by rw[d_,di,h];simpa using j);show(n',c',bW _ g,z)
def we:∀(ts:List Nat) (a n c:Nat),↑(gh ts a n c)<=2^↑ts/\0 < ↑(gh ts a n c)
 |[],a,n,c=>by rw[gh];show(aT _,Lr)
 |t ::ts,a,n,c=>by
  have g:=we ts (a+1) n c;have j:=we ts (a+1) (n ||| 2^a) (c &&& t);have z:=we ts (a+1) n (c^^^(c &&& t));have e:2^↑(t ::ts)=2^↑ts+2^↑ts:=by rw[a_,qB];lia
  rw[gh,e]
  by_cases h0:c &&& t=0
  ·rw[h9 h0];lia
  ·rw[h8 h0]
   by_cases h1:c &&& t=c
   ·rw[h9 h1];lia
   ·rw[h8 h1,aY];lia
abbrev code(ts:List Nat)(x:Nat):Nat:=bitsOf (λj=>(ts.getD j 0).testBit x) ↑ts
def UB:Agree ts 0 0 n' x↔n'=code ts x:=by
 constructor
 ·rintro⟨h1,_,B⟩;rw[gF] at h1;show D8 h1 (gM _ _) λq g=>?_;unfold code;rw[dW _ _ _ g];have:=B q _ (aS g);rw[gF] at this;rw[this,eh (aS g)]
 ·rintro rfl;show(by rw[gF];show gM _ _,λj z=>absurd z (),λj t e=>?_);have z:=(aX.mp e).1;unfold code;rw[gF,dW _ _ _ z,eh e]
def Bl(g:0 < m)(h:(n',c',)∈gh ts 0 0 (2^m - 1)):c'≠0/\∀x,c'.testBit x=true↔x < m/\n'=code ts x:=by
 have h2:2^m - 1≠0:=by have:2^1<=2^m:=b_ (by decide) g
                       lia
 let(j,z):=Fo ts 0 0 _ n' c' (by decide) h2 h;show(j,λx=>?_);rw[z x,UB,gY,decide_eq_true_eq]
def OD(g:0 < m)(hx:x < m):∃c',(code ts x,c',)∈gh ts 0 0 (2^m - 1)/\c'.testBit x=true:=by
 let(n',c',h1,h2):=Fx ts 0 0 (2^m - 1) x (by rw[gY];simpa using hx);have:=((Bl g h1).2 x).mp h2;rw[this.2] at h1;show(c',h1,h2)
abbrev qe(a b:Nat->Bool)(m:Nat)(v:Bool):Nat->Bool
 |0=>v
 |d+1=>b (m - 1 - d) || (a (m - 1 - d) && qe a b m v d)
abbrev Qa(a b:Nat->Bool)(m u:Nat)(v:Bool):Nat:=bitsOf (λi=>qe a b m (qe a b m v (m - u)) (m - i)) m
def Mp:∀d,qe a b m true d=true->qe a b m false d=false->∀i,i < d->a (m - 1 - i)=true/\b (m - 1 - i)=false
 |0,_,_,i,hi=>absurd hi ()
 |d+1,h1,h2,i,hi=>by
  simp only[qe,bw,bf,gn,cU] at h1 h2;have z:b (m - 1 - d)=false:=h2.1;rw[z] at h1;have g:=h1.resolve_left ⋯
  have j:qe a b m false d=false:=by
   rcases h2.2 with q|q
   ·rw[g.1] at q;cases q
   ·show q
  rcases kK i d with q|q
  ·show Mp d g.2 j i q
  ·have:i=d:=by lia
   subst this;show(g.1,z)
def QG{a b n:Nat->Bool}(st:∀i,i < m->n i=(b i || (a i && n (i+1)))):∀d,d<=m->qe a b m (n m) d=n (m - d)
 |0,_=>rfl
 |d+1,h=>by
  rw[qe,QG st d (),st (m - (d+1)) (),show m - 1 - d=m - (d+1) by lia,show m - (d+1)+1=m - d by lia]
def YF(hu:u < m)(st:∀i,n i=(b i || (a i && n (i+1))))(j:n m=n u)(v:Bool)
  (B:v=false->(∀i,u<=i->i < m->b i=false)->n u=false)(h1:v=true->(∀i,u<=i->i < m->a i=true)->n u=true):Qa a b m u v=bitsOf n m:=by
 have D:qe a b m v (m - u)=n u:=by
  have K:=QG (m:=m) (λi _=>st i) (m - u) ();rw[show m - (m - u)=u by lia,j] at K
  cases v with
  |false=>
   cases z:n u with
   |false=>
    rw[z] at K;show K
   |true=>
    rw[z] at K
    cases ev:qe a b m false (m - u) with
    |true=>rfl
    |false=>
     have g:=Mp (m - u) K ev
     have:=B rfl λi h1 h2=>by
      have:=(g (m - 1 - i) ()).2;rw[show m - 1 - (m - 1 - i)=i by lia] at this;show this
     rw[this] at z;cases z
  |true=>
   cases z:n u with
   |true=>rw[z] at K;show K
   |false=>
    rw[z] at K
    cases ev:qe a b m true (m - u) with
    |false=>rfl
    |true=>
     have g:=Mp (m - u) ev K
     have:=h1 rfl λi h1 h2=>by
      have:=(g (m - 1 - i) ()).1;rw[show m - 1 - (m - 1 - i)=i by lia] at this;show this
     rw[this] at z;cases z
 unfold Qa;rw[D,←j];show fk λi hi=>?_;rw[QG (m:=m) (λi _=>st i) (m - i) (),show m - (m - i)=i by lia]
abbrev vz(ns:List Nd)(w:List Nat)(u p:Nat):Nat:=bitsOf (λi=>dc (holds (round w u) (cv ns p) i)) ↑w
section
variable{ns:List Nd}(ok:Ok ns){w:List Nat}{u p:Nat}{n:Nd}(hu:u < ↑w)(h:ns[p]? =some n)
include ok hu h
def OE(g:n.k.eX=false):vz ns w u p=plainT n.k (2^↑w - 1) (xI w n.l) (vz ns w u n.l) (vz ns w u n.r):=by
 unfold vz xI;rw[NA g];show fk λi hi=>(Bs ?_).symm;rw[qw ok h];let(k,l,r):=n
 cases k <;> simp only[mkE,Z8] <;> try (cases g;done)
 ·change(w.getD i 0).testBit l=true↔(round w u i).testBit l=true;rw[Fw,yP hi]
 ·change _↔False;simp
 ·change _↔True;simp
 ·change(!dc _)=true↔¬holds _ _ i;rw[iz,←qC,gi]
 ·change(dc _ && dc _)=true↔holds _ _ i/\holds _ _ i;rw[bf,gi,gi]
 ·change(dc _ || dc _)=true↔holds _ _ i\/holds _ _ i;rw[bw,gi,gi]
 ·change(dc _==dc _)=true↔(holds _ _ i↔holds _ _ i);rcases jP (holds (round w u) (cv ns l) i) with⟨a,b⟩|⟨a,b⟩ <;> rcases jP (holds (round w u) (cv ns r) i) with⟨j,z⟩|⟨j,z⟩ <;> (rw[b,z];simp[a,j])
def Y_(g:n.k= .next):vz ns w u p=(vz ns w u n.l / 2^1) ||| (((vz ns w u n.l).testBit u).toNat*2^(↑w - 1)):=by
 unfold vz;apply cp;intro q;rw[de,iQ,BV,cS,cS,dW _ _ _ hu,qw ok h];let(k,l,r):=n
 cases g
 simp only[Z8]
 have z:∀(x:Bool) (j:Nat),x.toNat.testBit j=(decide (j=0) && x):=λx j=>by
  cases x
  ·simp
  ·rw[xr,Ql];simp[eq_comm]
 rw[z];rcases Al q (↑w - 1) with c|c|c
 ·rw[decide_eq_true (show q < ↑w by lia),decide_eq_true (show q+1 < ↑w by lia),decide_eq_false (show ¬↑w - 1<=q by lia)];simp only[fH,gJ,kU]
  rfl
 ·rw[decide_eq_true (show q < ↑w by lia),decide_eq_false (show ¬q+1 < ↑w by lia),decide_eq_true (show ↑w - 1<=q by lia),decide_eq_true (show q - (↑w - 1)=0 by lia)];simp only[fH,gJ,mL];show(Bs (gi.trans ?_)).symm;change holds (round w u) (cv ns l) u↔holds (round w u) (cv ns l) (q+1);rw[show q+1=↑w by lia,←Po hu (cv ns l) ↑w]
  have:pos ↑w u ↑w=u:=by
   unfold pos;rw[h8 (),JE];lia
  rw[this]
 ·rw[decide_eq_false (show ¬q < ↑w by lia),decide_eq_false (show ¬q+1 < ↑w by lia),decide_eq_false (show ¬q - (↑w - 1)=0 by lia)];simp
def Xj(M:tL n.k=true):vz ns w u p=Qa (λi=>(vz ns w u n.l).testBit i) (λi=>(vz ns w u n.r).testBit i) ↑w u (decide (n.k= .unless)):=by
 have U:∀q i,i < ↑w->(vz ns w u q).testBit i=dc (holds (round w u) (cv ns q) i):=λq i hi=>by unfold vz;rw[dW _ _ _ hi]
 have Z:Qa (λi=>(vz ns w u n.l).testBit i) (λi=>(vz ns w u n.r).testBit i) ↑w u (decide (n.k= .unless))=Qa (λi=>dc (holds (round w u) (cv ns n.l) i)) (λi=>dc (holds (round w u) (cv ns n.r) i)) ↑w u (decide (n.k= .unless)):=by
  have ev:∀v d,d<=↑w->qe (λi=>(vz ns w u n.l).testBit i) (λi=>(vz ns w u n.r).testBit i) ↑w v d=qe (λi=>dc (holds (round w u) (cv ns n.l) i)) (λi=>dc (holds (round w u) (cv ns n.r) i)) ↑w v d:=by
   intro v d
   induction d with
   |zero=>intro _;rfl
   |succ d ih=>
    intro hd;rw[qe,qe,ih (),U _ _ (),U _ _ ()]
  unfold Qa;show fk λi hi=>?_;rw[ev _ _ (),ev _ _ ()]
 rw[Z]
 have z:∀q i,dc (holds (round w u) (cv ns q) (pos ↑w u i))=dc (holds (round w u) (cv ns q) i):=λq i=>by
  show Bs (gi.trans (Po hu _ i))
 have N:pos ↑w u ↑w=u:=by
  unfold pos;rw[h8 (),JE];lia
 have g:∀j,u<=j->u<=pos ↑w u j/\pos ↑w u j < ↑w:=λj D=>(by unfold pos;split <;> lia,mv hu);show(YF hu (n:=λi=>dc (holds (round w u) (cv ns p) i)) ?_ ?_ _ ?_ ?_).symm
 ·intro i;show(Bs ?_).symm;rw[bw,bf,gi,gi,gi,qw ok h];let(k,l,r):=n
  cases k <;> simp only[tL] at M <;> try (cases M;done)
  ·show(Fu (a:=holds (round w u) (cv ns l)) (b:=holds (round w u) (cv ns r))).symm
  ·show(FG (a:=holds (round w u) (cv ns l)) (b:=holds (round w u) (cv ns r))).symm
 ·change dc _=dc _;rw[←z p ↑w,N]
 ·intro O Q
  have B:n.k= .De:=by
   revert M O;cases n.k <;> simp[tL]
  show(jP _).elim (λa=>?_) (λa=>a.2);exfalso;have Y:=a.1;rw[qw ok h,B] at Y;let(j,D,hg,_):=Y;have:=Q (pos ↑w u j) (g j D).1 (g j D).2;rw[z,gi.mpr hg] at this;cases this
 ·intro O J;have B:n.k= .unless:=by simpa using O
  show gi.mpr ?_;rw[qw ok h,B];show .inr λj D=>gi.mp ?_;rw[←z];show J _ (g j D).1 (g j D).2
end
abbrev K9(ts:List Nat):Nat:=(ts.map K_).sum
abbrev putAll(ts:List Nat)(s:BS):BS:=ts.foldl (λs t=>lH t s) s
def SS:∀(ts:List Nat) (u:Bool) (d:Nat) (s:BS) (sp:List Form×List Nat),Uy u d s sp->valid u d ts->
  Uy false 0 (putAll ts s) (gL ts sp)/\(∃a b,vY s.ns (putAll ts s).ns a b/\a+3*↑(putAll ts s).W<=3*↑s.W+3*↑ts/\b+vQ (putAll ts s).W<=vQ s.W+K9 ts)/\
  ↑(putAll ts s).W<=↑s.W+↑ts/\Il (gL ts sp).1+vQ (putAll ts s).W=Il sp.1+vQ s.W+K9 ts
 |[],u,d,s,sp,I,v=>by
  obtain⟨hu,hd⟩:u=false/\d=0:=by
   cases u <;> show v
  subst hu hd;show(I,(0,0,vY.refl I.rel.ok,by change 0+3*↑s.W<=_;lia,by change 0+vQ s.W<=_;lia),aT _,rfl)
 |t ::ts,u,d,s,sp,I,v=>by
  let(u',d',D,M,(a,b,g,h1,h2),N,O):=RH I v;let(J,(j,z,g',k1,Q),U,Y):=SS ts u' d' (lH t s) (take1 t sp) M D;have B:K9 (t ::ts)=K_ t+K9 ts:=by unfold K9;rw[cg,fe]
  show(J,(a+j,b+z,g.trans g',?_,?_),?_,?_)
  ·change a+j+3*↑(putAll ts (lH t s)).W<=_;rw[a_];lia
  ·change b+z+vQ (putAll ts (lH t s)).W<=_;rw[B];lia
  ·change↑(putAll ts (lH t s)).W<=_;rw[a_];lia
  ·change Il (gL ts (take1 t sp)).1+vQ (putAll ts (lH t s)).W=_;rw[B];lia
abbrev yR(ns:List Nd)(ts:List Nat):BS:=let s:=putAll ts (ns,[],[])
 zZ 1 s.ns s.rd s.W
def TH(ok:Ok ns)(v:valid true 0 ts):∃ab,(yR ns ts).rd=[ab]/\(yR ns ts).W=[]/\ab < ↑(yR ns ts).ns/\
  cv (yR ns ts).ns ab=core (finish (gL ts ([],[],)))/\vY ns (yR ns ts).ns (3*↑ts) (K9 ts)/\(finish (gL ts ([],[],))).timely=K9 ts:=by
 have I0:Uy true 0 (ns,[],[]) ([],[],):=(rfl,sr.nil ok,rfl,rfl);let(J,(a,b,g,h1,h2),h3,h4):=SS ts true 0 _ _ I0 v;have Y:=J.cnt;simp only[cQ,if_false] at Y;let(Z,i2,i3,i4,(a',b',g',i5,i6),i7):=CB (m:=1) (aT _) _ _ _ _ J.rel Y;have U:=PQ (m:=1) (putAll ts (ns,[],[])).W (gL ts ([],[],)).1 J.rel.ops;rw[←Z] at U;have hp:NF (zZ 1 (putAll ts (ns,[],[])).ns (putAll ts (ns,[],[])).rd (putAll ts (ns,[],[])).W).W=0:=by rw[i4];show J.par
 have hW:(yR ns ts).W=[]:=by
  change(zZ 1 _ _ _).W=[];generalize hD:zZ 1 (putAll ts (ns,[],[])).ns (putAll ts (ns,[],[])).rd (putAll ts (ns,[],[])).W=D at*
  cases e:D.W with
  |nil=>rfl
  |cons c W'=>
   exfalso;rw[e] at hp U;have hop:=i2.ops c (by rw[e];show bg)
   have hb:binds c < 1:=by
    rcases U with q|q
    ·show q
    ·cases q
   rcases hop with q|q
   ·rw[vX,h9 q] at hp;lia
   ·rcases q with q|q
    ·unfold kW at q;simp only[bw,beq_iff_eq] at q;have:c=33\/c=88\/c=70\/c=71:=by lia
     rcases this with rfl|rfl|rfl|rfl <;> show absurd hb (by decide)
    ·unfold jC at q;simp only[bw,beq_iff_eq] at q;have:c=60\/c=45\/c=124\/c=38\/c=85\/c=82\/c=87:=by lia
     rcases this with rfl|rfl|rfl|rfl|rfl|rfl|rfl <;> show absurd hb (by decide)
 have ah:(yR ns ts).W=(dw 1 (gL ts ([],[],)).1 (putAll ts (ns,[],[])).W).2:=Z;have z:sr (yR ns ts).ns (yR ns ts).rd (yR ns ts).W (dw 1 (gL ts ([],[],)).1 (putAll ts (ns,[],[])).W).1:=i2;have j:↑(yR ns ts).rd=DE (yR ns ts).W+1:=i3;have g2:vY (putAll ts (ns,[],[])).ns (yR ns ts).ns a' b':=g';have B:a'+3*↑(yR ns ts).W<=3*↑(putAll ts (ns,[],[])).W:=i5;have M:b'+vQ (yR ns ts).W<=vQ (putAll ts (ns,[],[])).W:=i6;have N:Il (dw 1 (gL ts ([],[],)).1 (putAll ts (ns,[],[])).W).1+vQ (yR ns ts).W=Il (gL ts ([],[],)).1+vQ (putAll ts (ns,[],[])).W:=i7;have ef:finish (gL ts ([],[],))=(dw 1 (gL ts ([],[],)).1 (putAll ts (ns,[],[])).W).1.headD .no:=by unfold finish;rw[J.W]
 rw[hW] at z j B M N;generalize hD:(dw 1 (gL ts ([],[],)).1 (putAll ts (ns,[],[])).W).1=R at*;have Q:=z.len
 match O:(yR ns ts).rd,hR:R with
 |[],_=>rw[O] at j;simp[DE] at j
 |_ ::_ ::_,_=>rw[O] at j;simp[DE] at j
 |[ab],[]=>rw[O] at Q;simp at Q
 |[ab],_ ::_ ::_=>rw[O] at Q;simp at Q
 |[ab],[f]=>
  rw[O] at z;let(_,k1,k2):=sr.oA.mp z;show(ab,rfl,hW,k1,by rw[ef];show k2,(g.trans g2).mono ?_ ?_,?_)
  ·simp only[cW] at B h1;lia
  ·simp only[vQ,sS,cW] at M h2;lia
  ·rw[ef];simp only[vQ,sS,cW,Il,cg,gE,fe,i_] at N h4;change f.timely=_;lia
def Su(b:Bytes):yy b=match iR (sD 0) b with
  | .error e=> .error (↑b - e)
  | .ok ts=> .ok (finish (gL ts ([],[],))):=by
 rw[run_read,VG]
 cases iR (sD 0) b <;> rfl
def UO(ts:List Nat):K9 ts=↑(ts.filter nj):=by
 induction ts with
 |nil=>rfl
 |cons t ts g=>
  have:K9 (t ::ts)=K_ t+K9 ts:=by unfold K9;rw[cg,fe]
  rw[this,g,cP];unfold K_
  by_cases h:nj t=true
  ·rw[h9 h,h9 h,a_];lia
  ·rw[h8 h,h8 h];lia
abbrev vA(ns:List Nd)(Tb:List Nat):List Nat:=(fN ns).map λp=>Tb.getD (if kindAt ns p= .next then(ns.getD p (.never,0,0)).l else p) 0
abbrev W5(nd:Nd)(full:Nat)(Tb:List Nat)(p:Nat):Nat:=if nd.k= .De then(full^^^Tb.getD p 0) ||| Tb.getD nd.r 0 else if nd.k= .unless then Tb.getD p 0 ||| (full^^^Tb.getD nd.l 0) else 0
abbrev vC(ns:List Nd)(full:Nat)(Tb:List Nat):List Nat:=(fN ns).map λp=>W5 (ns.getD p (.never,0,0)) full Tb p
def Bx(ns:List Nd)(Tb:List Nat):↑(vA ns Tb)=nT ns:=by unfold vA nT;rw[aQ]
def Eu(ns:List Nd)(full:Nat)(Tb:List Nat):↑(vC ns full Tb)=nT ns:=by unfold vC nT;rw[aQ]
def getD_map{l:List α}{f:α->β}{d:β}{e:α}(h:i < ↑l):(l.map f).getD i d=f (l.getD i e):=by
 rw[ba,ba,dA,aS h];rfl
def RX(as bs:List Nat)(x:Nat):code (as++bs) x=code as x+code bs x*2^↑as:=by
 have g:code as x < 2^↑as:=gM _ _;rw[yr,←KZ,Nat.shiftLeft_add_eq_or_of_lt g,KZ];apply cp;intro q;unfold code;rw[de,iQ,cS,cS,cS,aY];rw[ba,ba,ba]
 by_cases h:q < ↑as
 ·rw[eU h,decide_eq_true h,decide_eq_true (show q < ↑as+↑bs by lia),decide_eq_false (show ¬↑as<=q by lia)];simp
 ·rw[cX (),decide_eq_false h,decide_eq_true (show ↑as<=q by lia)]
  have:decide (q < ↑as+↑bs)=decide (q - ↑as < ↑bs):=by
   by_cases h2:q < ↑as+↑bs
   ·rw[decide_eq_true h2,decide_eq_true ()]
   ·rw[decide_eq_false h2,decide_eq_false ()]
  rw[this];simp
section
variable{ns:List Nd}(ok:Ok ns){Lc:Nat->Nat->Bool}{m o x:Nat}{Tb:List Nat}(hT:∀p,p < ↑ns->Tb.getD p 0=tabAt ns Lc m o p)(hx:x < m)
include ok hT hx
def Ky(g:p < ↑ns):(Tb.getD p 0).testBit x=ev ns (Lc x) (oP ns o) p:=by
 rw[hT p g];unfold tabAt;rw[dW _ _ _ hx]
def IZ:code (vA ns Tb) x=iS ns (Lc x) o:=by
 unfold code iS;rw[Bx];show fk λk z=>?_;unfold vA;rw[getD_map (e:=0) z];change(Tb.getD (if kindAt ns (DS ns k)= .next then(ns.getD (DS ns k) (.never,0,0)).l else DS ns k) 0).testBit x=_;let(n,g,j):=qx.mp (Jl z);have B:=(aX.mp g).1;have hi:=ok.inner _ n g (by revert j;cases n.k <;> decide);rw[kX g,eh g];unfold bef;rw[g];let(D,l,r):=n
 cases D <;> simp only[Kd.eX] at j <;> try (cases j;done)
 ·rw[h9 rfl];show Ky ok hT hx (show l < ↑ns by simp only at hi;lia)
 ·rw[h8 ⋯];show Ky ok hT hx B
 ·rw[h8 ⋯];show Ky ok hT hx B
def So:code (vC ns (2^m - 1) Tb) x=l5 ns (Lc x) o:=by
 unfold code l5;rw[Eu];show fk λk z=>?_;unfold vC;rw[getD_map (e:=0) z];change(W5 (ns.getD (DS ns k) (.never,0,0)) (2^m - 1) Tb (DS ns k)).testBit x=_;let(n,g,j):=qx.mp (Jl z);have D:=(aX.mp g).1;have hi:=ok.inner _ n g (by revert j;cases n.k <;> decide);have B:(2^m - 1).testBit x=true:=by rw[gY];simpa using hx
 rw[kX g,eh g];unfold Dd W5;rw[g];let(J,l,r):=n;simp only at hi;have M:=Ky ok hT hx (show l < ↑ns by lia);have er:=Ky ok hT hx (show r < ↑ns by lia);have ep:=Ky ok hT hx D
 cases J <;> simp only[Kd.eX] at j <;> try (cases j;done)
 ·rw[h8 ⋯,h8 ⋯];simp[tL]
 ·rw[h9 rfl,de,d_,B,ep,er];simp[tL]
 ·rw[h8 ⋯,h9 rfl,de,d_,B,ep,M];simp[tL]
def W0:code (vA ns Tb++vC ns (2^m - 1) Tb) x % 2^nT ns=iS ns (Lc x) o/\code (vA ns Tb++vC ns (2^m - 1) Tb) x / 2^nT ns=l5 ns (Lc x) o:=by
 have g:=Kn ns (Lc x) o;rw[RX,Bx,IZ ok hT hx,So ok hT hx,vq];constructor
 ·rw[yr,sU,iP g]
 ·rw[yr,LX (d9 _),BP g,gW]
end
abbrev Iq(ns:List Nd)(b o:Nat):Nat:=bitsOf (λk=>(decide (kindAt ns (DS ns k)= .De) && b.testBit k && o.testBit k) || (decide (kindAt ns (DS ns k)= .unless) && !(b.testBit k || o.testBit k))) (nT ns)
def aeu(ns:List Nd)(b o:Nat):Iq ns b o < 2^nT ns:=gM _ _
def Ye(h:(Iq ns b o).testBit k=true):k < nT ns/\(fY ns).testBit k=true:=by
 unfold Iq at h;rw[cS,bf,decide_eq_true_eq] at h;show(h.1,?_);unfold fY;rw[dW _ _ _ h.1];have:=h.2;revert this
 cases kindAt ns (DS ns k) <;> simp[tL]
def Nb(ok:Ok ns)(j:(fY ns).testBit k=true)(h:(Iq ns (iS ns L o) o).testBit k=false):(l5 ns L o).testBit k=true:=by
 have g:k < nT ns:=by
  apply bR;intro J;unfold fY at j;rw[uz _ _ _ ()] at j;cases j
 unfold fY at j;rw[dW _ _ _ g] at j;unfold l5;rw[dW _ _ _ g,j,fH];unfold Iq at h;rw[dW _ _ _ g] at h;unfold iS at h;rw[dW _ _ _ g] at h;let(n,z,M):=qx.mp (Jl g);have E:=ML ok (L:=L) (o:=oP ns o) z;have B:oP ns o (DS ns k)=o.testBit k:=by unfold oP;rw[VH g]
 rw[B] at E;rw[kX z] at h j;unfold bef at h;unfold Dd;rw[z] at h ⊢;let(D,l,r):=n
 cases D <;> simp only[tL] at j <;> try (cases j;done)
 all_goals simp only[mkE] at E h ⊢
 all_goals rw[E] at h ⊢
 all_goals revert h
 all_goals cases ev ns L (oP ns o) l <;> cases ev ns L (oP ns o) r <;> cases o.testBit k <;> simp
abbrev fV(arcs:List (List Nat))(steps:List (List (List (Nat×Nat))))(N:Nat):Gr:=λk=>(arcs.getD (k / N) []).flatMap λother=>((steps.getD other []).getD (k % N) []).map λe=>(other*N+e.1,e.2,)
def Ph:e∈fV arcs steps N k↔∃c∈arcs.getD (k / N) [],∃x∈(steps.getD c []).getD (k % N) [],e=(c*N+x.1,x.2,):=by
 unfold fV;rw[BN];constructor
 ·rintro⟨c,g,h⟩;let(x,hx,rfl):=fc.mp h;show(c,g,x,hx,rfl)
 ·rintro⟨c,g,x,hx,rfl⟩;show(c,g,fc.mpr (x,hx,rfl))
def Sr(ns:List Nd)(L:Nat->Bool)(o:Nat):sub (l5 ns L o) (fY ns):=λi h=>by
 unfold l5 at h;unfold fY;rw[cS,bf,bf] at h;rw[cS,h.1,h.2.1];rfl
abbrev Pr(b p:Nat)(t:Int)(n:Nat):Prop:=∀i,n.testBit i=if i=p then decide (t≠0) else b.testBit i
structure yi(S:System_)(n st:Nat)(ms as:List Nat):Prop where
 Kt:S.n=n
 pos:1<=n
 le:n<=64
 ml:↑ms=n
 al:↑as=n
 prp:∀i,i < n->S.props i=ms.getD i 0
 mlt:∀i,i < n->ms.getD i 0 < 65536
 RO:∀i j,i < n->j < n->S.arcs i j=(as.getD i 0).testBit j
 alt:∀i,i < n->as.getD i 0 < 2^n
 stb:∀i,i < n->S.starts i=st.testBit i
 slt:st < 2^n
def Jj(n i:Nat):(bq n 0).getD i 0=0:=by
 rw[ba,dY];split <;> rfl
def yi.fresh{n:Nat}(h1:1<=n)(h2:n<=64):yi (fresh n) n 0 (bq n 0) (bq n 0):=by
 show(rfl,h1,h2,fz,fz,λi hi=>?_,λi hi=>?_,λi j hi g=>?_,λi hi=>?_,λi hi=>?_,d9 _)
 ·rw[Jj];rfl
 ·rw[Jj];lia
 ·rw[Jj,f9];rfl
 ·rw[Jj];show d9 _
 ·rw[f9];rfl
def ID{l:List Nat}(h:i < ↑l):(l.set i v).getD j 0=if j=i then v else l.getD j 0:=by
 rw[ba,ba,mf]
 by_cases e:i=j
 ·rw[h9 e,h9 (by lia:j=i)];rw[h9 (by lia:i < ↑l)];rfl
 ·rw[h8 e,h8 (by lia:¬j=i)]
def yi.mark(R:yi S n st ms as)(j:s < n)(z:v < 65536):yi {S with props:=λx=>if x=s then v else S.props x} n st (ms.set s v) as:=by
 have g:s < ↑ms:=by rw[R.ml];show j
 show(R.Kt,R.pos,R.le,by rw[eQ];show R.ml,R.al,λi hi=>?_,λi hi=>?_,R.RO,R.alt,R.stb,R.slt)
 ·rw[ID g];change(if i=s then v else S.props i)=_
  by_cases e:i=s
  ·rw[h9 e,h9 e]
  ·rw[h8 e,h8 e];show R.prp i hi
 ·rw[ID g]
  by_cases e:i=s
  ·rw[h9 e];show z
  ·rw[h8 e];show R.mlt i hi
def Vc(g:b < 2^n)(j:p < n)(h:Pr b p t v):v < 2^n:=by
 apply zP;intro i hi;rw[h i,h8 ()];show c7 (bF g (b_ (by decide) hi))
def ne_bool(t:Int):(t !=0)=decide (t≠0):=by
 by_cases h:t=0
 ·subst h;rfl
 ·rw[decide_eq_true h];simpa using h
def yi.arcs(R:yi S n st ms as)(z:a < n)(M:b < n)(B:Pr (as.getD a 0) b t v):yi {S with arcs:=λx y=>if x=a/\y=b then t !=0 else S.arcs x y} n st ms (as.set a v):=by
 have D:a < ↑as:=by rw[R.al];show z
 show(R.Kt,R.pos,R.le,R.ml,by rw[eQ];show R.al,R.prp,R.mlt,λi j hi J=>?_,λi hi=>?_,R.stb,R.slt)
 ·rw[ID D];change(if i=a/\j=b then t !=0 else S.arcs i j)=_
  by_cases e:i=a
  ·rw[h9 e,B j]
   by_cases g:j=b
   ·rw[h9 (e,g),h9 g,ne_bool]
   ·rw[h8 (λh=>g h.2),h8 g,R.RO i j hi J,e]
  ·rw[h8 (λh=>e h.1),h8 e];show R.RO i j hi J
 ·rw[ID D]
  by_cases e:i=a
  ·rw[h9 e];show Vc (R.alt a z) M B
  ·rw[h8 e];show R.alt i hi
def yi.start(R:yi S n st ms as)(j:a < n)(g:Pr st a t v):yi {S with starts:=λx=>if x=a then t !=0 else S.starts x} n v ms as:=by
 show(R.Kt,R.pos,R.le,R.ml,R.al,R.prp,R.mlt,R.RO,R.alt,λi hi=>?_,Vc R.slt j g);rw[g i];change(if i=a then t !=0 else S.starts i)=_
 by_cases e:i=a
 ·rw[h9 e,h9 e,ne_bool]
 ·rw[h8 e,h8 e];show R.stb i hi
abbrev Co(b:Nat)(xs:List Nat):Prop:=(∀x,x∈xs↔b.testBit x=true)/\xs.Nodup
abbrev EG(ns:List Nd)(Lc:Nat->Nat->Bool)(n o:Nat)(steps:List (List (List (Nat×Nat)))):Prop:=∀c,c < n->∀b,b < 2^nT ns->∀e,e∈(steps.getD c []).getD b []↔e.1 < o/\iS ns (Lc c) e.1=b/\e.2=l5 ns (Lc c) e.1
section
variable{S:System_}{n st:Nat}{ms as:List Nat}(R:yi S n st ms as){ns:List Nd}(ok:Ok ns){ab:Nat}(af:ab < ↑ns)
 {arcs:List (List Nat)}{steps:List (List (List (Nat×Nat)))}
 (ag:EG ns (λc l=>(ms.getD c 0).testBit l) n (2^nT ns) steps)(aD:↑arcs=n)(aH:∀i,i < n->Co (as.getD i 0) (arcs.getD i []))
include R aD aH
def VJ:b∈arcs.getD a []↔a < n/\b < n/\S.arcs a b=true:=by
 by_cases h:a < n
 ·rw[(aH a h).1];constructor
  ·intro j
   have g:b < n:=by
    apply bR;intro z;rw[c7 (bF (R.alt a h) (b_ (by decide) ()))] at j;cases j
   show(h,g,by rw[R.RO a b h g];show j)
  ·rintro⟨_,g,e⟩;rw[R.RO a b h g] at e;show e
 ·constructor
  ·intro j;rw[ba,js ()] at j
   cases j
  ·intro z;show absurd z.1 h
include ag in
def JZ:e∈fV arcs steps (2^nT ns) k↔∃c o,(k / 2^nT ns < n/\c < n/\S.arcs (k / 2^nT ns) c=true)/\o < 2^nT ns/\iS ns (λl=>(ms.getD c 0).testBit l) o=k % 2^nT ns/\e=(c*2^nT ns+o,l5 ns (λl=>(ms.getD c 0).testBit l) o,):=by
 rw[Ph];constructor
 ·rintro⟨c,j,x,hx,rfl⟩;have g:=(VJ R aD aH).mp j;let(h1,h2,z):=(ag c g.2.1 _ (qm _ (d9 _)) x).mp hx;show(c,x.1,g,h1,h2,by rw[z])
 ·rintro⟨c,o,j,h1,h2,rfl⟩;show(c,(VJ R aD aH).mpr j,(o,_,),(ag c j.2.1 _ (qm _ (d9 _)) _).mpr (h1,h2,rfl),rfl)
include ag in
def R7:MK (fV arcs steps (2^nT ns)) (fY ns) (n*2^nT ns):=by
 show(λk e g=>?_,λk e g=>?_)
 ·let(c,o,h1,h2,j,rfl):=(JZ R ag aD aH).mp g;change c*2^nT ns+o < n*2^nT ns
  calc c*2^nT ns+o < c*2^nT ns+2^nT ns:=by lia
   _=(c+1)*2^nT ns:=by rw[yq]
   _<=n*2^nT ns:=mq _ h1.2.1
 ·let(c,o,h1,h2,j,rfl):=(JZ R ag aD aH).mp g;show Sr _ _ _
include ag ok af in
def Wx(J:∀w,holds w (cv ns ab) 0↔holds w f 0){starts:List Nat}(D:∀x,x∈starts↔∃s o,o < 2^nT ns/\s < n/\st.testBit s=true/\ev ns (λl=>(ms.getD s 0).testBit l) (oP ns o) ab=false/\x=s*2^nT ns+o):
  (∃x∈starts,gH (fV arcs steps (2^nT ns)) (fY ns) x)↔check S f=false:=by
 rw[Eh]
 have K:=Qb ok af (Lc:=λc l=>(ms.getD c 0).testBit l) (props:=S.props) (nS:=n) (arc:=λa b=>a < n/\b < n/\S.arcs a b=true) (start:=λs=>s < n/\S.starts s=true)
  (S:=fV arcs steps (2^nT ns)) (λp nd _ _ s D=>by rw[R.prp s D]) (λs h=>h.1) (λa b h=>h.2.1) (λk e=>JZ R ag aD aH)
 have M:(∃x∈starts,gH (fV arcs steps (2^nT ns)) (fY ns) x)↔∃s o,(s < n/\S.starts s=true)/\o < 2^nT ns/\ev ns (λl=>(ms.getD s 0).testBit l) (oP ns o) ab=false/\gH (fV arcs steps (2^nT ns)) (fY ns) (s*2^nT ns+o):=by
  constructor
  ·rintro⟨x,hx,g⟩;let(s,o,h1,h2,z,B,rfl):=(D x).mp hx;show(s,o,(h2,by rw[R.stb s h2];show z),h1,B,g)
  ·rintro⟨s,o,⟨h1,h2⟩,z,B,g⟩;show(_,(D _).mpr (s,o,z,h1,by rw[←R.stb s h1];show h2,B,rfl),g)
 rw[M,K];constructor
 ·rintro⟨p,h1,h2,z⟩
  have j:∀i,p i < n:=λi=>by
   cases i with
   |zero=>show h1.1
   |succ i=>show(h2 i).2.1
  show(p,(h1.2,λi=>by rw[R.Kt];show j i,λi=>(h2 i).2.2),λh=>z ((J _).mpr h))
 ·rintro⟨p,⟨h1,h2,z⟩,B⟩;have j:∀i,p i < n:=λi=>by have:=h2 i;rw[R.Kt] at this;show this
  show(p,(j 0,h1),λi=>(j i,j (i+1),z i),λh=>B ((J _).mp h))
end
abbrev Bp(ns:List Nd)(Lc:Nat->Nat->Bool)(m o:Nat)(steps:List (List (Nat×Nat))):Prop:=∀b,b < 2^nT ns->∀e,e∈steps.getD b []↔e.1 < o/\(∃c,c < m/\iS ns (Lc c) e.1=b)/\e.2 < 2^nT ns/\∀k,e.2.testBit k=true↔(fY ns).testBit k=true/\∃c,c < m/\iS ns (Lc c) e.1=b/\(l5 ns (Lc c) e.1).testBit k=true
section
variable{ns:List Nd}{Lc:Nat->Nat->Bool}{m:Nat}{steps:List (List (Nat×Nat))}(ag:Bp ns Lc m (2^nT ns) steps)
include ag
def Hy:e∈fV [[0]] [steps] (2^nT ns) k↔e.1 < 2^nT ns/\(∃c,c < m/\iS ns (Lc c) e.1=k)/\e.2 < 2^nT ns/\∀b,e.2.testBit b=true↔(fY ns).testBit b=true/\∃c,c < m/\iS ns (Lc c) e.1=k/\(l5 ns (Lc c) e.1).testBit b=true:=by
 rw[Ph];have B:0 < 2^nT ns:=d9 _
 by_cases j:k < 2^nT ns
 ·rw[BP j,iP j];constructor
  ·rintro⟨c,g,x,hx,rfl⟩;have z:c=0:=by simpa using g
   subst z;have:=(ag k j x).mp hx;simpa using this
  ·intro h;show(0,⋯,e,(ag k j e).mpr h,⋯)
 ·constructor
  ·rintro⟨c,g,_⟩;have:1<=k / 2^nT ns:=by rw[Nat.le_div_iff_mul_le B];lia
   rw[ba,js (by simpa using this)] at g
   cases g
  ·rintro⟨_,⟨c,g,D⟩,_⟩;have:=Kn ns (Lc c) e.1;lia
def PR:MK (fV [[0]] [steps] (2^nT ns)) (fY ns) (2^nT ns):=by
 show(λk e g=>((Hy ag).mp g).1,λk e g b j=>((((Hy ag).mp g).2.2.2 b).mp j).1)
def Zz(ok:Ok ns)(af:ab < ↑ns)(B:∀w,holds w (cv ns ab) 0↔(holds w f 0↔holds w g 0)){props:Nat->Nat}
  (D:∀(p:Nat) (n:Nd),ns[p]? =some n->n.k= .fS->∀s,s < m->Lc s n.l=(props s).testBit n.l)
  (j:∀x:Nat,∃c,c < m/\∀(p:Nat) (n:Nd),ns[p]? =some n->n.k= .fS->Lc c n.l=x.testBit n.l)
  {starts:List Nat}(z:∀x,x∈starts↔x < 2^nT ns/\∃c,c < m/\ev ns (Lc c) (oP ns x) ab=false):
  (∃x∈starts,gH (fV [[0]] [steps] (2^nT ns)) (fY ns) x)↔sameRows f g=false:=by
 have K:=SN ok af (Lc:=Lc) (props:=props) (m:=m) (S:=fV [[0]] [steps] (2^nT ns)) D j (λk e=>Hy ag)
 have J:(∃x∈starts,gH (fV [[0]] [steps] (2^nT ns)) (fY ns) x)↔∃o,o < 2^nT ns/\(∃c,c < m/\ev ns (Lc c) (oP ns o) ab=false)/\gH (fV [[0]] [steps] (2^nT ns)) (fY ns) o:=
  (λ(x,hx,g)=>(x,((z x).mp hx).1,((z x).mp hx).2,g),λ(o,h1,h2,g)=>(o,(z o).mpr (h1,h2),g))
 rw[J,K,←qC,WC];constructor
 ·rintro⟨w,h⟩ M;show h ((B w).mpr (M w))
 ·intro h;apply bR;intro N;show h λw=>(B w).mp (bR λq=>N (w,q))
end
abbrev Ju(sts:List Int)(k:Nat):Int:=sts.getD k 0
abbrev VB(aa:List Nat)(x:Nat):Nat:=if x=0 then 0 else aa.getD (x - 1) 0
abbrev kZ(sts:List Int):Nat:=↑(sts.filter λz=>decide (z=0))
abbrev work(B:Nat)(sts:List Int)(tr:Tr):Nat:=kZ sts*(B+2)+(tr.map λa=>↑a.2+1).sum
def Hq:∀{sts:List Int} {k:Nat} {v:Int},sts[k]? =some 0->v≠0->kZ (sts.set k v)+1=kZ sts
 |[],k,v,h,_=>by simp at h
 |z ::sts,0,v,h,g=>by
  have j:z=0:=by simpa using h
  subst j;unfold kZ;rw[HW,cP,cP,h8 (by simpa using g),h9 ⋯,a_]
 |z ::sts,k+1,v,h,g=>by
  have B:=Hq (sts:=sts) (k:=k) (v:=v) (by simpa using h) g;unfold kZ at B ⊢;rw[HX,cP,cP]
  by_cases e:z=0
  ·rw[h9 (by simpa using e),h9 (by simpa using e),a_,a_];lia
  ·rw[h8 (by simpa using e),h8 (by simpa using e)];lia
def OI:∀{sts:List Int} {k:Nat} {v:Int},v≠0->kZ (sts.set k v)<=kZ sts
 |[],k,v,_=>by simp[kZ]
 |z ::sts,0,v,g=>by
  unfold kZ;rw[HW,cP,cP,h8 (by simpa using g)]
  by_cases e:z=0
  ·rw[h9 (by simpa using e),a_];lia
  ·rw[h8 (by simpa using e)];lia
 |z ::sts,k+1,v,g=>by
  have j:=OI (sts:=sts) (k:=k) (v:=v) g;unfold kZ at j ⊢;rw[HX,cP,cP]
  by_cases e:z=0
  ·rw[h9 (by simpa using e),h9 (by simpa using e),a_,a_];lia
  ·rw[h8 (by simpa using e),h8 (by simpa using e)];lia
def P5(h:k < ↑sts):Ju (sts.set k v) j=if j=k then v else Ju sts j:=by
 unfold Ju;rw[ba,ba,mf]
 by_cases e:k=j
 ·rw[h9 e,h9 (by lia:j=k),h9 (by lia:k < ↑sts)];rfl
 ·rw[h8 e,h8 (by lia:¬j=k)]
def Q5(h:k < ↑sts):sts[k]? =some (Ju sts k):=by
 unfold Ju;rw[eh (aS h),aS h]
def ZT:VB (aa++[o]) x=if x=↑aa+1 then o else VB aa x:=by
 unfold VB
 by_cases h:x=0
 ·rw[h9 h,h9 h,h8 ()]
 ·rw[h8 h,h8 h,ba,ba]
  by_cases e:x=↑aa+1
  ·rw[h9 e,e,zr,cX (aT _),vo];rfl
  ·rw[h8 e]
   by_cases l:x - 1 < ↑aa
   ·rw[eU l]
   ·rw[cX (),js (by simp;lia),js ()]
def ZF(h:x<=j):VB (aa.take j) x=VB aa x:=by
 unfold VB
 by_cases e:x=0
 ·rw[h9 e,h9 e]
 ·rw[h8 e,h8 e,uq ()]
def uO.kn{kn kn':Nat->Nat}(I:uO S W n start st kn L gs tr)(h:∀x,1<=x->x<=L->kn' x=kn x):uO S W n start st kn' L gs tr:=by
 have z:NW S kn' gs (L+1):=I.Tp.congr λx a b=>h x a ();show(λx a b=>?_,λk B=>?_,z,I.bad,I.trd,I.VT,λg j=>?_,λx a b=>?_,I.seen,λh1=>?_,I.Qo)
 ·rw[h x a b];show I.N9 x a b
 ·rcases I.inv k B with q|q|⟨x,a,b,c,d⟩
  ·show .inl q
  ·show .inr (.inl q)
  ·show .inr (.inr (x,a,b,c,by rw[h x a b];show d))
 ·have:=NW.Hg I.Tp g j;rw[h _ this.1 ()];show I.fst g j
 ·rw[h x a b];show I.cov x a b
 ·rw[h 1 (aT _) h1];show I.one h1
def RD(I:uO S W n start st (VB aa) ↑aa gs tr)(z:1<=f)(g:k < n):k∈aa.drop (f - 1)↔(f:Int)<=st k:=by
 constructor
 ·intro h;let(i,hi,e):=dU h;rw[gN] at hi;rw[List.getElem_drop] at e
  have j:VB aa (f - 1+i+1)=k:=by
   unfold VB;rw[h8 (),zr,eh (aS ())];show e
  have:=(I.N9 (f - 1+i+1) () ()).2;rw[j] at this;lia
 ·intro h;rcases I.inv k g with q|q|⟨x,a,b,c,d⟩
  ·lia
  ·lia
  ·unfold VB at d;rw[h8 (),eh (aS (by lia:x - 1 < ↑aa))] at d;rw[List.mem_drop_iff_getElem];show(x - 1 - (f - 1),(),?_);show Ti ?_ d;congr 1;lia
abbrev Ae(s:Int)(j:List G3)(z:Nat)(f into g:Nat)(rest:List G3):Prop:=uL s z j=if s < (f:Int) then uL s (g ||| into) rest else(f,g,into,) ::rest
def Oa:Ae s ((f,w,i,) ::rest) g f i (g ||| w) rest:=rfl
def PX(h:Ae s g M f into j rest)(N:s < (f:Int))(J:uL s M g≠[]):∃z B D r,rest=(z,B,D,) ::r/\Ae s g M z D ((j ||| into) ||| B) r:=by
 unfold Ae at h;rw[h9 N] at h
 match rest,h with
 |[],h=>rw[uL] at h;show absurd h J
 |(z,B,D,) ::r,h=>show(z,B,D,r,rfl,h)
def SY(h:Ae s j z f into g rest)(B:¬s < (f:Int)):uL s z j=(f,g,into,) ::rest:=by
 unfold Ae at h;rw[h8 B] at h;show h
structure Rest(S:Gr)(W n:Nat)(sts:List Int):Prop where
 len:↑sts=n
 two:∀k,k < n->Ju sts k=0\/Ju sts k=-1
 bad:∀k,k < n->Ju sts k=-1->¬gH S W k
def SI:Rest S W n (bq n 0):=by
 have e:∀k,Ju (bq n 0) k=0:=λk=>by
  unfold Ju;rw[ba,dY];split <;> rfl
 show(fz,λk _=> .inl (e k),λk _ h=>by rw[e k] at h;cases h)
def Xg(z:↑sts=n)(g:start < n)(I:uO S W n start (Ju sts) kn L gs []):Rest S W n sts/\L=0/\gs=[]/\¬gH S W start:=by
 let(h1,h2,j):=I.over;show((z,j,I.bad),h1,h2,I.bad start g ?_);rcases j start g with q|q
 ·show absurd q I.seen
 ·show q
def yx:∀(ts:List Nat) (a n c x:Nat),c.testBit x=false->((gh ts a n c).filter λp=>p.2.testBit x)=[]
 |[],a,n,c,x,h=>by rw[gh,cP,h8 (by rw[h];decide),sS]
 |t ::ts,a,n,c,x,h=>by
  have h1:(c &&& t).testBit x=false:=by rw[di,h];rfl
  rw[gh]
  split
  ·show yx ts _ _ _ x h
  ·split
   ·show yx ts _ _ _ x h1
   ·rw[hJ,yx ts _ _ _ x h1,yx ts _ _ _ x (by rw[d_,h,h1];rfl)];rfl
def E1:∀(ts:List Nat) (a n c x:Nat),↑((gh ts a n c).filter λp=>p.2.testBit x)<=1
 |[],a,n,c,x=>by rw[gh];show cJ (eP _ _) (aT _)
 |t ::ts,a,n,c,x=>by
  rw[gh]
  split
  ·show E1 ts _ _ _ x
  ·split
   ·show E1 ts _ _ _ x
   ·rw[hJ,aY]
    cases h:(c &&& t).testBit x with
    |true=>
     have:(c^^^(c &&& t)).testBit x=false:=by
      rw[d_,h];rw[di,bf] at h;rw[h.1];rfl
     rw[yx ts _ _ _ x this,cW,gW];show E1 ts _ _ _ x
    |false=>
     rw[yx ts _ _ _ x h,cW,gF];show E1 ts _ _ _ x
def Mw(f:α->List β)(B:Nat):∀(l:List α),(∀x∈l,↑(f x)<=B)->↑(l.flatMap f)<=↑l*B
 |[],_=>by simp
 |x ::l,h=>by
  have:=Mw f B l λy g=>h y (aZ _ g);have h1:=h x bg;rw[JL,aY,a_,yq];lia
abbrev uo(bs:List Nat):List UInt8:=bs.map Af
def IB(bs:List Nat):↑(uo bs)=↑bs:=by unfold uo;rw[aQ]
abbrev UW:List (List Nat)->List Int->Except Int (List (List Nat))
 |b ::bs,c ::cs=>match iR (sD 0) (uo b) with
  | .error e=> .error (c - ((↑b - e:Nat):Int))
  | .ok ts=>match UW bs cs with
   | .error z=> .error z
   | .ok r=> .ok (ts ::r)
 |_,_=> .ok []
abbrev M_(g:List (List Nat)):Int×List (List Nat):=if g.any (λb=>decide (1024 < ↑b))=true then(-1,[],) else match UW g [-10,-2000] with
 | .error z=>(z,[],)
 | .ok j=>if 6 < (j.map K9).sum then(-3,[],) else(0,j,)
def X1(h:jB s c=some (s',us,)):↑us<=1:=by
 unfold jB at h
 repeat' split at h
 all_goals first
  |(cases h;done)
  |(have g:=eI (bQ h);rw[←g.2];simp)
def VX:∀(b:Bytes) (st:LS) (ts:List Nat),iR st b= .ok ts->↑ts<=↑b
 |[],st,ts,h=>by
  rw[iR] at h
  split at h
  ·cases h;show aT _
  ·cases h
 |c ::b,st,ts,h=>by
  rw[iR] at h
  split at h
  ·cases h
  ·rename_i st' us e;have h1:=X1 e
   split at h
   ·cases h
   ·rename_i vs g;have j:=VX b st' vs g
    cases h
    rw[aY,a_];lia
def L5(h:iR (sD 0) (uo b)= .ok ts):valid true 0 ts/\↑ts<=↑b/\yy (uo b)= .ok (finish (gL ts ([],[],)))/\(finish (gL ts ([],[],))).timely=K9 ts:=by
 have v:valid true 0 ts:=OR _ _ _ h (.inl rfl);have gV:Ok ([]:List Nd):=(nz,λp n h=>by simp at h,λp n h=>by simp at h,λp n h=>by simp at h);let(ab,_,_,_,_,_,e):=TH gV v;show(v,by have:=VX _ _ _ h;rw[IB] at this;show this,?_,e);rw[Su,h]
def PL(h:iR (sD 0) (uo b)= .error e):yy (uo b)= .error (↑b - e):=by
 rw[Su,h,IB]
structure adN(b:List Nat)(ts:List Nat):Prop where
 v:valid true 0 ts
 len:↑ts<=1024
 read:yy (uo b)= .ok (finish (gL ts ([],[],)))
 tm:(finish (gL ts ([],[],))).timely=K9 ts
def L_(h:M_ [b]=(z,D,)):
  (z≠0->D=[]/\∀g:Form->Int,given (uo b) 10 (λf=>few f (g f))=z)/\
  (z=0->∃ts,D=[ts]/\adN b ts/\K9 ts<=6/\∀g:Form->Int,given (uo b) 10 (λf=>few f (g f))=g (finish (gL ts ([],[],)))):=by
 unfold M_ at h;unfold given few TEXT MOST;rw[IB]
 by_cases M:1024 < ↑b
 ·rw[h9 (by simpa using M)] at h
  cases h
  show(λ_=>(rfl,λg=>by rw[h9 M]),λh=>absurd h (by decide))
 ·rw[h8 (by simpa using M)] at h;simp only[UW] at h;simp only[h8 M]
  cases e:iR (sD 0) (uo b) with
  |error x=>
   rw[e] at h;simp only at h;have h1:=congrArg S6 h;have h2:=congrArg S5 h;simp only at h1 h2;show(λ_=>(h2.symm,λg=>?_),λJ=>absurd J ());rw[PL e];simp only;lia
  |ok ts=>
   rw[e] at h;let(v,hlen,j,B):=L5 e;simp only[cg,gE,fe,i_,gW] at h
   by_cases N:6 < K9 ts
   ·rw[h9 N] at h
    cases h
    show(λ_=>(rfl,λg=>?_),λJ=>absurd J (by decide));rw[j];simp only;rw[B,h9 N]
   ·rw[h8 N] at h
    cases h
    show(λJ=>absurd rfl J,λ_=>(ts,rfl,(v,(),j,B),(),λg=>?_));rw[j];simp only;rw[B,h8 N]
def Vs(h:M_ [a,b]=(z,M,)):
  (z≠0->M=[]/\∀g:Form->Form->Int,(if TEXT < ↑(uo b) then -1 else given (uo a) 10 λf=>given (uo b) 2000 λN=>if MOST < f.timely+N.timely then -3 else g f N)=z)/\
  (z=0->∃ts us,M=[ts,us]/\adN a ts/\adN b us/\K9 ts+K9 us<=6/\∀g:Form->Form->Int,(if TEXT < ↑(uo b) then -1 else given (uo a) 10 λf=>given (uo b) 2000 λN=>if MOST < f.timely+N.timely then -3 else g f N)=g (finish (gL ts ([],[],))) (finish (gL us ([],[],)))):=by
 unfold M_ at h;unfold given TEXT MOST;rw[IB,IB]
 by_cases Q:1024 < ↑a\/1024 < ↑b
 ·rw[h9 (by simpa using Q)] at h
  cases h
  show(λ_=>(rfl,λg=>?_),λh=>absurd h (by decide))
  by_cases U:1024 < ↑b
  ·rw[h9 U]
  ·rw[h8 U,h9 ()]
 ·rw[h8 (by simpa using Q)] at h;have ha:¬1024 < ↑a:=λq=>Q (.inl q);have U:¬1024 < ↑b:=λq=>Q (.inr q);simp only[UW] at h;simp only[h8 ha,h8 U]
  cases e:iR (sD 0) (uo a) with
  |error x=>
   rw[e] at h;simp only at h;have h1:=congrArg S6 h;have h2:=congrArg S5 h;simp only at h1 h2;show(λ_=>(h2.symm,λg=>?_),λJ=>absurd J ());rw[PL e];simp only;lia
  |ok ts=>
   rw[e] at h;let(v,hlen,B,O):=L5 e;rw[B];simp only at h ⊢
   cases Y:iR (sD 0) (uo b) with
   |error x=>
    rw[Y] at h;simp only at h;have h1:=congrArg S6 h;have h2:=congrArg S5 h;simp only at h1 h2;show(λ_=>(h2.symm,λg=>?_),λJ=>absurd J ());rw[PL Y];simp only;lia
   |ok us=>
    rw[Y] at h;let(v2,ah,j,D):=L5 Y;rw[j];simp only[cg,gE,fe,i_,gW] at h ⊢;rw[O,D]
    by_cases Z:6 < K9 ts+K9 us
    ·rw[h9 Z] at h
     cases h
     show(λ_=>(rfl,λg=>by rw[h9 Z]),λJ=>absurd J (by decide))
    ·rw[h8 Z] at h
     cases h
     show(λJ=>absurd rfl J,λ_=>(ts,us,rfl,(v,(),B,O),(v2,(),j,D),(),λg=>by rw[h8 Z]))
section
variable{S:System_}{n st:Nat}{ms as:List Nat}(R:yi S n st ms as){l:List Nat}{u:Nat}(hu:u < ↑l)
include R
def YO(h:st.testBit s=true):s < n:=by
 apply bR;intro g;rw[c7 (bF R.slt (b_ (by decide) ()))] at h;cases h
def MG(g:a < n)(h:(as.getD a 0).testBit b=true):b < n:=by
 apply bR;intro j;rw[c7 (bF (R.alt a g) (b_ (by decide) ()))] at h;cases h
def P_(h:isPath S l u=true):∀s∈l,s < n:=by
 unfold isPath at h;rw[bf,bf,d8] at h;intro s g;have:=h.2.1 s g;rw[R.Kt] at this;show of_decide_eq_true this
def Od(g:0 < ↑l)(h:st.testBit (l.getD 0 0)=false):isPath S l u=false:=by
 cases e:isPath S l u with
 |false=>rfl
 |true=>
  have h1:=P_ R e (l.getD 0 0) (by rw[eh (aS g)];show nE _);unfold isPath at e;rw[bf,bf,bf] at e;have:=e.2.2.1;rw[R.stb _ h1,h] at this;cases this
def SK(hi:i < ↑l)(g:behind ↑l u i < ↑l)(h:(as.getD (l.getD i 0) 0).testBit (l.getD (behind ↑l u i) 0)=false):isPath S l u=false:=by
 cases e:isPath S l u with
 |false=>rfl
 |true=>
  have h1:=P_ R e (l.getD i 0) (by rw[eh (aS hi)];show nE _);have h2:=P_ R e (l.getD (behind ↑l u i) 0) (by rw[eh (aS g)];show nE _);unfold isPath at e;rw[bf,bf,bf] at e;have:=d8.mp e.2.2.2 i (eY.mpr hi);rw[R.RO _ _ h1 h2,h] at this;cases this
include hu
def OW:behind ↑l u i < ↑l:=by
 unfold behind;split <;> lia
def Yc(j:st.testBit (l.getD 0 0)=true)(g:∀i,i < ↑l->l.getD i 0 < n)(z:∀i,i < ↑l->(as.getD (l.getD i 0) 0).testBit (l.getD (behind ↑l u i) 0)=true):isPath S l u=true:=by
 unfold isPath;rw[bf,bf,bf,d8,d8];show(decide_eq_true hu,λs B=>?_,?_,λi hi=>?_)
 ·let(i,hi,e):=dU B;have:=g i hi;rw[eh (aS hi),e] at this;rw[R.Kt];show decide_eq_true this
 ·rw[R.stb _ (g 0 ())];show j
 ·have hi:=eY.mp hi;rw[R.RO _ _ (g i hi) (g _ (OW R hu))];show z i hi
end
def WI(R:yi S n st ms as){l:List Nat}(h:∀s∈l,s < n):l.map S.props=l.map λs=>ms.getD s 0:=
 rZ λs g=>R.prp s (h s g)
def TQ{l:List Nat}(hu:u < ↑l)(hi:i < ↑l):(l.drop 1++[l.getD u 0])[i]? =some (l.getD (behind ↑l u i) 0):=by
 unfold behind
 by_cases h:i+1 < ↑l
 ·rw[h9 h,eU (by rw[gN];lia),List.getElem?_drop,yr,aS h,eh (aS h)]
 ·rw[h8 h,cX (by rw[gN];lia),gN,show i - (↑l - 1)=0 by lia];rfl
abbrev Xv(ls:List Nat)(c l:Nat):Bool:=c.testBit (ls.idxOf l)
def abx(ls:List Nat)(x:Nat):∃c,c < 2^↑ls/\∀l∈ls,Xv ls c l=x.testBit l:=by
 show(bitsOf (λj=>x.testBit (ls.getD j 0)) ↑ls,gM _ _,λl g=>?_);have h:=gP.mpr g;unfold Xv;rw[dW _ _ _ h,eh (aS h),oq h]
def Z2(h:∀l∈ls,l < 16):∃props:Nat->Nat,∀s,∀l∈ls,Xv ls s l=(props s).testBit l:=
 (λs=>bitsOf (λl=>Xv ls s l) 16,λs l g=>by rw[dW _ _ _ (h l g)])
abbrev XX(ns:List Nd)(o:Nat)(done:List (Nat×Nat))(c b:Nat)(e:Nat×Nat):Prop:=∃x∈done,x.2.testBit c=true/\x.1 % 2^nT ns=b/\e=(o,x.1 / 2^nT ns,)
def SM(ok:Ok ns)(D:0 < n)(hT:∀p,p < ↑ns->Tb.getD p 0=tabAt ns Lc n o p)
  (N:EG ns Lc n o old)(h:∀c,c < n->∀b,b < 2^nT ns->∀e,e∈(new.getD c []).getD b []↔e∈(old.getD c []).getD b []\/XX ns o (gh (vA ns Tb++vC ns (2^n - 1) Tb) 0 0 (2^n - 1)) c b e):
  EG ns Lc n (o+1) new:=by
 intro c z b J e;rw[h c z b J e,N c z b J e];let(g,j):=W0 ok hT z;constructor
 ·rintro(⟨h1,h2,B⟩|⟨x,hx,h1,h2,rfl⟩)
  ·show((),h2,B)
  ·let(_,k):=Bl D (n':=x.1) (c':=x.2) hx;have e:=((k c).mp h1).2;show(by change o < o+1;lia,?_,?_)
   ·change iS ns (Lc c) o=b;rw[←g,←e];show h2
   ·change x.1 / 2^nT ns=l5 ns (Lc c) o;rw[←j,←e]
 ·rintro⟨h1,h2,B⟩;rcases kK e.1 o with q|q
  ·show .inl (q,h2,B)
  ·have M:e.1=o:=by lia
   let(c',k1,O):=OD (ts:=vA ns Tb++vC ns (2^n - 1) Tb) D z;show .inr (_,k1,O,?_,?_)
   ·change code _ c % 2^nT ns=b;rw[g,←M];show h2
   ·change e=(o,code _ c / 2^nT ns,);rw[j,←M,←B]
abbrev Xu(ns:List Nd)(G:List Nat)(o b cs:Nat):Nat:=bitsOf (λk=>(fY ns).testBit k && !((Iq ns b o).testBit k && decide (cs &&& G.getD k 0=0))) (nT ns)
abbrev YT(ns:List Nd)(G:List Nat)(o:Nat)(done:List (Nat×Nat))(b:Nat)(e:Nat×Nat):Prop:=∃x∈done,x.1=b/\e=(o,Xu ns G o x.1 x.2,)
def QR(ok:Ok ns)(U:0 < m)(hT:∀p,p < ↑ns->Tb.getD p 0=tabAt ns Lc m o p)
  (h0:Bp ns Lc m o old)(h:∀b,b < 2^nT ns->∀e,e∈new.getD b []↔e∈old.getD b []\/YT ns (vC ns (2^m - 1) Tb) o (gh (vA ns Tb) 0 0 (2^m - 1)) b e):
  Bp ns Lc m (o+1) new:=by
 have part:∀x∈gh (vA ns Tb) 0 0 (2^m - 1),(∃c,c < m/\iS ns (Lc c) o=x.1)/\∀k,(Xu ns (vC ns (2^m - 1) Tb) o x.1 x.2).testBit k=true↔(fY ns).testBit k=true/\∃c,c < m/\iS ns (Lc c) o=x.1/\(l5 ns (Lc c) o).testBit k=true:=by
  intro x hx;let(N,B):=Bl U (n':=x.1) (c':=x.2) hx
  have B:∀y,x.2.testBit y=true↔y < m/\iS ns (Lc y) o=x.1:=λy=>by
   rw[B y];constructor
   ·rintro⟨a,b⟩;show(a,by rw[←IZ ok hT a];show b.symm)
   ·rintro⟨a,b⟩;show(a,by rw[IZ ok hT a];show b.symm)
  let(y,Y):=iA N;show((y,(B y).mp Y),λk=>?_)
  have Z:∀c,c < m->k < nT ns->((vC ns (2^m - 1) Tb).getD k 0).testBit c=(l5 ns (Lc c) o).testBit k:=λc g J=>by
   rw[←So ok hT g];unfold code;rw[Eu,dW _ _ _ J]
  unfold Xu;rw[cS,bf,bf,decide_eq_true_eq,iz,cU,decide_eq_false_iff_not];constructor
  ·rintro⟨h1,h2,j⟩;show(h2,?_);rcases j with j|j
   ·let(a,b):=(B y).mp Y;show(y,a,b,Nb ok h2 (by rw[b];show j))
   ·let(z,O):=iA j;rw[di,bf] at O;let(a,b):=(B z).mp O.1;show(z,a,b,by rw[←Z z a h1];show O.2)
  ·rintro⟨h2,c,g,M,hg⟩
   have J:k < nT ns:=by
    apply bR;intro hh;unfold fY at h2;rw[uz _ _ _ ()] at h2;cases h2
   show(J,h2,.inr λe=>?_);have:=congrArg (λz=>z.testBit c) e;simp only[di,f9] at this;rw[(B c).mpr (g,M),Z c g J,hg] at this
   cases this
 intro b M e;rw[h b M e,h0 b M e];constructor
 ·rintro(⟨h1,h2⟩|⟨x,hx,rfl,rfl⟩)
  ·show((),h2)
  ·let(p1,p2):=part x hx;show(by change o < o+1;lia,p1,gM _ _,p2)
 ·rintro⟨h1,⟨c,g,D⟩,j,h4⟩;rcases kK e.1 o with q|q
  ·show .inl (q,(c,g,D),j,h4)
  ·have Q:e.1=o:=by lia
   let(c',k1,k2):=OD (ts:=vA ns Tb) U g;rw[IZ ok hT g,←Q,D] at k1;show .inr (_,k1,rfl,?_);let(_,p2):=part _ k1
   have:e.2=Xu ns (vC ns (2^m - 1) Tb) o b c':=D8 (n:=nT ns) j (gM _ _) λk _=>by
    have a:=h4 k;have b':=p2 k;simp only at b';rw[Q] at a;show Ds.mpr (a.trans b'.symm)
   rw[←this,←Q]
def acx(ns:List Nd):nT ns=↑(ns.filter λn=>n.k.eX):=by
 unfold nT fN
 have key:∀(l:List Nd) (k:Nat),↑((Lq k ↑l).filter λp=>((l.getD (p - k) (.never,0,0)).k).eX)=↑(l.filter λn=>n.k.eX):=by
  intro l
  induction l with
  |nil=>intro k;rfl
  |cons n l j=>
   intro k;rw[a_,List.range'_succ,cP,cP];have z:((n ::l).getD (k - k) (.never,0,0)).k=n.k:=by rw[vo];rfl
   rw[z]
   have B:(Lq (k+1) ↑l).filter (λp=>((n ::l).getD (p - k) (.never,0,0)).k.eX)=(Lq (k+1) ↑l).filter (λp=>(l.getD (p - (k+1)) (.never,0,0)).k.eX):=by
    show JM λp g=>?_;have g:=(List.mem_range'_1.mp g).1;rw[show p - k=(p - (k+1))+1 by lia];rfl
   rw[B];have:=j (k+1)
   by_cases h:n.k.eX=true
   ·rw[h9 h,h9 h,a_,a_,this]
   ·rw[h8 h,h8 h,this]
 have:=key ns 0;rw[←this,List.range_eq_range']
 rfl
def VW(g:vY ns j a b):nT j<=nT ns+b:=by
 rw[acx,acx];show g.times
def Rc(ok:Ok ns):((ns.filter λn=>decide (n.k= .fS)).map Nd.l).Nodup:=by
 have h1:(ns.filter λn=>decide (n.k= .fS)).Nodup:=zi xR ok.nd
 have key:∀(l:List Nd),l.Nodup->(∀n∈l,n.k= .fS/\n.r=0)->(l.map Nd.l).Nodup:=by
  intro l
  induction l with
  |nil=>intro _ _;show nz
  |cons n l D=>
   intro g z;rw[kf] at g;rw[cg,kf];show(λj=>?_,D g.2 λm j=>z m (aZ _ j));let(m,j,e):=fc.mp j;have a:=z n bg;have b:=z m (aZ _ j)
   have:m=n:=by
    let(k1,l1,J):=m;let(M,l2,N):=n;simp only at a b e;rw[a.1,a.2,b.1,b.2,e]
   show g.1 (this ▸ j)
 show key _ h1 λn g=>?_;rw[c8] at g;let(i,hi,e):=dU g.1;have B:n.k= .fS:=by simpa using g.2
 show(B,(ok.fS i n (by rw[aS hi,e]) B).2)
def abw(ns:List Nd)(Lc:Nat->Nat->Bool)(m:Nat):Bp ns Lc m 0 (bq (2^nT ns) []):=λb g e=>by
 have:(bq (2^nT ns) ([]:List (Nat×Nat))).getD b []=[]:=by rw[ba,dY];split <;> rfl
 rw[this];show((λh=>by cases h),λh=>absurd h.1 ())
end Pt
namespace Pt
open PySem PyProof.Rows
abbrev tb(z:Int)(i:Nat):Bool:=if 0<=z then z.toNat.testBit i else !(dS z).toNat.testBit i
def vb(n i:Nat):tb (n:Int) i=n.testBit i:=by
 unfold tb;rw[h9 (),bP]
def yu(h:0<=z)(i:Nat):tb z i=z.toNat.testBit i:=h9 h
def G_(z:Int)(i:Nat):tb (dS z) i=!tb z i:=by
 unfold tb
 by_cases h:0<=z
 ·have h2:¬0<=dS z:=λq=>bitNot_nonneg.mp q h;rw[h8 h2,h9 h,bitNot_bitNot]
 ·have h2:0<=dS z:=bitNot_nonneg.mpr h;rw[h9 h2,h8 h,JD]
def Q4(x m:Nat):x - (x &&& m)=x^^^(x &&& m):=by
 have g:(x &&& m) &&& (x^^^(x &&& m))=0:=cp λi=>by
  simp only[di,d_,f9]
  cases x.testBit i <;> cases m.testBit i <;> rfl
 have h1:(x &&& m) ||| (x^^^(x &&& m))=x:=cp λi=>by
  simp only[di,de,d_]
  cases x.testBit i <;> cases m.testBit i <;> rfl
 have h2:=Fc (x &&& m) (x^^^(x &&& m));rw[g,h1] at h2;lia
def Jh(x m i:Nat):(x - (x &&& m)).testBit i=(x.testBit i && !m.testBit i):=by
 rw[Q4];simp only[di,d_]
 cases x.testBit i <;> cases m.testBit i <;> rfl
def QZ(x m:Nat):x &&& m<=x:=LY
def Q0(x y:Int)(i:Nat):tb (dZ x y) i=(tb x i && tb y i):=by
 by_cases hx:0<=x
 ·by_cases g:0<=y
  ·rw[KP hx g,vb,di,yu hx,yu g]
  ·rw[bitAnd_pn hx g]
   have e:x - ((x.toNat &&& (dS y).toNat:Nat):Int)=((x.toNat - (x.toNat &&& (dS y).toNat):Nat):Int):=by
    have:=QZ x.toNat (dS y).toNat;lia
   rw[e,vb,Jh,yu hx];congr 1;unfold tb;rw[h8 g]
 ·by_cases g:0<=y
  ·rw[bitAnd_np hx g]
   have e:y - ((y.toNat &&& (dS x).toNat:Nat):Int)=((y.toNat - (y.toNat &&& (dS x).toNat):Nat):Int):=by
    have:=QZ y.toNat (dS x).toNat;lia
   rw[e,vb,Jh,yu g,Bool.and_comm];congr 1;unfold tb;rw[h8 hx]
  ·rw[bitAnd_nn hx g,G_,vb,de];unfold tb;rw[h8 hx,h8 g,Bool.not_or]
def agx(x y:Int)(i:Nat):tb (jG x y) i=(tb x i || tb y i):=by
 unfold jG;rw[G_,Q0,G_,G_,Bool.not_and,JD,JD]
def TN(h:0<=x\/0<=y):0<=dZ x y:=by
 by_cases hx:0<=x
 ·by_cases g:0<=y
  ·rw[KP hx g];lia
  ·rw[bitAnd_pn hx g];have:=QZ x.toNat (dS y).toNat;lia
 ·have g:0<=y:=h.resolve_left hx;rw[bitAnd_np hx g];have:=QZ y.toNat (dS x).toNat;lia
def iC(x y:Nat):jG (x:Int) (y:Int)=((x ||| y:Nat):Int):=by
 rw[bitOr_and,KP () (),bP,bP];have:=Fc x y;lia
def ly(x y:Nat):dZ (x:Int) (y:Int)=((x &&& y:Nat):Int):=by
 rw[KP () (),bP,bP]
def nL(x y:Nat):zh (x:Int) (y:Int)=((x^^^y:Nat):Int):=by
 unfold zh;rw[iC,ly]
 have h:(x^^^y)+(x &&& y)=x ||| y:=by
  have g:(x^^^y) &&& (x &&& y)=0:=cp λi=>by
   simp only[di,d_,f9]
   cases x.testBit i <;> cases y.testBit i <;> rfl
  have h1:(x^^^y) ||| (x &&& y)=x ||| y:=cp λi=>by
   simp only[di,de,d_]
   cases x.testBit i <;> cases y.testBit i <;> rfl
  have h2:=Fc (x^^^y) (x &&& y);rw[g,h1] at h2;lia
 lia
def Ys(hx:0<=x)(g:0<=y)(h:∀i,tb x i=tb y i):x=y:=by
 have:x.toNat=y.toNat:=cp λi=>by rw[←yu hx,←yu g];show h i
 lia
def abH:∀n:Nat,0 < n->∃p,n.testBit p=true/\∀i,(n.testBit i && !(n - 1).testBit i)=decide (p=i):=by
 intro n
 induction n using lX with
 |ind n g=>
  intro j;rcases Nat.mod_two_eq_zero_or_one n with h|h
  ·let(p,h1,h2):=g (n / 2) () ();show(p+1,by rw[ib];show h1,λi=>?_)
   cases i with
   |zero=>rw[jA,h];simp
   |succ i=>
    rw[ib,ib,show(n - 1) / 2=n / 2 - 1 by lia,h2 i];simp
  ·show(0,by rw[jA,h];rfl,λi=>?_)
   cases i with
   |zero=>rw[jA,jA,h,show(n - 1) % 2=0 by lia];rfl
   |succ i=>
    rw[ib,ib,show(n - 1) / 2=n / 2 by lia]
    cases(n / 2).testBit i <;> simp
def abz(n:Nat)(g:0 < n):∃p,n.testBit p=true/\dZ (n:Int) (-(n:Int))=((2^p:Nat):Int):=by
 let(p,h1,h2):=abH n g;show(p,h1,?_);have e:-(n:Int)=dS ((n - 1:Nat):Int):=by unfold dS;lia
 show Ys (TN (.inl (zt n))) (zt _) λi=>?_;rw[Q0,e,G_,vb,vb,h2 i,vb,ik]
def YR(p:Nat):cD (((2^p:Nat):Int))=p+1:=by
 unfold cD
 have h:(((2^p:Nat):Int)==0)=false:=by
  have:0 < 2^p:=d9 p;simp only[beq_eq_false_iff_ne];lia
 rw[h];simp only[cQ,if_false,H_];rw[Nat.log2_two_pow]
def bits_le{n:Nat}{k:Nat}(h:n < 2^k):cD (n:Int)<=k:=by
 unfold cD
 by_cases e:n=0
 ·subst e;simp
 ·have g:((n:Int)==0)=false:=by simp only[beq_eq_false_iff_ne];lia
  rw[g];simp only[cQ,if_false,H_];show(Nat.log2_lt e).mpr h
def ZZ(h:n.testBit p=true):n^^^2^p < n/\∀i,(n^^^2^p).testBit i=(n.testBit i && !decide (p=i)):=by
 have g:∀i,(n^^^2^p).testBit i=(n.testBit i && !decide (p=i)):=λi=>by
  rw[d_,ik]
  by_cases e:p=i
  ·subst e;rw[h];simp
  ·simp[e]
 show(?_,g)
 have e:2^p+(n^^^2^p)=n:=by
  apply cp;intro i;rw[Jt p _ i (by rw[g p];simp),g i]
  by_cases q:p=i
  ·subst q;simp[h]
  ·simp[q,show ¬i=p from λe=>q e.symm]
 have:0 < 2^p:=d9 p;lia
open PySem.Spec L2
abbrev er(A:List aW)(H:Hp):Hp:=λb=>if b∈A then none else H b
def dE:er A H b=some o↔b∉A/\H b=some o:=by
 unfold er
 by_cases h:b∈A
 ·simp[h]
 ·simp[h]
def Qu(h:p∈A):er A (upd H p o)=er A H:=by
 funext b
 unfold er
 by_cases g:b∈A
 ·simp[g]
 ·rw[h8 g,h8 g,bc (λe=>g (by rw[e];show h))]
def same_refl(H:Hp):bK H H:=λ_ _ h=>h
def bp(s:bK H H')(h:H p=Lp):bK H (upd H' p o):=λb u e=>by
 rw[bc (bb e h)];show s b u e
def IY(s:bK H H'):bK (er A H) (er A H'):=λb u e=>by
 let(h,k):=dE.mp e;show dE.mpr (h,s b u k)
def MH(h:∀b∈A,b∈B):bK (er B H) (er A H):=λb u e=>by
 let(k,q):=dE.mp e;show dE.mpr (λm=>k (h b m),q)
def cq:bK (er A H) H:=λb u e=>(dE.mp e).2
def dj(s:bK (er A H) H')(h:p∈A):bK (er A H) (upd H' p o):=λb u e=>by
 let(k,q):=dE.mp e;rw[bc (λe=>k (by rw[e];show h))];show s b u e
def dX(s:bK H0 H)(g:∀b∈A,H0 b=none)(k:bK (er A H) H'):bK H0 H':=λb u e=>
 k b u (dE.mpr ((λm=>by rw[g b m] at e;cases e),s b u e))
def cb(k:bK (er A H) H')(g:b∉A)(e:H b=some o):H' b=some o:=k b o (dE.mpr (g,e))
def same_none(s:bK H H')(h:H' b=none):H b=none:=bK.free s h
abbrev Bw(H:Hp)(r:aW)(x:List Int):Prop:=H r=some (.lst (x.map V.int))
def Bw.mono(s:bK H H')(h:Bw H r x):Bw H' r x:=s _ _ h
abbrev gG(c:Nat):bV:=if c=45 then "->" else if c=60 then "<->" else⟨#[c]⟩
abbrev wa:Kd->bV
 | .fS=>"a"
 | .never=>"0"
 | .always=>"1"
 | .not=>"!"
 | .and=>"&"
 | .or=>"|"
 | .alike=>"<->"
 | .next=>"X"
 | .De=>"U"
 | .unless=>"W"
abbrev xJ(n:Nat):bV:=if n=1 then "-" else if n=2 then "<" else if n=3 then "<-" else ""
def ZE(c d:Nat):((⟨#[c]⟩:bV)=⟨#[d]⟩)↔c=d:=by
 constructor
 ·intro h;have:=congrArg (λs:bV=>s.cps.toList) h;simpa using this
 ·rintro rfl;rfl
abbrev Hj(l:aW)(d:Int)(u:Bool)(x:bV):List (bV×V):=[("signs",.ref l,),("brackets",.int d,),("due",.bl u,),("arrow",.str x,)]
abbrev Zr(C:aW)(H:Hp)(p l:aW)(ts:List Nat)(s:LS):Prop:=∃dx,H p=some (.ins C dx (Hj l s.d s.JW (xJ s.ar)))/\H l=some (.lst (ts.map λc=>V.str (gG c)))
abbrev E7(H:Hp)(t:aW)(n:Nd):Prop:=H t=some (.tup [.str (wa n.k),.int n.l,.int n.r])
abbrev wI(n:Nd):List Key:=[fW (wa n.k),c_ (n.l:Int),c_ (n.r:Int)]
abbrev VR(ns:List Nd):List (List Key×V):=ns.zipIdx.map λx=>(wI x.1,V.int (x.2:Nat),)
def oy(h:wa a=wa b):a=b:=by
 revert h;cases a <;> cases b <;> first|(intro _;rfl)|(intro h;show absurd h (by decide+kernel))
def WS(h:wI a=wI b):a=b:=by
 let(k,l,r):=a;let(D,g,j):=b;unfold wI at h;simp only[LP,Sum.inr.injEq,Sum.inl.injEq,and_true] at h;let(h1,h2,J):=h;have:=oy h1;subst this;have z:l=g:=by lia
 have B:r=j:=by lia
 subst z B
 rfl
def Md(ns:List Nd)(n:Nd):l8 (VR ns) (wI n)=if n∈ns then some (.int (ns.idxOf n:Nat)) else none:=by
 have key:∀(ns:List Nd) (k:Nat),l8 ((ns.zipIdx k).map λx=>(wI x.1,V.int (x.2:Nat),)) (wI n)=if n∈ns then some (.int ((k+ns.idxOf n:Nat):Int)) else none:=by
  intro ns
  induction ns with
  |nil=>intro k;rfl
  |cons m ns g=>
   intro k;rw[BM,cg]
   by_cases e:m=n
   ·subst e;rw[oI rfl,h9 bg,List.idxOf_cons_self];rfl
   ·rw[oF (λh=>e (WS h)),g (k+1)]
    by_cases hm:n∈ns
    ·have j:(m ::ns).idxOf n=ns.idxOf n+1:=by rw[List.idxOf_cons,beq_eq_false_iff_ne.mpr e];rfl
     rw[h9 hm,h9 (aZ _ hm),j];congr 3;lia
    ·rw[h8 hm,h8 (by simp[hm,d5 e])]
 have:=key ns 0;rw[gF] at this;show this
def Nj(ns:List Nd)(n:Nd):VR (ns++[n])=VR ns++[(wI n,V.int (↑ns:Nat),)]:=by
 unfold VR;rw[List.zipIdx_append,bD];simp
abbrev Z_(n d h:aW):List (bV×V):=[("nodes",.ref n,),("places",.ref d,),("ahead",.ref h,)]
structure oR(C:aW)(H:Hp)(p n d h:aW)(ns:List Nd):Prop where
 obj:∃dx,H p=some (.ins C dx (Z_ n d h))
 nodes:∃ts:List aW,H n=some (.lst (ts.map V.ref))/\Paired (E7 H) ts ns
 places:H d=some (.dT (VR ns))
 ahead:H h=some (.lst ((mF ns).map V.bl))
 ne:n≠h
def gQ:∀{as:List α} {bs:List β} {a:α} {b:β},Paired R as bs->R a b->Paired R (as++[a]) (bs++[b])
 |_,_,_,_,.nil,h=> .cons h .nil
 |_,_,_,_,.cons r t,h=> .cons r (gQ t h)
variable{P:fm}{w:e_}{K:bj}{mg:bV->Option bM}{base:jj}{a:Ad}
open Lean in
set_option hygiene false in
local macro_rules|`(tactic|simp![$ls,*])=>do
 let f(p:Syntax)(s:String):Array Syntax:=(s.splitOn " ").toArray.map λn=>mkNode `Lean.Parser.Tactic.simpLemma #[p,mkNullNode,mkIdent n.toName]
 let e:=f mkNullNode
 let d:=f (mkNullNode #[mkNode `Lean.Parser.Tactic.simpPre #[mkAtom "↓"]])
 let m(x:Array Syntax):TSyntaxArray [`Lean.Parser.Tactic.simpStar,`Lean.Parser.Tactic.simpErase,`Lean.Parser.Tactic.simpLemma]:=x.map (⟨·⟩)
 `(tactic|((try simp only[$(m (e "afB L2.start afG agh agN ahk agY afF bq Nat.reduceAdd Nat.reduceSub")),*]);simp(config:={maxSteps:=1000000}) only[$(m (d "adj aiO aiu aeK ag3 aey abv adS aay agI abA ac3 aaE aa9 aer aeG abd aeA aaz aea adw adf aeJ acI aa4 ab1 afp agJ ahB OZ aie aaU XY adL WD adX adk aeY ab6 adZ ac8 aaQ abP aa1 agq WE aaI agW aeX adP aaN aef agF adl af4 Xn ae0 adv ade aeR abe Wz aax XS YG aaL abF ac2 KG ah7 LL NB Us ag1 agd afL afN agD afw acp agz afS afr aat ZG aeq Xf aht adE exists_eq_left exists_eq_left' ag2"++e "LL NB Us ag1 agd afL afG agh agN ahk agY afF bq Nat.reduceAdd Nat.reduceSub wipe LV List.foldl_nil aeb aes afB L2.start tyV BU List.getElem?_cons_succ aiJ ah8 Ag V.int.injEq V.bl.injEq V.ref.injEq V.str.injEq HO.ins.injEq HO.lst.injEq HO.tup.injEq LP and_true true_and exists_eq_right exists_eq_right' exists_eq exists_eq' decide_eq_true_eq reduceCtorEq false_and exists_false exists_and_left exists_and_right iz decide_eq_false_iff_not"++d "reduceIte"++e "and_assoc true_or or_true if_true if_false cQ"++ls.getElems.raw)),*]))
set_option hygiene false in
local macro_rules|`(tactic|nofun)=>`(tactic|first|(rcases(h) with⟨rfl,_⟩;rfl)|(cases h;rename_i h;nofun))
def nU:upd (upd H p o) p o'=upd H p o':=by
 funext b
 by_cases e:b=p
 ·subst e;rw[aV,aV]
 ·rw[bc e,bc e,bc e]
section
variable{l:aW}{d d':Int}{u u':Bool}{x x':bV}
def oO:(Hj l d u x).lookup ("signs" :bV)=some (.ref l):=rfl
def uJ:(Hj l d u x).lookup ("brackets" :bV)=some (.int d):=rfl
def Jo:(Hj l d u x).lookup ("due" :bV)=some (.bl u):=rfl
def Bm:(Hj l d u x).lookup ("arrow" :bV)=some (.str x):=rfl
def QL:↑(Hj l d u x) < 1000:=by change 4 < 1000;decide
def UY:bC "brackets" (.int d') (Hj l d u x)=Hj l d' u x:=rfl
def U1:bC "due" (.bl u') (Hj l d u x)=Hj l d u' x:=rfl
def Ud:bC "arrow" (.str x') (Hj l d u x)=Hj l d u x':=rfl
def aeQ:(Hj l d u x).lookup ("takes_in_arrow" :bV)=none:=rfl
def adM:(Hj l d u x).lookup ("takes_in_front" :bV)=none:=rfl
def adR:(Hj l d u x).lookup ("takes_behind" :bV)=none:=rfl
def Y6:(Hj l d u x).lookup ("takes" :bV)=none:=rfl
def XM:(Hj l d u x).lookup ("may_end" :bV)=none:=rfl
end
abbrev Yj(C:aW):Sp:=λvs H Q _=>∃(p dx:aW),vs=[.ref p]/\H p=some (.ins C dx [])/\∀H' l,Zr C H' p l [] (true,0,0)->bK (er [p] H) H'->H l=none->Q .vI H'
def B9(T:Tx P w K mg a):gu P w K mg base pS 1 a.oS a.nP pC (Yj a.cz):=by
 show T.DH.ok uR (λvs H Q E h=>?_) (λB A outer s H vs Q E J h=>?_)
 ·nofun
 ·let(p,dx,rfl,j,k):=h;have D:=uR.nd
  show(_,(aU (fF (pv 0) (gS br) rfl)
   (aU (fF (pv 0) bU rfl)
   (aU (fF (pv 0) ur rfl)
   (bh (fF (pv 0) tu rfl))))),?_)
  simp![↓fi];show(d6 _,λl z=>?_);have g:p≠l:=bb j z;simp![↓fi,↓kQ j,gv,nU,g,j,T.gc,T.fZ,T.hU,T.j0,T.jb];show(by decide,by change 1 < 1000;decide,by change 2 < 1000;decide,by change 3 < 1000;decide,?_);show k _ l (dx,by rw[aV];rfl,by rw[bc g.symm,aV];rfl) (dj (bp cq (by unfold er;rw[h8 (by simp[g.symm])];show z)) ⋯) z
abbrev XQ(C:aW):Sp:=λvs H Q _=>X4 λ(p l:aW) (ts:List Nat) (s:LS)=>vs=[.ref p]/\Zr C H p l ts s/\s.ar<=3/\Q (.bl (AQ s)) H
def Sv(h:n<=3):(xJ n="")↔n=0:=by
 have:n=0\/n=1\/n=2\/n=3:=by lia
 rcases this with rfl|rfl|rfl|rfl <;> decide+kernel
def DC(T:Tx P w K mg a):gu P w K mg base pS 1 a.pU a.pA pJ (XQ a.cz):=by
 show T.EL.ok vJ (λvs H Q E h=>?_) (λz A outer s H vs Q E D h=>?_)
 ·nofun
 ·let(p,l,ts,st,rfl,(dx,g,J),j,k):=h;have B:=vJ.nd;show(_,(bh (cE (XB (aeE (bN (pv 0) rfl)) (XB (Jf iU (bN (pv 0) rfl) bU (dk _)) (Yv (Jf iU (bN (pv 0) rfl) tu (dk _))))))),?_);simp![↓fi,↓kQ g,g,T.gc,T.fZ,T.hU,T.j0,T.jb,oO,uJ,Jo,Bm,Sv j];unfold AQ at k;let(u,d,ar):=st;simp only at k j ⊢
  cases u
  ·by_cases h:d=0
   ·subst h
    by_cases h2:ar=0
    ·subst h2;show k
    ·simp only[h2,decide_false,beq_iff_eq,beq_eq_false_iff_ne.mpr h2,nA] at k ⊢;show k
   ·simp only[beq_eq_false_iff_ne.mpr h,gJ,nA] at k;rw[h9 rfl,h8 ()];show k
  ·show k
abbrev UT(C:aW)(pre:LS->Nat->Prop):Sp:=λvs H Q _=>X5 λ(p l:aW) (ts:List Nat) (s:LS) (c:Nat)=>vs=[.ref p,.str ⟨#[c]⟩]/\Zr C H p l ts s/\s.ar<=3/\↑ts<=5000/\pre s c/\
 (∀H',jB s c=none->bK (er [p,l] H) H'->(∃dx fs,H' p=some (.ins C dx fs)/\fs.lookup ("signs" :bV)=some (.ref l))->(∃xs,H' l=some (.lst xs))->Q (.bl false) H')/\
 (∀H' s' us,jB s c=some (s',us,)->bK (er [p,l] H) H'->Zr C H' p l (ts++us) s'->Q (.bl true) H')
abbrev aar(s:LS)(c:Nat):Prop:=s.ar≠0\/(s.JW=false/\(c=45\/c=60))
abbrev ac7(s:LS)(c:Nat):Prop:=s.ar=0/\s.JW=true/\c≠32
abbrev aec(s:LS)(c:Nat):Prop:=s.ar=0/\s.JW=false/\c≠32/\c≠45/\c≠60
def Qt(x y:bV):(x==y)=decide (x.cps.toList=y.cps.toList):=by
 by_cases h:x=y
 ·subst h;simp
 ·have:¬x.cps.toList=y.cps.toList:=λe=>h (by
    obtain⟨a⟩:=x;obtain⟨b⟩:=y;congr 1;show KR.mp e)
  rw[decide_eq_false this];show beq_eq_false_iff_ne.mpr h
def VE{x y:bV}(e:x.cps.toList=y.cps.toList):x=y:=by
 obtain⟨a⟩:=x;obtain⟨b⟩:=y;congr 1;show KR.mp e
def ar0(c:Nat):(xJ 0++(⟨#[c]⟩:bV)).cps.toList=[c]:=rfl
def ar1(c:Nat):(xJ 1++(⟨#[c]⟩:bV)).cps.toList=[45,c]:=rfl
def ar2(c:Nat):(xJ 2++(⟨#[c]⟩:bV)).cps.toList=[60,c]:=rfl
def ar3(c:Nat):(xJ 3++(⟨#[c]⟩:bV)).cps.toList=[60,45,c]:=rfl
def acn:("->" :bV).cps.toList=[45,62]:=by decide+kernel
def acJ:("<->" :bV).cps.toList=[60,45,62]:=by decide+kernel
def aiV:("-" :bV).cps.toList=[45]:=by decide+kernel
def aih:("<" :bV).cps.toList=[60]:=by decide+kernel
def aiW:("<-" :bV).cps.toList=[60,45]:=by decide+kernel
def Vg(h:x.cps.toList=l):N5 (.str x) [.str "->",.str "<->"]=(decide (l=[45,62]) || decide (l=[60,45,62])):=by
 subst h;simp only[N5,iE,vm,Z9,Qt,acn,acJ,kU];simp only[eq_comm]
def OH(h:x.cps.toList=l):N5 (.str x) [.str "-",.str "<",.str "<-"]=(decide (l=[45]) || (decide (l=[60]) || decide (l=[60,45]))):=by
 subst h;simp only[N5,iE,vm,Z9,Qt,aiV,aih,aiW,kU];simp only[eq_comm]
def mY(h:n<=5000):n < sizeLine:=fU h (by decide)
def xj(T:Tx P w K mg a):gu P w K mg base pS 1 a.ki a.kc kE (UT a.cz aar):=by
 show T.x8.ok oJ (λvs H Q E h=>?_) (λah A outer s H vs Q E hr h=>?_)
 ·nofun
 ·let(p,l,ts,st,c,rfl,(dx,Z,U),h3,h5,j,kn,ks):=h;have av:=oJ.nd
  show(_,(aU (fF (pv 0) (cY Ui (bN (pv 0) rfl) (pv 1)) rfl)
   (aU (eG (cx oQ (bN (pv 0) rfl) (iZ (v:= .ref a.MA) (by rfl) T.XC rfl) (by rfl)) (aU (dP (lu bu bH bG d7 (bN (pv 0) rfl) (aR (bN (pv 0) rfl) br)))
   (aU (fF (pv 0) tu rfl)
   (aU (fF (pv 0) ur rfl)
   (bh (cE ur))))) dG)
   (bh (cE (Jf oQ (bN (pv 0) rfl) (iZ (v:= .ref a.ju) (by rfl) T.yQ rfl) (by rfl)))))),?_)
  have M:l≠p:=eV U Z (by intro z;cases z);simp![↓fi,↓kQ Z,gv,nU,Z,U,M,M.symm,T.gc,T.fZ,T.hU,T.j0,T.jb,oO,uJ,Jo,Bm,QL,UY,U1,Ud];have g:∀o,bK (er [p,l] H) (upd H p o):=λo=>dj cq ⋯;show(?_,_,.inr (T.ZW _),rfl,rfl,?_)
  ·have:st.ar=0\/st.ar=1\/st.ar=2\/st.ar=3:=by lia
   rcases this with e|e|e|e <;> rw[e]
   ·change↑(xJ 0)+1<=sizeLine;decide+kernel
   ·change↑(xJ 1)+1<=sizeLine;decide+kernel
   ·change↑(xJ 2)+1<=sizeLine;decide+kernel
   ·change↑(xJ 3)+1<=sizeLine;decide+kernel
  have B:∀x:bV,jB st c=none->Q (.bl false) (upd H p (.ins a.cz dx (Hj l st.d st.JW x))):=λx e=>
   kn _ e (g _) (dx,_,aV,oO) (_,by rw[bc M];show U)
  have D:∀(x:bV) (s':LS),jB st c=some (s',[],)->s'.d=st.d->s'.JW=st.JW->xJ s'.ar=x->Q (.bl true) (upd H p (.ins a.cz dx (Hj l st.d st.JW x))):=λx s' e e1 e2 e3=>
   ks _ s' [] e (g _) (dx,by rw[aV,e1,e2,e3],by rw[bc M,fL];show U)
  have N:∀(x:bV) (t:Nat),jB st c=some ((true,st.d,0),[t],)->gG t=x->Q (.bl true) (upd (upd (upd H p (.ins a.cz dx (Hj l st.d st.JW x))) l (.lst (iN (λc=>V.str (gG c)) ts++[V.str x]))) p (.ins a.cz dx (Hj l st.d true ""))):=λx t e e1=>by
   show ks _ _ _ e (dj (dj (g _) ⋯) ⋯) (dx,aV,?_);rw[bc M,aV,bD,←e1];rfl
  have O:∀x:bV,(N5 (.str x) [.str "-",.str "<",.str "<-"]=true->Q (.bl true) (upd H p (.ins a.cz dx (Hj l st.d st.JW x))))->(N5 (.str x) [.str "-",.str "<",.str "<-"]=false->Q (.bl false) (upd H p (.ins a.cz dx (Hj l st.d st.JW x))))->
    ∃Y,(dg K (upd H p (.ins a.cz dx (Hj l st.d st.JW x))) a.ju Y\/qH K (upd H p (.ins a.cz dx (Hj l st.d st.JW x))) a.ju Y)/\z_ (.str x)=true/\Y.all z_=true/\Q (.bl (N5 (.str x) Y)) (upd H p (.ins a.cz dx (Hj l st.d st.JW x))):=λx h1 h2=>by
   show(_,.inr (T.yG _),rfl,rfl,?_)
   cases e:N5 (.str x) [.str "-",.str "<",.str "<-"] with
   |true=>show h1 e
   |false=>show h2 e
  have hS:∃xs,dg K (upd H p (.ins a.cz dx (Hj l st.d st.JW (xJ st.ar++⟨#[c]⟩)))) l xs:=(_,dg.of (by rw[bc M];show U));let(u,d,ar):=st;unfold aar at j;simp only at h3 j B D N O hS ⊢;have:ar=0\/ar=1\/ar=2\/ar=3:=by lia
  rcases this with e|e|e|e <;> subst e
  ·have hu:u=false:=(j.resolve_left ⋯).1;have J:=(j.resolve_left ⋯).2;subst hu;rw[Vg (ar0 c)];show kg (λh=>absurd h ⋯) (λ_=>O _ (λh=>?_) (λh=>?_))
   ·rcases J with rfl|rfl
    ·show D _ (false,d,1) rfl rfl rfl rfl
    ·show D _ (false,d,2) rfl rfl rfl rfl
   ·rw[OH (ar0 c)] at h;rcases J with rfl|rfl <;> simp at h
  ·rw[Vg (ar1 c)];show kg (λh=>?_) (λh=>?_)
   ·have J:c=62:=by simpa using h
    subst J;show(.inl hS,by rw[aQ];show mY h5,N _ 45 rfl ?_);show VE (by rw[ar1];show acn)
   ·have J:c≠62:=by simpa using h
    show O _ (λh=>?_) (λh=>B _ ?_)
    ·rw[OH (ar1 c)] at h;simp at h
    ·change(if c=62 then _ else none)=none;rw[h8 J]
  ·rw[Vg (ar2 c)];show kg (λh=>absurd h ⋯) (λ_=>O _ (λh=>?_) (λh=>B _ ?_))
   ·rw[OH (ar2 c)] at h;have J:c=45:=by simpa using h
    subst J;show D _ (u,d,3) rfl rfl rfl rfl
   ·rw[OH (ar2 c)] at h;have J:c≠45:=by simpa using h
    change(if c=45 then _ else none)=none;rw[h8 J]
  ·rw[Vg (ar3 c)];show kg (λh=>?_) (λh=>?_)
   ·have J:c=62:=by simpa using h
    subst J;show(.inl hS,by rw[aQ];show mY h5,N _ 60 rfl ?_);show VE (by rw[ar3];show acJ)
   ·have J:c≠62:=by simpa using h
    show O _ (λh=>?_) (λh=>B _ ?_)
    ·rw[OH (ar3 c)] at h;simp at h
    ·change(if c=62 then _ else none)=none;rw[h8 J]
def ad2(h:x=⟨#[d]⟩)(c:Nat):((⟨#[c]⟩:bV)=x)=(c=d):=by rw[h];show propext (ZE c d)
def ahp(c:Nat):((⟨#[c]⟩:bV)=eE "(")=(c=40):=ad2 (by decide+kernel) c
def acv(c:Nat):((⟨#[c]⟩:bV)=eE ")")=(c=41):=ad2 (by decide+kernel) c
def ahq(c:Nat):((⟨#[c]⟩:bV)=eE " ")=(c=32):=ad2 (by decide+kernel) c
def Qs(c d:Nat):((⟨#[c]⟩:bV)=⟨#[d]⟩)=(c=d):=propext (ZE c d)
def QU(c:Nat)(ds:List Nat)(h:xs=ds.map λd=>V.str ⟨#[d]⟩):N5 (.str ⟨#[c]⟩) xs=ds.any λd=>d==c:=by
 subst h;unfold N5;rw[Rj];congr 1
 funext d
 change((⟨#[d]⟩:bV)==⟨#[c]⟩)=(d==c);rw[Qt]
 by_cases e:d=c
 ·subst e;simp
 ·simp[e]
def WA(c:Nat):N5 (.str ⟨#[c]⟩) [.str "!",.str "X",.str "F",.str "G"]=kW c:=by
 rw[QU c [33,88,70,71] (by decide+kernel)];unfold kW;simp only[iE,vm,kU,NL (a:=c)]
 cases(33==c) <;> cases(88==c) <;> cases(70==c) <;> cases(71==c) <;> rfl
def YC(c:Nat):N5 (.str ⟨#[c]⟩) [.str "&",.str "|",.str "U",.str "R",.str "W"]=lg c:=by
 rw[QU c [38,124,85,82,87] (by decide+kernel)];unfold lg;simp only[iE,vm,kU,NL (a:=c)]
 cases(38==c) <;> cases(124==c) <;> cases(85==c) <;> cases(82==c) <;> cases(87==c) <;> rfl
def WN(c:Nat):N5 (.str ⟨#[c]⟩) [.str "0",.str "1"]=(c==48 || c==49):=by
 rw[QU c [48,49] (by decide+kernel)];simp only[iE,vm,kU,NL (a:=c)]
def Ub(c:Nat):decide (c∈("abcdefghijklmnop" :bV).cps.toList)=(decide (97<=c) && decide (c<=112)):=by
 have e:("abcdefghijklmnop" :bV).cps.toList=[97,98,99,100,101,102,103,104,105,106,107,108,109,110,111,112]:=by decide+kernel
 rw[e]
 by_cases h:97<=c/\c<=112
 ·rw[decide_eq_true h.1,decide_eq_true h.2,decide_eq_true (by simp;lia)];rfl
 ·rw[decide_eq_false (by simp;omega)]
  by_cases h1:97<=c
  ·rw[decide_eq_false (show ¬c<=112 by lia),nA]
  ·rw[decide_eq_false h1];rfl
def VL(c:Nat):(c∈(eE "abcdefghijklmnop").cps.toList)=(97<=c/\c<=112):=by
 have:=Ub c;show propext (λh=>?_,λh=>?_)
 ·rw[decide_eq_true (show c∈("abcdefghijklmnop" :bV).cps.toList from h)] at this;simpa using this.symm
 ·rw[decide_eq_true h.1,decide_eq_true h.2] at this;show of_decide_eq_true this
def Pg(h1:c≠45)(h2:c≠60):gG c=⟨#[c]⟩:=by unfold gG;rw[h8 h1,h8 h2]
def xl(T:Tx P w K mg a):gu P w K mg base pS 1 a.kr a.j_ kH (UT a.cz ac7):=by
 show T.yb.ok oG (λvs H Q E h=>?_) (λah A outer s H vs Q E hr h=>?_)
 ·nofun
 ·let(p,l,ts,st,c,rfl,(dx,B,g),M,J,D,kn,ks):=h;have av:=oG.nd
  show(_,(aU (eG (cx iU (pv 1) tu (dk _)) (bh (Pl (pv 0) bU adq)) (bh (eG (Rb (VO (cx NC (pv 1) (iq (by rfl) T.J0) (by rfl)) (QA (cx oQ (pv 1) (iZ (v:= .ref a.Es) (by rfl) T.RI rfl) (by rfl))))) (bh (fF (pv 0) ur rfl)) (bh (eG (cx PK (pv 1) (iZ (v:= .ref a.Iv) (by rfl) T.Sy rfl) (by rfl)) (bh (cE ur)) dG)))))
   (aU (dP (lu bu bH bG d7 (bN (pv 0) rfl) (aR (pv 1) br)))
   (bh (cE ur)))),?_)
  have j:l≠p:=eV g B (by intro z;cases z);let(u,d,ar):=st;let(U,Y,e3):=D;simp only at U Y M B;subst U Y;have hS:∀o,∃xs,dg K (upd H p o) l xs:=λo=>(_,dg.of (by rw[bc j];show g));have ag:=acT (d:=d) (c:=c) e3;have N:∃xs,dg K H l xs:=(_,dg.of g)
  have fin:∀(s':LS),jB (true,d,0) c=some (s',[c],)->c≠45->c≠60->s'.ar=0->Q (.bl true) (upd (upd H p (.ins a.cz dx (Hj l s'.d s'.JW (xJ 0)))) l (.lst (iN (λc=>V.str (gG c)) ts++[.str ⟨#[c]⟩]))):=λs' e h1 h2 M=>by
   show ks _ s' _ e (dj (dj cq ⋯) ⋯) (dx,by rw[bc j.symm,aV,M],?_);rw[aV,bD,cg,Pg h1 h2];rfl
  simp![↓fi,↓kQ B,gv,nU,B,g,j,j.symm,T.gc,T.fZ,T.hU,T.j0,T.jb,oO,uJ,Jo,Bm,QL,UY,U1,Ud,ahp,Qs,VL,hS,N,aQ];show kg (λh=>?_) (λh=>?_)
  ·show(mY J,?_);show fin (true,d+1,0) (by rw[show((true,d,0):LS)=sD d from rfl,ag,h9 h]) () () rfl
  ·show kg (λh1=>?_) (λh1=>?_)
   ·show(mY J,?_);have g:iD c=true:=by unfold iD;simp only[bw,bf,decide_eq_true_eq,beq_iff_eq];lia
    show fin (false,d,0) (by rw[show((true,d,0):LS)=sD d from rfl,ag,h8 h,h9 g]) () () rfl
   ·show(_,.inr (T.S2 _),rfl,rfl,?_);rw[WN];show kg (λh2=>?_) (λh2=>?_)
    ·show(mY J,?_);have O:c=48\/c=49:=by simpa using h2
     have g:iD c=true:=by unfold iD;simp only[bw,bf,decide_eq_true_eq,beq_iff_eq];lia
     show fin (false,d,0) (by rw[show((true,d,0):LS)=sD d from rfl,ag,h8 h,h9 g]) () () rfl
    ·have O:¬(c=48\/c=49):=by simpa using h2
     have g:¬iD c=true:=by unfold iD;simp only[bw,bf,decide_eq_true_eq,beq_iff_eq];lia
     show(_,.inr (T.Se _),rfl,rfl,?_);rw[WA]
     cases hu:kW c with
     |false=>
      rw[h9 rfl];show kn _ (by rw[show((true,d,0):LS)=sD d from rfl,ag,h8 h,h8 g,hu];rfl) cq (dx,_,B,oO) (_,by assumption)
     |true=>
      rw[h8 ⋯];show(mY J,?_);have Z:c≠45/\c≠60:=by unfold kW at hu;simp only[bw,beq_iff_eq] at hu;lia
      have:=fin (true,d,0) (by rw[show((true,d,0):LS)=sD d from rfl,ag,h8 h,h8 g,hu];rfl) Z.1 Z.2 rfl
      rw[show upd H p (.ins a.cz dx (Hj l (d:Int) true (xJ 0)))=H from by
       funext b
       by_cases e:b=p
       ·subst e;rw[aV,B]
       ·rw[bc e]] at this
      show this
def zc(T:Tx P w K mg a):gu P w K mg base pS 1 a.lJ a.lq lL (UT a.cz aec):=by
 show T.zI.ok pW (λvs H Q E h=>?_) (λah A outer s H vs Q E hr h=>?_)
 ·nofun
 ·let(p,l,ts,st,c,rfl,(dx,j,B),J,N,D,kn,ks):=h;have av:=pW.nd
  show(_,(aU (eG (Rb (MW (cx iU (pv 1) tu (dk _)) (IT (cx OV (bN (pv 0) rfl) bU (dk _))))) (bh (Pl (pv 0) bU adm)) (bh (eG (cx oQ (pv 1) (iZ (v:= .ref a.yM) (by rfl) T.TU rfl) (by rfl)) (bh (fF (pv 0) ur rfl)) (bh (cE ur)))))
   (aU (dP (lu bu bH bG d7 (bN (pv 0) rfl) (aR (pv 1) br)))
   (bh (cE ur)))),?_)
  have g:l≠p:=eV B j (by intro z;cases z);let(u,d,ar):=st;let(O,U,e3,Y,Z):=D;simp only at O U J j;subst O U;have hS:∀o,∃xs,dg K (upd H p o) l xs:=λo=>(_,dg.of (by rw[bc g];show B));have ag:=R8 (d:=d) (c:=c) Y Z e3;have M:∃xs,dg K H l xs:=(_,dg.of B)
  have fin:∀(s':LS),jB (false,d,0) c=some (s',[c],)->s'.ar=0->Q (.bl true) (upd (upd H p (.ins a.cz dx (Hj l s'.d s'.JW (xJ 0)))) l (.lst (iN (λc=>V.str (gG c)) ts++[.str ⟨#[c]⟩]))):=λs' e J=>by
   show ks _ s' _ e (dj (dj cq ⋯) ⋯) (dx,by rw[bc g.symm,aV,J],?_);rw[aV,bD,cg,Pg Y Z];rfl
  simp![↓fi,↓kQ j,gv,nU,j,B,g,g.symm,T.gc,T.fZ,T.hU,T.j0,T.jb,oO,uJ,Jo,Bm,QL,UY,U1,Ud,acv,Qs,hS,M,aQ]
  have jn:¬(c=41/\0 < d)->∃x,(dg K H a.yM x\/qH K H a.yM x)/\z_ (.str ⟨#[c]⟩)=true/\x.all z_=true/\(if N5 (.str ⟨#[c]⟩) x=true then ↑ts < sizeLine/\Q (.bl true) (upd (upd H p (.ins a.cz dx (Hj l d true (xJ 0)))) l (.lst (iN (λc=>V.str (gG c)) ts++[.str ⟨#[c]⟩]))) else Q (.bl false) H):=λh=>by
   show(_,.inr (T.Ue _),rfl,rfl,?_);rw[YC];show kg (λh1=>(mY N,fin (true,d,0) (by rw[show((false,d,0):LS)=sN d from rfl,ag,h8 h,h9 h1]) rfl)) (λh1=>?_);show kn _ (by rw[show((false,d,0):LS)=sN d from rfl,ag,h8 h,h8 h1]) cq (dx,_,j,oO) (_,B)
  show kg (λh=>kg (λh1=>?_) (λh1=>jn ())) (λh=>jn ());show(mY N,?_);have:=fin (false,d - 1,0) (by rw[show((false,d,0):LS)=sN d from rfl,ag,h9 (h,())]) rfl;rw[show((d:Int) - 1)=((d - 1:Nat):Int) by lia];show this
abbrev aiP(s:LS)(c:Nat):Prop:=True
def aa6(h:s.ar=0):jB s 32=some (s,[],):=by
 let(u,d,ar):=s
 cases h
 cases u <;> rfl
def FU(T:Tx P w K mg a):gu P w K mg base pS 2 a.tY a.rj tQ (UT a.cz aiP):=by
 show T.G5.ok xF (λvs H Q E h=>?_) (λU A outer s H vs Q E j h=>?_)
 ·nofun
 ·let(p,l,ts,st,c,rfl,z,D,Y,J,kn,M):=h;have Z:=xF.nd
  show(_,(aU (eG (Rb (VO (cx BH (bN (pv 0) rfl) tu (dk _)) (QA (Rb (MW (xi (qa (bN (pv 0) rfl))) (IT (cx oQ (pv 1) (iZ (v:= .ref a.ju) (by rfl) T.yQ rfl) (by rfl)))))))) (bh (cE (dI (pv 0) T.gc T.xV (xj T) (j.mono (by decide)) T.x6 .nil cN (aR (pv 1) br)))) dG)
   (aU (eG (cx iU (pv 1) tu (dk _)) (bh (cE ur)) dG)
   (aU (eG (qa (bN (pv 0) rfl)) (bh (cE (dI (pv 0) T.gc T.yf (xl T) (j.mono (by decide)) T.xZ .nil cN (aR (pv 1) br)))) dG)
   (bh (cE (dI (pv 0) T.gc T.zF (zc T) (j.mono (by decide)) T.zB .nil cN (aR (pv 1) br))))))),?_)
  let(dx,N,hl):=id z;simp![↓fi,↓kQ N,N,T.gc,T.fZ,T.hU,T.j0,T.jb,oO,uJ,Jo,Bm,aeQ,adM,adR,Sv D,ahq];have go:∀pre:LS->Nat->Prop,pre st c->UT a.cz pre [.ref p,.str ⟨#[c]⟩] H Q E:=λpre B=>(p,l,ts,st,c,rfl,z,D,Y,B,kn,M)
  have rest:st.ar=0->¬(st.JW=false/\(c=45\/c=60))->(if c=32 then Q (.bl true) H else if st.JW=true then UT a.cz ac7 [.ref p,.str ⟨#[c]⟩] H Q E0 else UT a.cz aec [.ref p,.str ⟨#[c]⟩] H Q E0):=λg O=>by
   show kg (λh=>?_) (λh=>kg (λh1=>go ac7 (g,h1,h)) (λh1=>go aec (g,by simpa using h1,h,λe=>O (by simpa using h1,.inl e),λe=>O (by simpa using h1,.inr e))));subst h;show M _ st [] (aa6 g) cq (by rw[fL];show z)
  show kg (λh=>go aar (.inl h)) (λh=>?_);have g:st.ar=0:=by simpa using h
  show kg (λh1=>(_,.inr (T.yG _),rfl,rfl,?_)) (λh1=>rest g (λe=>h1 e.1));rw[OH (l:=[c]) rfl];show kg (λh2=>go aar (.inr (h1,by simpa using h2))) (λh2=>rest g (λe=>h2 (by simpa using e.2)))
abbrev sgn(b:Nat):Nat:=if b∈[32,33,38,40,41,45,48,49,60,62,124,70,71,82,85,87,88,97,98,99,100,101,102,103,104,105,106,107,108,109,110,111,112] then b else 63
def abB:∀b:Nat,b < 256->(l8 Ja (c_ (b:Int))).getD (.str "?")= .str ⟨#[sgn b]⟩:=by
 have h:(du 256).all (λb=>decide ((l8 Ja (c_ (b:Int))).getD (.str "?")= .str ⟨#[sgn b]⟩))=true:=by decide+kernel
 intro b g;show of_decide_eq_true (d8.mp h b (eY.mpr g))
def RA(s:LS)(b:Nat):jB s (sgn b)=jB s b:=by
 unfold sgn
 by_cases h:b∈[32,33,38,40,41,45,48,49,60,62,124,70,71,82,85,87,88,97,98,99,100,101,102,103,104,105,106,107,108,109,110,111,112]
 ·rw[h9 h]
 ·rw[h8 h];simp only[bo,dD,or_false,not_or] at h
  have g:iD b=false:=by
   cases e:iD b with
   |false=>rfl
   |true=>unfold iD at e;simp only[bw,bf,decide_eq_true_eq,beq_iff_eq] at e;lia
  have j:kW b=false:=by
   cases e:kW b with
   |false=>rfl
   |true=>unfold kW at e;simp only[bw,beq_iff_eq] at e;lia
  have z:lg b=false:=by
   cases e:lg b with
   |false=>rfl
   |true=>unfold lg at e;simp only[bw,beq_iff_eq] at e;lia
  unfold jB;have n1:¬b=62:=by lia
  have n2:¬b=45:=by lia
  have n3:¬b=60:=by lia
  have n4:¬b=32:=by lia
  have B:¬b=40:=by lia
  have D:¬b=41:=by lia
  simp only[n1,n2,n3,n4,B,D,g,j,z,and_false,false_and,if_false,cQ,show ¬(63=62) by decide,show ¬(63=45) by decide,show ¬(63=60) by decide,show ¬(63=32) by decide,show ¬(63=40) by decide,show ¬(63=41) by decide,show iD 63=false from rfl,show kW 63=false from rfl,show lg 63=false from rfl]
abbrev Jd(H':Hp)(l:aW)(z:Int)(bs:List Nat):Prop:=match iR (sD 0) (uo bs) with
 | .error e=>z=((↑bs - e:Nat):Int)
 | .ok ts=>z=-1/\H' l=some (.lst (ts.map λc=>V.str (gG c)))
abbrev RG(K:bj):Sp:=λvs H Q _=>∃(r:aW) (bs:List Nat),vs=[.ref r]/\dg K H r (bs.map λb=>V.int (b:Nat))/\↑bs<=1100/\(∀b∈bs,b < 256)/\
 ∀(H':Hp) (t l:aW) (z:Int),bK H H'->H l=none->H' t=some (.tup [.ref l,.int z])->Jd H' l z bs->Q (.ref t) H'
abbrev ag8(C:aW)(H:Hp)(r p l:aW)(bs:List Nat)(i:Nat)(σ:L2.St)(H':Hp):Prop:=X4 λ(ts:List Nat) (s:LS) (v2 g:Option V)=>σ=[some (.ref r),some (.ref p),v2,g]/\bK H H'/\Zr C H' p l ts s/\s.ar<=3/\↑ts<=i/\
 iR (sD 0) (uo bs)=match iR s ((uo bs).drop i) with
  | .error e=> .error e
  | .ok us=> .ok (ts++us)
def Zs(h:jB s c=some (s',us,))(j:s.ar<=3):s'.ar<=3/\↑us<=1:=by
 unfold jB at h
 repeat' split at h
 all_goals first
  |(cases h;done)
  |(have g:=eI (bQ h);rw[←g.1,←g.2];simp;try lia)
def N_(T:Tx P w K mg a):gu P w K mg base pS 3 a.Cp a.AU Cn (RG K):=by
 show T.IG.ok Gu (λvs H Q E h=>?_) (λb4 A outer s H vs Q E hr h=>?_)
 ·nofun
 ·let(r,bs,rfl,hS,hlen,U,k):=h;have hu:=MY hr;have b5:=Gu.nd
  show(_,(aU (c9 1 (MZ T.N8 (B9 T) (hr.mono (by decide)) rfl T.Q2 T.DB .nil cN))
   (aU (jO b8 rfl (Fs (by rfl) T.uw (aR (pv 0) br)) (jw (n:=2) rfl (ck (b6 2) (ck (b6 3) g8))) (bh (eG (xi (qa (dI (pv 1) T.gc T.HQ (FU T) (hr.mono (by decide)) T.HH .nil cN (aR (YA hu (iZ (v:= .ref a.PZ) (by rfl) T.abV rfl) T.aav (pv 3) (iq (by rfl) T.Xe) (rfl,rfl,rfl,rfl)) br)))) (bh (cE (mx (aR (bN (pv 1) rfl) (aR (pv 2) br))))) dG)))
   (aU (eG (xi (qa (oz (pv 1) T.gc T.Er (DC T) (hr.mono (by decide)) T.Eo .nil cN))) (bh (cE (mx (aR (bN (pv 1) rfl) (aR (ig ee (by rfl) T.r_ dO (aR (pv 0) br)) br))))) dG)
   (bh (cE (mx (aR (bN (pv 1) rfl) (aR (fb (by rfl) T.Pj) br)))))))),?_)
  simp![↓fi];intro p dx z B cc;show(p,dx,rfl,aV,λH1 l hR bl Y=>(rfl,?_));have sH:bK H H1:=dX (A:=[p]) (H:=upd (upd H dx (.own p)) p (.ins a.cz dx [])) (bp (bp (same_refl H) B) z) (by simp[z]) bl;have Z:H l=none:=same_none (bp (bp (same_refl H) B) z) Y;show((_,sH.seq hS),?_);show Ir (xs:=bs.map λb=>V.int (b:Nat)) (ag8 a.cz H r p l bs) ([],(true,0,0),none,none,rfl,sH,hR,by decide,aT _,?_) (λi σ H' _ (_,_,_,_,_,s',_)=>s'.seq hS) ?_ ?_
  ·change _=match iR (sD 0) (uo bs) with
     | .error e=>_
     | .ok us=>_
   cases iR (sD 0) (uo bs) <;> rfl
  ·rintro i x σ H' t hx ⟨ts,st,v2,v3,rfl,s',M,h3,bt,j⟩ ht
   obtain⟨b,N,rfl⟩:∃b,bs[i]? =some b/\x=V.int (b:Nat):=by
    rw[dA] at hx
    cases e:bs[i]? with
    |none=>rw[e] at hx;cases hx
    |some b=>rw[e] at hx;show(b,rfl,(bQ hx).symm)
   have hi:i < ↑bs:=(aX.mp N).1;have bx:b < 256:=U b (bJ N);let(aA,g,J):=id M;have ah:p≠t:=bb g ht;have b0:l≠t:=bb J ht;have aE:H t=none:=same_none s' ht;simp![↓fi,↓kQ g,qH.of aV,gv,ah,g,Y6];show(_,qH.of aV,rfl,?_);simp![↓fi,↓kQ g,gv,ah,g,Y6];rw[abB b bx];show(p,l,ts,st,sgn b,rfl,(aA,by rw[bc ah];show g,by rw[bc b0];show J),h3,(),trivial,λH2 hn ar (cm,ct,bk,b1) (cy,cA)=>?_,λH2 s2 us ag ar b2=>?_)
   ·have O:bK H H2:=dX (A:=[p,l]) (bp s' aE) (by intro b U;simp only[bo,dD,or_false] at U;rcases U with rfl|rfl;show z;show same_none (bp (bp (same_refl H) B) z) Y) ar;simp![↓fi,↓kQ bk,bk,T.gc,T.fZ,b1];show(by decide,λt2 D=>?_)
    show k _ t2 l i (bp O (same_none O D)) Z aV ?_;unfold Jd;rw[j]
    have hd:(uo bs).drop i=Af b ::(uo bs).drop (i+1):=by
     rw[dN (by unfold uo;rw[aQ];show hi)];congr 1;unfold uo;rw[KU];congr 1;show bQ ((aS hi).symm.trans N)
    have av:(Af b).toNat=b:=by simp[HV];lia
    rw[hd,iR,av,←RA,hn];change(i:Int)=_;simp only[uo,gN,aQ];lia
   ·have O:bK H H2:=dX (A:=[p,l]) (bp s' aE) (by intro b U;simp only[bo,dD,or_false] at U;rcases U with rfl|rfl;show z;show same_none (bp (bp (same_refl H) B) z) Y) ar;simp![↓fi];let(b3,cL):=Zs ag h3;show(ts++us,s2,_,_,rfl,O,b2,b3,by rw[aY];lia,?_);rw[j]
    have hd:(uo bs).drop i=Af b ::(uo bs).drop (i+1):=by
     rw[dN (by unfold uo;rw[aQ];show hi)];congr 1;unfold uo;rw[KU];congr 1;show bQ ((aS hi).symm.trans N)
    have av:(Af b).toNat=b:=by simp[HV];lia
    rw[hd,iR,av,←RA,ag];simp only
    cases iR s2 ((uo bs).drop (i+1)) with
    |error e=>rfl
    |ok vs=>simp only[bO]
  ·rintro σ H' ⟨ts,st,v2,v3,rfl,s',M,h3,bt,j⟩;let(aA,g,J):=id M;rw[aQ,C3 (by unfold uo;rw[aQ];show aT _),iR] at j;simp![↓fi,↓kQ g,g,T.gc,T.fZ,oO,XM];show(p,l,ts,st,rfl,M,h3,?_);simp![↓fi,↓kQ g,g,T.gc,T.fZ,oO,XM]
   cases hm:AQ st with
   |false=>
    rw[h9 rfl];show(_,.inl (s'.seq hS),by decide,λt2 D=>?_);show k _ t2 l _ (bp s' (same_none s' D)) Z aV ?_;unfold Jd;rw[j,hm];change(↑(iN (λb=>V.int (b:Nat)) bs):Int)=_;rw[aQ];simp
   |true=>
    rw[h8 ⋯];show(by decide,λt2 D=>?_);show k _ t2 l _ (bp s' (same_none s' D)) Z aV ?_;unfold Jd;rw[j,hm];show(rfl,?_);rw[bc (bb J D),J,fL]
section
variable{n d h:aW}
def vU:(Z_ n d h).lookup ("nodes" :bV)=some (.ref n):=rfl
def GX:(Z_ n d h).lookup ("places" :bV)=some (.ref d):=rfl
def By:(Z_ n d h).lookup ("ahead" :bV)=some (.ref h):=rfl
def Yt:(Z_ n d h).lookup ("place_of" :bV)=none:=rfl
def Yf:(Z_ n d h).lookup ("whole" :bV)=none:=rfl
def ZR:(Z_ n d h).lookup ("made_of" :bV)=none:=rfl
def ZD:(Z_ n d h).lookup ("fronted" :bV)=none:=rfl
def aek:(Z_ n d h).lookup ("joined" :bV)=none:=rfl
def aei:(Z_ n d h).lookup ("letters" :bV)=none:=rfl
end
def NH [Decidable c](h:(if c then some o else x)=none):¬c/\x=none:=by
 by_cases e:c
 ·rw[h9 e] at h;cases h
 ·rw[h8 e] at h;show(e,h)
def qL(h:H b=none):er A H b=none:=by
 unfold er;split <;> first|rfl|show h
abbrev Zd(C:aW):Sp:=λvs H Q _=>∃(p dx:aW),vs=[.ref p]/\H p=some (.ins C dx [])/\∀H' n d h,oR C H' p n d h []->bK (er [p] H) H'->H n=none->H d=none->H h=none->Q .vI H'
def Ez(T:Tx P w K mg a):gu P w K mg base pS 1 a.qW a.pP qT (Zd a.cF):=by
 show T.Gd.ok wC (λvs H Q E h=>?_) (λY A outer s H vs Q E hr h=>?_)
 ·nofun
 ·let(p,dx,rfl,B,k):=h;have Z:=wC.nd
  show(_,(aU (fF (pv 0) (gS br) rfl)
   (aU (fF (pv 0) ZO rfl)
   (bh (fF (pv 0) (gS br) rfl)))),?_)
  simp![↓fi];show(d6 _,λn U=>?_);have g:p≠n:=bb B U;simp![↓fi,↓kQ B,gv,nU,g,B,T.cR,T.ip];show(by decide,λd hd=>?_);let(dp,hd):=NH hd;let(M,N):=NH hd;have dp:d≠p:=dp;have M:d≠n:=M;simp![↓fi,↓kQ B,gv,nU,g,g.symm,B,dp,M,dp.symm,T.cR,T.og];show(by change 1 < 1000;decide,d6 _,λh D=>?_);let(j,D):=NH D;let(J,D):=NH D;let(_,D):=NH D;let(z,O):=NH D;have j:h≠p:=j;have J:h≠d:=J;have z:h≠n:=z;simp![↓fi,↓kQ B,gv,nU,g,B,dp,M,dp.symm,j,j.symm,T.cR,T.jU];show(by change 2 < 1000;decide,?_);show k _ n d h ((dx,by rw[aV];rfl),([],?_,.nil),?_,?_,z.symm) ?_ U N O
  ·simp only[gv,g.symm,z.symm,M.symm,if_false,if_true];rfl
  ·simp only[gv,dp,J.symm,if_false,if_true];rfl
  ·simp only[gv,j,if_false,if_true];rfl
  ·show dj (bp (dj (bp (dj (bp cq (qL U)) ⋯) (qL N)) ⋯) (qL O)) ⋯
abbrev Q7(C:aW):Sp:=λvs H Q _=>X8 λ(p n d h:aW) (ns:List Nd) (b:aW) (nd:Nd) (g:Bool)=>vs=[.ref p,.ref b,.bl g]/\oR C H p n d h ns/\E7 H b nd/\↑ns<=100000/\g=AM (mF ns) nd/\
 ∀H',oR C H' p n d h (nY ns nd).1->bK (er [n,d,h] H) H'->Q (.int ((nY ns nd).2:Nat)) H'
def df(h:n<=100000):n < sizeLine:=fU h (by decide)
def Ug(h:E7 H b nd):H b=some (.tup ((wI nd).map kV)):=h
def pQ(T:Tx P w K mg a):gu P w K mg base pS 1 a.rO a.pN q_ (Q7 a.cF):=by
 show T.F0.ok wR (λvs H Q E h=>?_) (λb4 A outer s H vs Q E hr h=>?_)
 ·nofun
 ·let(p,n,d,h,ns,b,nd,ah,rfl,hF,M,hlen,bk,k):=h;have hu:=MY hr;have b5:=wR.nd
  show(_,(aU (eG (UP (W_ hu (pv 1) (bN (pv 0) rfl)) (by rfl)) (aU (L6 hu (bN (pv 0) rfl) (pv 1) (ig ee (by rfl) T.r_ dO (aR (bN (pv 0) rfl) br)) rfl)
   (aU (dP (lu bu bH bG d7 (bN (pv 0) rfl) (aR (pv 1) br)))
   (bh (dP (lu bu bH bG d7 (bN (pv 0) rfl) (aR (pv 2) br)))))) dG)
   (bh (cE (L0 hu (bN (pv 0) rfl) (pv 1) (λ_ _=>rfl))))),?_)
  let((dx,B),(ts,N,Z),hd,Y,g):=id hF;simp![↓fi,↓kQ B,B,T.cR,T.ip,T.og,T.jU,vU,GX,By];show(_,Eg.t hd (Ug M),?_);rw[Md];have ar:↑ts=↑ns:=bT Z
  by_cases O:nd∈ns
  ·rw[h9 O];simp![↓fi,oo,Ov];show(_,(by have:=Eg.t hd (Ug M);rw[Md,h9 O] at this;show this),?_);have e:nY ns nd=(ns,ns.idxOf nd,):=by unfold nY;rw[h9 O]
   rw[e] at k;show k H hF cq
  ·rw[h8 O];simp![↓fi,↓kQ B,Option.isSome_none,zm,B,T.cR,T.ip,T.og,T.jU,vU,GX,By];have av:p≠d:=eV B hd (by intro z;cases z);have D:n≠d:=eV N hd (by intro z;cases z);have J:h≠d:=eV Y hd (by intro z;cases z);have aA:p≠n:=eV B N (by intro z;cases z);have aE:p≠h:=eV B Y (by intro z;cases z);have bt:b≠d:=eV M hd (by intro z;cases z);have bx:b≠n:=eV M N (by intro z;cases z);have b0:b≠h:=eV M Y (by intro z;cases z);have b1:↑(VR ns) < sizeLine:=by unfold VR;rw[aQ,List.length_zipIdx];show df hlen
   have U:l8 (VR ns) (wI nd)=none:=by rw[Md,h8 O]
   show(_,.inl (dg.of N),_,LO.t hd (Ug M) b1,?_);rw[Yg _ U];have q1:∃xs,dg K (upd H d (.dT (VR ns++[(wI nd,V.int ↑(iN V.ref ts),)]))) n xs:=(_,dg.of (by rw[bc D];show N));have q2:∃xs,dg K (upd (upd H d (.dT (VR ns++[(wI nd,V.int ↑(iN V.ref ts),)]))) n (.lst (iN V.ref ts++[.ref b]))) h xs:=(_,dg.of (by rw[bc g.symm,bc J];show Y));simp![↓fi,↓kQ B,gv,av,D,J,aA,aE,N,Y,g,g.symm,B,q1,q2,T.cR,T.ip,T.og,T.jU,vU,GX,By];show(by rw[aQ,ar];show df hlen,by rw[aQ];unfold mF;rw[l_];show df hlen,?_);have e:nY ns nd=(ns++[nd],↑ns,):=by unfold nY;rw[h8 O]
   rw[e] at k;rw[aQ,ar];show(V.int (↑ns:Nat),?_,?_)
   ·have b2:(upd (upd (upd H d (.dT (VR ns++[(wI nd,V.int (↑ns:Nat),)]))) n (.lst (iN V.ref ts++[.ref b]))) h (.lst (iN V.bl (mF ns)++[.bl ah]))) d=some (.dT (VR ns++[(wI nd,V.int (↑ns:Nat),)])):=by
      rw[bc J.symm,bc D.symm,aV]
    have b3:(upd (upd (upd H d (.dT (VR ns++[(wI nd,V.int (↑ns:Nat),)]))) n (.lst (iN V.ref ts++[.ref b]))) h (.lst (iN V.bl (mF ns)++[.bl ah]))) b=some (.tup ((wI nd).map kV)):=by
     rw[bc b0,bc bx,bc bt];show M
    have:=Eg.t b2 b3;rw[←Nj,Md,h9 ⋯] at this;have ei:(ns++[nd]).idxOf nd=↑ns:=by rw[List.idxOf_append];simp[O]
    rw[ei,Nj] at this;show this
   ·have j:∀t m,E7 H t m->E7 (upd (upd (upd H d (.dT (VR ns++[(wI nd,V.int (↑ns:Nat),)]))) n (.lst (iN V.ref ts++[.ref b]))) h (.lst (iN V.bl (mF ns)++[.bl ah]))) t m:=λt m ht=>by
      unfold E7;rw[bc (eV ht Y (by intro z;cases z)),bc (eV ht N (by intro z;cases z)),bc (eV ht hd (by intro z;cases z))];show ht
    show k _ ((dx,?_),(ts++[b],?_,?_),?_,?_,g) ?_
    ·rw[bc aE,bc aA,bc av];show B
    ·rw[bc g,aV,bD];rfl
    ·show gQ (L2.Paired.jh Z j) (j b nd M)
    ·rw[bc J.symm,bc D.symm,aV,Nj]
    ·rw[aV];unfold mF;rw[Cu,bD,bk];rfl
    ·show dj (dj (dj cq ⋯) ⋯) ⋯
abbrev QQ(C:aW)(H:Hp)(p n d h:aW)(x:List Nd×Nat)(Q:VK):Prop:=∀H',oR C H' p n d h x.1->bK (er [n,d,h] H) H'->Q (.int (x.2:Nat)) H'
def oR.push(F:oR C H p n d h ns)(z:H b=none):oR C (upd H b o) p n d h ns:=by
 have s:bK H (upd H b o):=bp (same_refl H) z;let((dx,B),(ts,D,g),hd,J,j):=F;show((dx,s _ _ B),(ts,s _ _ D,L2.Paired.jh g λt m h=>s _ _ h),s _ _ hd,s _ _ J,j)
def QQ.push(k:QQ C H p n d h x Q)(j:H b=none):QQ C (upd H b o) p n d h x Q:=λH' F s=>by
 show k H' F λc u e=>?_;let(z,g):=dE.mp e;show s c u (dE.mpr (z,by rw[bc (bb g j)];show g))
abbrev aaC(C:aW):Sp:=λvs H Q _=>X6 λ(p n d h:aW) (ns:List Nd) (c:Nat)=>vs=[.ref p,.str ⟨#[c]⟩]/\oR C H p n d h ns/\↑ns<=100000/\iD c=true/\QQ C H p n d h (nV ns c) Q
def RU:∀c:Nat,97<=c->c<=112->nF (eE "abcdefghijklmnop") ⟨#[c]⟩ 0 ↑(eE "abcdefghijklmnop") 1=[c - 97]:=by
 have h:(du 16).all (λi=>decide (nF (eE "abcdefghijklmnop") ⟨#[i+97]⟩ 0 ↑(eE "abcdefghijklmnop") 1=[i]))=true:=by decide+kernel
 intro c h1 h2;have:=of_decide_eq_true (d8.mp h (c - 97) (eY.mpr ()));rw[show c - 97+97=c by lia] at this;show this
def TY(h:nd.k.leaf=true):AM (mF ns) nd=false:=by
 unfold AM;let(k,l,r):=nd
 cases k <;> first|rfl|(cases h;done)
def uT(T:Tx P w K mg a):gu P w K mg base pS 2 a.vV a.uS vW (aaC a.cF):=by
 show T.KA.ok zR (λvs H Q E h=>?_) (λM A outer s H vs Q E z h=>?_)
 ·nofun
 ·let(p,n,d,h,ns,c,rfl,B,hlen,D,k):=h;have N:=zR.nd
  show(_,(aU (eG (cx NC (pv 1) (iq (by rfl) T.J0) (by rfl)) (bh (cE (dI (pv 0) T.cR T.qU (pQ T) (z.mono (by decide)) T.qV .nil cN (aR (mx (aR (iq (by rfl) T.M3) (aR (ZY (iq (by rfl) T.J0) (pv 1)) (aR bU br)))) (aR ur br))))) dG)
   (bh (cE (dI (pv 0) T.cR T.qU (pQ T) (z.mono (by decide)) T.qV .nil cN (aR (mx (aR (pv 1) (aR bU (aR bU br)))) (aR ur br)))))),?_)
  let((dx,J),(ts,Y,O),hd,Z,U):=id B;simp![↓fi,↓kQ J,J,T.cR,Yt,VL,Qs]
  have go:∀(nd:Nd) (t:aW),nd.k.leaf=true->nV ns c=nY ns nd->H t=none->Q7 a.cF [.ref p,.ref t,.bl false] (upd H t (.tup [.str (wa nd.k),.int nd.l,.int nd.r])) Q E0:=λnd t h1 h2 g=>by
   show(p,n,d,h,ns,t,nd,false,rfl,B.push g,aV,hlen,(TY h1).symm,?_);rw[←h2];show k.push g
  show kg (λj=>?_) (λj=>?_)
  ·show(_,(_,RU c j.1 j.2),by decide,λt g=>?_);show go (.fS,c - 97,0) t rfl (by unfold nV Hw;rw[h8 (),h8 ()]) g
  ·show(by decide,λt g=>?_)
   have:c=48\/c=49:=by
    unfold iD at D;simp only[bw,bf,decide_eq_true_eq,beq_iff_eq] at D;lia
   rcases this with rfl|rfl
   ·show go (.never,0,0) t rfl rfl g
   ·show go (.always,0,0) t rfl rfl g
abbrev Zj(C:aW):Sp:=λvs H Q _=>X8 λ(p n d h:aW) (ns:List Nd) (g:Kd) (l r:Nat)=>vs=[.ref p,.str (wa g),.int (l:Nat),.int (r:Nat)]/\oR C H p n d h ns/\↑ns<=100000/\g.leaf=false/\l < ↑ns/\r < ↑ns/\QQ C H p n d h (nY ns (g,l,r)) Q
def Bz(g:Kd):N5 (.str (wa g)) [.str "X",.str "U",.str "W"]=g.eX:=by
 cases g <;> decide+kernel
def SQ{l:Nat}(h:l < ↑ns):P8 ((mF ns).map V.bl) (l:Int)=some (.bl (f_ ns l)):=by
 have g:l < ↑(mF ns):=by unfold mF;rw[l_];show h
 show Jc ?_;rw[dA,aS g];unfold f_;rw[eh (aS g)];rfl
def gR(T:Tx P w K mg a):gu P w K mg base pS 2 a.tE a.rp tK (Zj a.cF):=by
 show T.Hb.ok xD (λvs H Q E h=>?_) (λU A outer s H vs Q E Y h=>?_)
 ·nofun
 ·let(p,n,d,h,ns,z,l,r,rfl,M,hlen,j,Z,D,k):=h;have ah:=xD.nd
  show(_,(aU (c9 4 (acK (Jf oQ (pv 1) (iZ (v:= .ref a.FF) (by rfl) T.Ma rfl) (by rfl)) (acK (dQ cC (bN (pv 0) rfl) (pv 2) (λ_ _=>rfl)) (Yv (dQ cC (bN (pv 0) rfl) (pv 3) (λ_ _=>rfl))))))
   (bh (cE (dI (pv 0) T.cR T.qU (pQ T) (Y.mono (by decide)) T.qV .nil cN (aR (mx (aR (pv 1) (aR (pv 2) (aR (pv 3) br)))) (aR (pv 4) br)))))),?_)
  let((dx,N),(ts,hn,ar),hd,O,av):=id M;simp![↓fi,↓kQ N,N,T.cR,T.jU,By,Yt];show(_,.inr (T.Fv _),rfl,rfl,?_);rw[Bz]
  have go:∀(b:Bool) (t:aW),b=AM (mF ns) (z,l,r)->H t=none->Q7 a.cF [.ref p,.ref t,.bl b] (upd H t (.tup [.str (wa z),.int l,.int r])) Q E0:=λb t h1 B=>
   (p,n,d,h,ns,t,(z,l,r),b,rfl,M.push B,aV,hlen,h1,k.push B)
  have ea:AM (mF ns) (z,l,r)=(z.eX || (f_ ns l || f_ ns r)):=by
   unfold AM f_;simp only[j,zm,fH]
  rw[ea] at go;show kg (λB=>(by decide,λt g=>go true t (by rw[B];rfl) g)) (λB=>(_,dg.of O,_,SQ Z,?_));simp only[LL];have J:z.eX=false:=by simpa using B
  show kg (λh1=>(by decide,λt g=>go true t (by rw[h1];simp) g)) (λh1=>(_,dg.of O,_,SQ D,by decide,λt g=>go _ t (by rw[J,show f_ ns l=false by simpa using h1];simp) g))
abbrev abj(C:aW):Sp:=λvs H Q _=>X7 λ(p n d h:aW) (ns:List Nd) (c l:Nat)=>vs=[.ref p,.str (gG c),.int (l:Nat)]/\oR C H p n d h ns/\↑ns+2<=100000/\kW c=true/\l < ↑ns/\QQ C H p n d h (u6 ns c l) Q
def Fp(k:QQ C H p n d h x Q)(s:bK (er [n,d,h] H) H1):QQ C H1 p n d h x Q:=λH' F s'=>k H' F λb u e=>by
 let(g,j):=dE.mp e;show s' b u (dE.mpr (g,s b u e))
def MJ(h:kW c=true):c=33\/c=88\/c=70\/c=71:=by
 unfold kW at h;simp only[bw,beq_iff_eq] at h;lia
def Kx(h:jC c=true):c=60\/c=45\/c=124\/c=38\/c=85\/c=82\/c=87:=by
 unfold jC at h;simp only[bw,beq_iff_eq] at h;lia
def IU:↑(nY ns nd).1<=↑ns+1/\↑ns<=↑(nY ns nd).1/\(nY ns nd).2 < ↑(nY ns nd).1:=by
 unfold nY
 by_cases h:nd∈ns
 ·rw[h9 h];show(⋯,aT _,gP.mpr h)
 ·rw[h8 h];simp
def xK(T:Tx P w K mg a):gu P w K mg base pS 3 a.tj a.rA tH (abj a.cF):=by
 show T.HN.ok xB (λvs H Q E h=>?_) (λM A outer s H vs Q E j h=>?_)
 ·nofun
 ·let(p,n,d,h,ns,c,l,rfl,z,hlen,N,g,k):=h;have O:=xB.nd
  show(_,(aU (eG (cx iU (pv 1) tu (dk _)) (bh (cE (dI (pv 0) T.cR T.g_ (gR T) (j.mono (by decide)) T.g9 .nil cN (aR (iq (by rfl) T.Mh) (aR (dI (pv 0) T.cR T.vR (uT T) (j.mono (by decide)) T.vZ .nil cN (aR tu br)) (aR (pv 2) br)))))) dG)
   (aU (eG (cx iU (pv 1) tu (dk _)) (bh (cE (dI (pv 0) T.cR T.g_ (gR T) (j.mono (by decide)) T.g9 .nil cN (aR (iq (by rfl) T.Jp) (aR (pv 2) (aR (dI (pv 0) T.cR T.vR (uT T) (j.mono (by decide)) T.vZ .nil cN (aR tu br)) br)))))) dG)
   (bh (cE (dI (pv 0) T.cR T.g_ (gR T) (j.mono (by decide)) T.g9 .nil cN (aR (pv 1) (aR (pv 2) (aR (pv 2) br)))))))),?_)
  let((dx,J),(ts,Z,U),hd,hh,Y):=id z;simp![↓fi,↓kQ J,J,T.cR,Yf,ZR];rcases MJ N with rfl|rfl|rfl|rfl
  ·rw[h8 (by decide+kernel),h8 (by decide+kernel)];show(p,n,d,h,ns,.not,l,l,rfl,z,(),rfl,g,g,k)
  ·rw[h8 (by decide+kernel),h8 (by decide+kernel)];show(p,n,d,h,ns,.next,l,l,rfl,z,(),rfl,g,g,k)
  ·rw[h9 (by decide+kernel)];show(p,n,d,h,ns,49,rfl,z,(),rfl,λH1 B D=>?_);have e:=IU (ns:=ns) (nd:=Hw 49);show(p,n,d,h,_,.De,_,l,rfl,B,by change↑(nY ns (Hw 49)).1<=100000;lia,rfl,e.2.2,bF g e.2.1,Fp k D)
  ·rw[h8 (by decide+kernel),h9 (by decide+kernel)];show(p,n,d,h,ns,48,rfl,z,(),rfl,λH1 B D=>?_);have e:=IU (ns:=ns) (nd:=Hw 48);show(p,n,d,h,_,.unless,l,_,rfl,B,by change↑(nY ns (Hw 48)).1<=100000;lia,rfl,bF g e.2.1,e.2.2,Fp k D)
abbrev aed(C:aW):Sp:=λvs H Q _=>X8 λ(p n d h:aW) (ns:List Nd) (c l r:Nat)=>vs=[.ref p,.str (gG c),.int (l:Nat),.int (r:Nat)]/\oR C H p n d h ns/\↑ns+4<=100000/\jC c=true/\l < ↑ns/\r < ↑ns/\QQ C H p n d h (Dj ns c l r) Q
def Hv(T:Tx P w K mg a):gu P w K mg base pS 4 a.u9 a.tf vf (aed a.cF):=by
 show T.Iu.ok yz (λvs H Q E h=>?_) (λO A outer s H vs Q E j h=>?_)
 ·nofun
 ·let(p,n,d,h,ns,c,l,r,rfl,B,hlen,U,D,g,k):=h;have Y:=yz.nd
  show(_,(aU (eG (cx iU (pv 1) tu (dk _)) (bh (cE (dI (pv 0) T.cR T.g_ (gR T) (j.mono (by decide)) T.g9 .nil cN (aR (iq (by rfl) T.agl) (aR (dI (pv 0) T.cR T.yU (xK T) (j.mono (by decide)) T.yS .nil cN (aR tu (aR (pv 2) br))) (aR (pv 3) br)))))) dG)
   (aU (eG (cx iU (pv 1) tu (dk _)) (bh (cE (dI (pv 0) T.cR T.g_ (gR T) (j.mono (by decide)) T.g9 .nil cN (aR (iq (by rfl) T.Jp) (aR (pv 3) (aR (dI (pv 0) T.cR T.g_ (gR T) (j.mono (by decide)) T.g9 .nil cN (aR (iq (by rfl) T.ack) (aR (pv 2) (aR (pv 3) br)))) br)))))) dG)
   (bh (cE (dI (pv 0) T.cR T.g_ (gR T) (j.mono (by decide)) T.g9 .nil cN (aR (pv 1) (aR (pv 2) (aR (pv 3) br)))))))),?_)
  let((dx,N),(ts,hn,Z),hd,hh,ah):=id B;simp![↓fi,↓kQ N,N,T.cR,ZD,ZR]
  have plain:∀z:Kd,z.leaf=false->wa z=gG c->Dj ns c l r=nY ns (z,l,r)->Zj a.cF [.ref p,.str (gG c),.int (l:Nat),.int (r:Nat)] H Q E0:=λz h1 h2 h3=>
   (p,n,d,h,ns,z,l,r,by rw[h2],B,(),h1,D,g,by rw[h3] at k;show k)
  rcases Kx U with rfl|rfl|rfl|rfl|rfl|rfl|rfl
  ·rw[h8 (by decide+kernel),h8 (by decide+kernel)];show plain .alike rfl (by decide+kernel) rfl
  ·rw[h9 (by decide+kernel)];show(p,n,d,h,ns,33,l,by rw[show gG 33=eE "!" by decide+kernel],B,(),rfl,D,λH1 J M=>?_);have e:=IU (ns:=ns) (nd:=(.not,l,l));show(p,n,d,h,_,.or,_,r,rfl,J,by change↑(nY ns (.not,l,l)).1<=100000;lia,rfl,e.2.2,bF g e.2.1,Fp k M)
  ·rw[h8 (by decide+kernel),h8 (by decide+kernel)];show plain .or rfl (by decide+kernel) rfl
  ·rw[h8 (by decide+kernel),h8 (by decide+kernel)];show plain .and rfl (by decide+kernel) rfl
  ·rw[h8 (by decide+kernel),h8 (by decide+kernel)];show plain .De rfl (by decide+kernel) rfl
  ·rw[h8 (by decide+kernel),h9 (by decide+kernel)];show(p,n,d,h,ns,.and,l,r,rfl,B,(),rfl,D,g,λH1 J M=>?_);have e:=IU (ns:=ns) (nd:=(.and,l,r));show(p,n,d,h,_,.unless,r,_,rfl,J,(),rfl,bF g e.2.1,e.2.2,Fp k M)
  ·rw[h8 (by decide+kernel),h8 (by decide+kernel)];show plain .unless rfl (by decide+kernel) rfl
abbrev ka(ns:List Nd):List Nat:=(ns.filter λn=>decide (n.k= .fS)).map Nd.l
abbrev ady(C:aW):Sp:=λvs H Q _=>X5 λ(p n d h:aW) (ns:List Nd)=>vs=[.ref p]/\oR C H p n d h ns/\↑ns<=100000/\∀H' l,bK H H'->H l=none->H' l=some (.lst ((ka ns).map λz=>V.int (z:Nat)))->Q (.ref l) H'
abbrev ahe(H:Hp)(D:aW)(ns:List Nd)(i:Nat)(H':Hp):Prop:=bK H H'/\H' D=some (.lst ((ka (ns.take i)).map λz=>V.int (z:Nat)))
def eJ:∀{as:List α} {bs:List β},Paired R as bs->∀{i:Nat} {x:α},as[i]? =some x->∃y,bs[i]? =some y/\R x y
 |_,_,.nil,i,x,h=>by simp at h
 |_,_,.cons r t,0,x,h=>by cases h;show(_,rfl,r)
 |_,_,.cons r t,i+1,x,h=>eJ t (i:=i) (by simpa using h)
def take_snoc{l:List α}{x:α}(h:l[i]? =some x):l.take (i+1)=l.take i++[x]:=by
 rw[NO,h];rfl
def iT{f:α->V}{l:List α}{i:Nat}(h:(l.map f)[i]? =some x):∃y,l[i]? =some y/\x=f y:=by
 rw[dA] at h
 cases e:l[i]? with
 |none=>rw[e] at h;cases h
 |some y=>rw[e] at h;show(y,rfl,(bQ h).symm)
def OY(ns:List Nd)(n:Nd):ka (ns++[n])=ka ns++if n.k= .fS then [n.l] else []:=by
 unfold ka;rw[hJ,bD];congr 1
 by_cases h:n.k= .fS
 ·rw[h9 h];simp[h]
 ·rw[h8 h];simp[h]
def R6(ns:List Nd):↑(ka ns)<=↑ns:=by
 unfold ka;rw[aQ];show eP _ _
def GY(k:Kd):(wa k=eE "a")=(k= .fS):=propext (λh=>oy (b:= .fS) h,λh=>by rw[h];rfl)
def qM(T:Tx P w K mg a):gu P w K mg base pS 1 a.tO a.qX tP (ady a.cF):=by
 show T.GW.ok qZ (λvs H Q E h=>?_) (λZ A outer s H vs Q E hr h=>?_)
 ·nofun
 ·let(p,n,d,h,ns,rfl,hF,hlen,k):=h;have ah:=qZ.nd;show(_,(bh (cE (OT (own:=[("node",1,)]) rfl qZ.nd (jE (bN (pv 0) rfl)) (sg (by rfl)) (λ_ _ _ _ _=>(b6 1)) (λ_ _ _ _ _=>(L4 (cx iU (dQ (Qy (K:=K) rfl) (pv 1) bU (λ_ _=>rfl)) (iq (by rfl) T.M3) (dk _)))) (λ_ _ _ _ _=>(dQ (Qy (K:=K) rfl) (pv 1) bU (λ_ _=>rfl)))))),?_);let((dx,O),(ts,U,j),hd,hh,ar):=id hF;simp![↓fi,↓kQ O,O,T.cR,T.ip,vU];show((_,dg.of U),?_);intro D J;show Fi (xs:=ts.map V.ref) (ahe H D ns) (bp (same_refl H) J,by rw[aV];rfl) (λi H' _ h=>dg.of (h.1 _ _ U)) ?_ ?_
  ·rintro i x H' hx ⟨z,g⟩;let(t,ht,rfl):=iT hx;let(nd,M,hT):=eJ j ht;have B:H' t=some (.tup [.str (wa nd.k),.int nd.l,.int nd.r]):=z _ _ hT;simp![↓fi];have Y:(ns.take (i+1))=ns.take i++[nd]:=take_snoc M;show(_,qH.of B,_,rfl,?_);simp![↓fi];show kg (λe=>?_) (λe=>?_)
   ·have N:nd.k= .fS:=oy (b:= .fS) e;show(_,qH.of B,_,rfl,_,g,?_,bp z J,?_)
    ·rw[aQ];show fU (cJ (R6 _) (by rw[cK];lia)) (df hlen)
    ·rw[aV,Y,OY,h9 N,bD];rfl
   ·have N:¬nd.k= .fS:=λe'=>e (by rw[e'];rfl);show(z,?_);rw[g,Y,OY,h8 N,fL]
  ·rintro H' ⟨z,g⟩;rw[aQ,show ↑ts=↑ns from bT j,dC] at g;show k H' D z J g
abbrev WQ(q r w:aW):List (bV×V):=[("formulas",.ref q,),("ready",.ref r,),("waiting",.ref w,)]
section
variable{q r w:aW}
def Cw:(WQ q r w).lookup ("formulas" :bV)=some (.ref q):=rfl
def Bv:(WQ q r w).lookup ("ready" :bV)=some (.ref r):=rfl
def Aa:(WQ q r w).lookup ("waiting" :bV)=some (.ref w):=rfl
def Y9:(WQ q r w).lookup ("do_waiting" :bV)=none:=rfl
def aeV:(WQ q r w).lookup ("take" :bV)=none:=rfl
end
structure Ob(C g:aW)(H:Hp)(p r v q n d h:aW)(s:BS):Prop where
 obj:∃dx,H p=some (.ins C dx (WQ q r v))
 ready:H r=some (.lst (s.rd.reverse.map λz=>V.int (z:Nat)))
 wait:H v=some (.lst (s.W.reverse.map λc=>V.str (gG c)))
 fo:oR g H q n d h s.ns
 rv:r≠v
 rn:r≠n
 rh:r≠h
 vn:v≠n
 vh:v≠h
 pq:p≠q
abbrev Zv(C:aW):Sp:=λvs H Q _=>∃(p dx q:aW),vs=[.ref p,.ref q]/\H p=some (.ins C dx [])/\∀H' r v,H' p=some (.ins C dx (WQ q r v))->H' r=some (.lst [])->H' v=some (.lst [])->r≠v->bK (er [p] H) H'->H r=none->H v=none->Q .vI H'
def za(T:Tx P w K mg a):gu P w K mg base pS 1 a.lP a.lj lO (Zv a.cI):=by
 show T.zA.ok pX (λvs H Q E h=>?_) (λM A outer s H vs Q E O h=>?_)
 ·nofun
 ·let(p,dx,q,rfl,D,k):=h;have N:=pX.nd
  show(_,(aU (fF (pv 0) (pv 1) rfl)
   (aU (fF (pv 0) (gS br) rfl)
   (bh (fF (pv 0) (gS br) rfl)))),?_)
  simp![↓fi,↓kQ D,D,T.dz,T.iY];show(by decide,d6 _,λr J=>?_);have j:r≠p/\H r=none:=by rw[gv] at J;show NH J
  simp![↓fi,↓kQ D,gv,nU,D,j.1,j.1.symm,T.dz,T.gZ];show(by change 1 < 1000;decide,d6 _,λv g=>?_);let(z,g):=NH g;let(B,g):=NH g;let(_,g):=NH g;have z:v≠p:=z;have B:v≠r:=B;simp![↓fi,↓kQ D,gv,nU,D,j.1,j.1.symm,z,z.symm,T.dz,T.ie];show(by change 2 < 1000;decide,?_);show k _ r v (by rw[aV];rfl) ?_ ?_ B.symm ?_ j.2 g
  ·simp only[gv,j.1,B.symm,if_false,if_true]
  ·simp only[gv,z,if_false,if_true]
  ·show dj (bp (dj (bp (dj cq ⋯) (qL j.2)) ⋯) (qL g)) ⋯
def S3(h:RQ c):c=40\/c=33\/c=88\/c=70\/c=71\/c=60\/c=45\/c=124\/c=38\/c=85\/c=82\/c=87:=by
 rcases h with h|h|h
 ·show .inl h
 ·have:=MJ h;lia
 ·have:=Kx h;lia
def OK(h:RQ c):l8 Ee (fW (gG c))=some (.int (binds c:Nat)):=by
 rcases S3 h with rfl|rfl|rfl|rfl|rfl|rfl|rfl|rfl|rfl|rfl|rfl|rfl <;> decide+kernel
def Uw(h:RQ c):N5 (.str (gG c)) [.str "!",.str "X",.str "F",.str "G"]=kW c:=by
 rcases S3 h with rfl|rfl|rfl|rfl|rfl|rfl|rfl|rfl|rfl|rfl|rfl|rfl <;> decide+kernel
def QT:P8 (xs++[y]) (-1)=some y:=by
 unfold P8 WM;simp only[aY,a_,cW];rw[h8 (),h9 ()];change(xs++[y])[_]? =some y;rw[show((-1:Int)+((↑xs+(0+1):Nat):Int)).toNat=↑xs by lia];simp
def uI:(x ::l).reverse.map f=l.reverse.map f++[f x]:=by simp
def Je:(xs++[y])[(xs++[y]).length - 1]? =some y:=by simp
def Fj:(xs++[y]).dropLast=xs:=by simp
structure afE(H:Hp)(p r v q n d h:aW):Prop where
 pr:p≠r
 pv:p≠v
 pn:p≠n
 pd:p≠d
 ph:p≠h
 qr:q≠r
 qv:q≠v
 dr:d≠r
 dv:d≠v
def Ob.dis(B:Ob C U H p r v q n d h s):afE H p r v q n d h:=by
 let((dx,g),j,D,((Y,J),(ts,M,N),hd,O,Q),_):=B;show(eV g j (by intro z;cases z),eV g D (by intro z;cases z),eV g M (by intro z;cases z),eV g hd (by intro z;cases z),eV g O (by intro z;cases z),eV J j (by intro z;cases z),eV J D (by intro z;cases z),eV hd j (by intro z;cases z),eV hd D (by intro z;cases z))
def oR.wr(F:oR C H p n d h ns)(g:H b=some (.lst xs))(h1:b≠n)(h2:b≠h):oR C (upd H b (.lst ys)) p n d h ns:=by
 let((M,D),(ts,N,j),hd,O,B):=F;show((M,by rw[bc (eV D g (by intro z;cases z))];show D),(ts,by rw[bc h1.symm];show N,L2.Paired.jh j λt m J=>?_),by rw[bc (eV hd g (by intro z;cases z))];show hd,by rw[bc h2.symm];show O,B);unfold E7;rw[bc (eV J g (by intro z;cases z))];show J
abbrev aiC(C g:aW):Sp:=λvs H Q _=>X10 λ(p r v q n d h:aW) (s:BS) (m:Nat) (R:List wo)=>vs=[.ref p,.int (m:Nat)]/\Ob C g H p r v q n d h s/\sr s.ns s.rd s.W R/\↑s.rd=DE s.W+1/\1<=m/\↑s.ns+4*↑s.W+4<=100000/\↑s.rd<=5000/\
 ∀H',Ob C g H' p r v q n d h (zZ m s.ns s.rd s.W)->bK (er [r,v,n,d,h] H) H'->Q .vI H'
abbrev WDo(C j:aW)(H:Hp)(p r v q n d h:aW)(m:Nat)(g:BS)(k:Nat)(σ:L2.St)(H':Hp):Prop:=X4 λ(s:BS) (R:List wo) (v2 z:Option V)=>σ=[some (.ref p),some (.int (m:Nat)),v2,z]/\Ob C j H' p r v q n d h s/\sr s.ns s.rd s.W R/\↑s.rd=DE s.W+1/\
 ↑s.ns+4*↑s.W+4<=100000/\↑s.rd<=5000/\zZ m s.ns s.rd s.W=zZ m g.ns g.rd g.W/\bK (er [r,v,n,d,h] H) H'/\k=↑s.W
def kb(T:Tx P w K mg a):gu P w K mg base pS 5 a.kC a.j8 kj (aiC a.cI a.cF):=by
 show T.ya.ok oH (λvs H Q E h=>?_) (λb5 A outer s H vs Q E hr h=>?_)
 ·nofun
 ·let(p,r,v,q,n,d,h,s0,m,R0,rfl,bk,bl,bt,hm,aA,aE,k):=h;have hu:=MY hr;have cc:=oH.nd
  show(_,(bh (ve b8 (Rb (MW (cx OV (ig ee (by rfl) T.r_ dO (aR (bN (pv 0) rfl) br)) bU (dk _)) (IT (cx Y1 (Vt hu (iZ (v:= .ref a.Ml) (by rfl) T.V7 rfl) T.VI (dQ cC (bN (pv 0) rfl) (Jk He bU) (λ_ _=>rfl)) (λ_ _=>rfl)) (pv 1) (dk _))))) (aU (c9 2 (xk bu eO eM yN (bN (pv 0) rfl)))
   (aU (c9 3 (xk bu eO eM yN (bN (pv 0) rfl)))
   (bh (eG (cx oQ (pv 2) (iZ (v:= .ref a.Iv) (by rfl) T.Sy rfl) (by rfl)) (bh (dP (lu bu bH bG d7 (bN (pv 0) rfl) (aR (dI (bN (pv 0) rfl) T.cR T.yU (xK T) (hr.mono (by decide)) T.yS .nil cN (aR (pv 2) (aR (pv 3) br))) br)))) (bh (dP (lu bu bH bG d7 (bN (pv 0) rfl) (aR (dI (bN (pv 0) rfl) T.cR T.I_ (Hv T) (hr.mono (by decide)) T.IP .nil cN (aR (pv 2) (aR (xk bu eO eM yN (bN (pv 0) rfl)) (aR (pv 3) br)))) br)))))))))),?_)
  simp![];show(WDo a.cI a.cF H p r v q n d h m s0,(↑s0.W,s0,R0,none,none,rfl,bk,bl,bt,aA,aE,rfl,cq,rfl),?_);rintro ms σ H' ⟨st,R,v2,v3,rfl,hB,O,hc,hsz,B,j,sH,rfl⟩;let((dx,hp),U,M,hF,rv,rn,rh,vn,vh,pq):=id hB;have D:=hB.dis;simp![↓bS hp T.dz T.ie Aa];show(_,.inl (dg.of M),?_);let(ns,rd,W):=st;simp only at U M hF O hc hsz B j ⊢
  match W,U,M,hF,O,hc,hsz,j,hB with
  |[],U,M,hF,O,hc,hsz,j,hB=>
   rw[h8 ⋯];show k H' ?_ sH;rw[←j];have e:zZ m ns rd []=(ns,rd,[]):=by rw[zZ]
   rw[e];show hB
  |op ::W,U,M,hF,O,hc,hsz,j,hB=>
   have hop:=O.ops op bg;rw[h9 ⋯];rw[uI] at M;show(_,dg.of M,_,QT,_,rfl,_,OK hop,?_);simp only[NB];show kg (λhle=>(λσ' H'=>∃m',m' < ↑(op ::W)/\WDo a.cI a.cF H p r v q n d h m s0 m' σ' H',λ_ _ h=>h,.inl (_,dg.of M),_,M,_,Je,?_)) (λcm=>?_)
   ·have ar:m<=binds op:=by lia
    rw[Fj];have J:upd H' v (.lst (W.reverse.map λc=>V.str (gG c))) r=some (.lst (rd.reverse.map λz=>V.int (z:Nat))):=by rw[bc rv];show U
    match rd,U,J,hc,O,B,j,hB with
    |[],U,J,hc,O,B,j,hB=>simp at hc
    |x ::rd,U,J,hc,O,B,j,hB=>
     rw[uI] at J;have q1:∃xs,dg K (upd H' v (.lst (W.reverse.map λc=>V.str (gG c)))) r xs:=(_,dg.of J);have p1:upd H' v (.lst (W.reverse.map λc=>V.str (gG c))) p=some (.ins a.cI dx (WQ q r v)):=by rw[bc D.pv];show hp
     simp![↓bS p1 T.dz T.gZ Bv,q1];show(_,J,_,Je,?_);rw[Fj];show(_,.inr (T.Se _),rfl,rfl,?_);rw[Uw hop];have F2:=(hF.wr (ys:=W.reverse.map λc=>V.str (gG c)) M vn vh).wr (ys:=rd.reverse.map λz=>V.int (z:Nat)) (b:=r) J rn rh;have p2:upd (upd H' v (.lst (W.reverse.map λc=>V.str (gG c)))) r (.lst (rd.reverse.map λz=>V.int (z:Nat))) p=some (.ins a.cI dx (WQ q r v)):=by rw[bc D.pr,bc D.pv];show hp
     have r2:upd (upd H' v (.lst (W.reverse.map λc=>V.str (gG c)))) r (.lst (rd.reverse.map λz=>V.int (z:Nat))) r=some (.lst (rd.reverse.map λz=>V.int (z:Nat))):=aV;have w2:upd (upd H' v (.lst (W.reverse.map λc=>V.str (gG c)))) r (.lst (rd.reverse.map λz=>V.int (z:Nat))) v=some (.lst (W.reverse.map λc=>V.str (gG c))):=by rw[bc rv.symm,aV]
     have s2:bK (er [r,v,n,d,h] H) (upd (upd H' v (.lst (W.reverse.map λc=>V.str (gG c)))) r (.lst (rd.reverse.map λz=>V.int (z:Nat)))):=dj (dj sH ⋯) ⋯;generalize upd (upd H' v (.lst (W.reverse.map λc=>V.str (gG c)))) r (.lst (rd.reverse.map λz=>V.int (z:Nat)))=H2 at F2 p2 r2 w2 s2 ⊢;let((dy,hq),_):=id F2;have q2:∃xs,dg K H2 r xs:=(_,dg.of r2)
     have fin:∀(x:List Nd×Nat) (Y:List Nat) (R':List wo) (Z:Hp) (v2 v3:Option V),oR a.cF Z q n d h x.1->bK (er [n,d,h] H2) Z->Z r=some (.lst (Y.reverse.map λz=>V.int (z:Nat)))->Z v=some (.lst (W.reverse.map λc=>V.str (gG c)))->Z p=some (.ins a.cI dx (WQ q r v))->
       bK (er [r,v,n,d,h] H) Z->sr x.1 (x.2 ::Y) W R'->↑(x.2 ::Y)=DE W+1->↑x.1<=↑ns+4->↑(x.2 ::Y)<=5000->zZ m x.1 (x.2 ::Y) W=zZ m s0.ns s0.rd s0.W->
       ∃m',m' < ↑(op ::W)/\WDo a.cI a.cF H p r v q n d h m s0 m' [some (.ref p),some (.int (m:Nat)),v2,v3] (upd Z r (.lst (Y.reverse.map (λz=>V.int (z:Nat))++[.int (x.2:Nat)]))):=λx Y R' Z v2 v3 F3 s3 bx b0 b1 b2 g1 g2 g3 g4 g5=>by
      show(↑W,⋯,(x.1,x.2 ::Y,W),R',v2,v3,rfl,((dx,by rw[bc D.pr];show b1),by rw[aV];show congrArg (λz=>some (HO.lst z)) uI.symm,by rw[bc rv.symm];show b0,F3.wr bx rn rh,rv,rn,rh,vn,vh,pq),g1,g2,?_,g4,g5,dj b2 ⋯,rfl);simp only[a_] at hsz ⊢;lia
     cases ah:kW op with
     |true=>
      rw[h9 rfl];simp![↓bS p2 T.dz T.gZ Bv,↓bS p2 T.dz T.iY Cw,hq,q2,ZD]
      obtain⟨f,R,rfl⟩:∃f R',R=f ::R':=by
       have:=O.len
       cases R with
       |nil=>simp at this
       |cons f R'=>show(f,R',rfl)
      let(h1,hx,hf):=sr.oA.mp O.tail;have N:=Kg O.ok ah hx hf;show(q,n,d,h,ns,op,x,rfl,F2,by simp only[a_] at hsz;lia,ah,hx,λZ F3 s3=>?_);have r3:Z r=some (.lst (rd.reverse.map λz=>V.int (z:Nat))):=cb s3 (by simp[rn,rh,D.dr.symm]) r2;have v3:Z v=some (.lst (W.reverse.map λc=>V.str (gG c))):=cb s3 (by simp[vn,vh,D.dv.symm]) w2;have p3:Z p=some (.ins a.cI dx (WQ q r v)):=cb s3 (by simp[D.pn,D.pd,D.ph]) p2;show(_,r3,by rw[aQ,ij];show mY (by simp only[a_] at B;lia),?_);show fin (u6 ns op x) rd (Pt.QD op f ::R) Z _ _ F3 s3 r3 v3 p3 (λb u e=>?_) (sr.oA.mpr (h1.grow N.g,N.lt,N.FO)) ?_ (cJ N.g.len ()) (by simpa using B) (by rw[←j,Z4 ar ah])
      ·let(e1,e2):=dE.mp e;show cb s3 (λhm=>e1 (by simp only[bo,dD,or_false] at hm ⊢;rcases hm with h|h|h <;> simp[h])) (s2 b u e)
      ·rw[uj,h8 (by rw[yW ah];simp)] at hc;simp only[a_] at hc ⊢;lia
     |false=>
      rw[h8 ⋯];simp![↓bS p2 T.dz T.gZ Bv,↓bS p2 T.dz T.iY Cw,hq,q2,aek]
      have av:jC op=true:=by
       rcases Vj hop hm ar with q|q
       ·rw[ah] at q;cases q
       ·show q
      rw[uj,h9 av] at hc
      match rd,r2,hc,O,B,j,F2,p2,w2,s2 with
      |[],r2,hc,O,B,j,F2,p2,w2,s2=>simp only[a_,cW] at hc;lia
      |l ::rd,r2,hc,O,B,j,F2,p2,w2,s2=>
       rw[uI] at r2;show(_,r2,_,Je,?_);rw[Fj]
       obtain⟨g,f,R,rfl⟩:∃g f R',R=g ::f ::R':=by
        have:=O.len
        match R with
        |[]=>simp at this
        |[_]=>simp at this
        |g ::f ::R'=>show(g,f,R',rfl)
       let(h1,hx,hg):=sr.oA.mp O.tail;let(h2,hl,hf):=sr.oA.mp h1;have N:=SX O.ok av hl hx hf hg;have b3:=F2.wr (ys:=rd.reverse.map λz=>V.int (z:Nat)) r2 rn rh;show(q,n,d,h,ns,op,l,x,rfl,b3,by simp only[a_] at hsz;lia,av,hl,hx,λZ F3 s3=>?_);have r3:Z r=some (.lst (rd.reverse.map λz=>V.int (z:Nat))):=cb s3 (by simp[rn,rh,D.dr.symm]) aV;have v3:Z v=some (.lst (W.reverse.map λc=>V.str (gG c))):=cb s3 (by simp[vn,vh,D.dv.symm]) (by rw[bc rv.symm];show w2);have p3:Z p=some (.ins a.cI dx (WQ q r v)):=cb s3 (by simp[D.pn,D.pd,D.ph]) (by rw[bc D.pr];show p2);show(_,r3,by rw[aQ,ij];show mY (by simp only[a_] at B;lia),?_);have b4:=dj (p:=r) (o:= .lst (rd.reverse.map λz=>V.int (z:Nat))) s2 ⋯;show(↑W,(),((Dj ns op l x).1,(Dj ns op l x).2 ::rd,W),Pt.MO op f g ::R,_,_,rfl,((dx,by rw[bc D.pr];show p3),by rw[aV];show congrArg (λz=>some (HO.lst z)) uI.symm,by rw[bc rv.symm];show v3,F3.wr r3 rn rh,rv,rn,rh,vn,vh,pq),sr.oA.mpr (h2.grow N.g,N.lt,N.FO),?_,?_,?_,?_,dj (λb u e=>?_) ⋯,rfl)
       ·simp only[a_] at hc ⊢;lia
       ·have:=N.g.len;simp only[a_] at hsz ⊢;lia
       ·simp only[a_] at B ⊢;lia
       ·rw[←j,VA ar ah]
       ·let(e1,e2):=dE.mp e;show cb s3 (λhm=>e1 (by simp only[bo,dD,or_false] at hm ⊢;rcases hm with h|h|h <;> simp[h])) (b4 b u e)
   ·show k H' ?_ sH;rw[←j,Rz ()];show hB
def YY(h:jC c=true):l8 oN (fW (gG c))=some (.int (gq c:Nat)):=by
 rcases Kx h with rfl|rfl|rfl|rfl|rfl|rfl|rfl <;> decide+kernel
def T5(h:c=40\/kW c=true):l8 oN (fW (gG c))=none:=by
 have:c=40\/c=33\/c=88\/c=70\/c=71:=by
  rcases h with h|h
  ·show .inl h
  ·show .inr (MJ h)
 rcases this with rfl|rfl|rfl|rfl|rfl <;> decide+kernel
def UC:∀c:Nat,iD c=true->l8 oN (fW (gG c))=none/\l8 Ee (fW (gG c))=none/\gG c=⟨#[c]⟩:=by
 have h:(du 128).all (λc=>!iD c || decide (l8 oN (fW (gG c))=none/\l8 Ee (fW (gG c))=none/\gG c=⟨#[c]⟩))=true:=by decide+kernel
 intro c g
 have j:c < 128:=by
  unfold iD at g;simp only[bw,bf,decide_eq_true_eq,beq_iff_eq] at g;lia
 have:=d8.mp h c (eY.mpr j);rw[g] at this;simpa using this
def ahy(c:Nat):(gG c=eE ")")=(c=41):=by
 unfold gG
 by_cases h:c=45
 ·subst h;rw[h9 rfl];show propext (λe=>absurd e (by decide+kernel),λe=>by lia)
 ·rw[h8 h]
  by_cases h2:c=60
  ·subst h2;rw[h9 rfl];show propext (λe=>absurd e (by decide+kernel),λe=>by lia)
  ·rw[h8 h2];show acv c
abbrev ae3(C g:aW):Sp:=λvs H Q _=>X13 λ(p r v q n d h:aW) (s:BS) (u:Bool) (j t:Nat) (ts:List Nat) (sp:List wo×List Nat)=>vs=[.ref p,.str (gG t)]/\Ob C g H p r v q n d h s/\Uy u j s sp/\valid u j (t ::ts)/\↑s.ns+4*↑s.W+8<=100000/\↑s.rd+1<=5000/\↑s.W+1<=5000/\
 ∀H',Ob C g H' p r v q n d h (lH t s)->bK (er [r,v,n,d,h] H) H'->Q .vI H'
def Cf(T:Tx P w K mg a):gu P w K mg base pS 6 a.pz a.oi pB (ae3 a.cI a.cF):=by
 show T.DN.ok va (λvs H Q E h=>?_) (λbk A outer s H vs Q E hr h=>?_)
 ·nofun
 ·let(p,r,v,q,n,d,h,g,u,dd,t,ts,sp,rfl,hB,U,hv,hsz,bl,bt,k):=h;have hu:=MY hr;have bx:=va.nd
  show(_,(bh (eG (cx iU (pv 1) tu (dk _)) (aU (dP (dI (pv 0) T.dz T.kh (kb T) (hr.mono (by decide)) T.ko .nil cN (aR (fb (by rfl) T.zY) br)))
   (bh (dP (xk bu eO eM yN (bN (pv 0) rfl))))) (bh (eG (UP (Zc hu (pv 1) T.Jb (iZ (v:= .ref a.xW) (by rfl) T.Jr rfl)) (by rfl)) (aU (dP (dI (pv 0) T.dz T.kh (kb T) (hr.mono (by decide)) T.ko .nil cN (aR (Vt hu (iZ (v:= .ref a.xW) (by rfl) T.Jr rfl) T.Jb (pv 1) (λ_ _=>rfl)) br)))
   (bh (dP (lu bu bH bG d7 (bN (pv 0) rfl) (aR (pv 1) br))))) (bh (eG (UP (Zc hu (pv 1) T.VI (iZ (v:= .ref a.Ml) (by rfl) T.V7 rfl)) (by rfl)) (bh (dP (lu bu bH bG d7 (bN (pv 0) rfl) (aR (pv 1) br)))) (bh (dP (lu bu bH bG d7 (bN (pv 0) rfl) (aR (dI (bN (pv 0) rfl) T.cR T.vR (uT T) (hr.mono (by decide)) T.vZ .nil cN (aR (pv 1) br)) br)))))))))),?_)
  let((dx,hp),Y,N,hF,rv,rn,rh,vn,vh,pq):=id hB;have D:=hB.dis;let((dy,hq),_):=id hF;have q1:∃xs,dg K H r xs:=(_,dg.of Y);have q2:∃xs,dg K H v xs:=(_,dg.of N);simp![↓fi,↓kQ hp,hp,hq,q1,q2,T.cR,T.dz,T.ie,T.gZ,T.iY,Aa,Bv,Cw,Y9,Yf,ahy];have O:u=false->↑g.rd=DE g.W+1:=λe=>by have:=U.cnt;rw[e] at this;simpa using this
  show kg (λJ=>?_) (λJ=>?_)
  ·subst J
   have hu':u=false/\0 < dd:=by
    cases u with
    |true=>rcases hv with⟨e,_⟩|⟨e,_⟩|⟨e,_⟩ <;> cases e
    |false=>rcases hv with⟨_,e,_⟩|⟨e,_⟩
            ·show(rfl,e)
            ·cases e
   show(p,r,v,q,n,d,h,g,1,sp.1,rfl,hB,U.rel,O hu'.1,aT _,(),(),λH1 B1 s1=>?_);let(i1,i2,i3,i4,_,_):=CB (m:=1) (aT _) g.W g.ns g.rd sp.1 U.rel (O hu'.1);have ht:=PQ (m:=1) g.W sp.1 U.rel.ops;rw[←i1] at ht;let(W',eW):=Vm i2.ops ht (by rw[i4,U.par];show hu'.2);let((Z,B),M,j,ah,_):=id B1;have q3:∃xs,dg K H1 v xs:=(_,dg.of j);simp![↓fi,↓kQ B,B,q3,T.dz,T.ie,Aa];rw[eW,uI] at j;show(_,j,(_,Je),?_);rw[Fj]
   have eT:lH 41 g=((zZ 1 g.ns g.rd g.W).ns,(zZ 1 g.ns g.rd g.W).rd,W'):=by
    unfold lH;rw[h9 rfl];simp only;rw[eW];rfl
   have D1:=B1.dis;show k _ ?_ (dj s1 ⋯);rw[eT];show((Z,by rw[bc D1.pv];show B),by rw[bc rv];show M,aV,ah.wr j vn vh,rv,rn,rh,vn,vh,pq)
  ·cases u with
    |false=>
     have hb:jC t=true:=by
      rcases hv with⟨e,_⟩|⟨e,_⟩
      ·show absurd e J
      ·show e
     rw[YY hb,h9 (oo)];have ar:1<=gq t:=by unfold gq;(repeat' split) <;> lia
     show(_,rfl,p,r,v,q,n,d,h,g,gq t,sp.1,rfl,hB,U.rel,O rfl,ar,(),(),λH1 B1 s1=>?_);let(i1,i2,i3,i4,(_,_,_,i5,_),_):=CB ar g.W g.ns g.rd sp.1 U.rel (O rfl);let((Z,B),M,j,ah,_):=id B1;have q3:∃xs,dg K H1 v xs:=(_,dg.of j);simp![↓fi,↓kQ B,B,q3,T.dz,T.ie,Aa];show(_,j,by rw[aQ,ij];show mY (),?_)
     have eT:lH t g=((zZ (gq t) g.ns g.rd g.W).ns,(zZ (gq t) g.ns g.rd g.W).rd,t ::(zZ (gq t) g.ns g.rd g.W).W):=by
      unfold lH;rw[h8 J,h9 hb]
     have D1:=B1.dis;show k _ ?_ (dj s1 ⋯);rw[eT];show((Z,by rw[bc D1.pv];show B),by rw[bc rv];show M,by rw[aV];show congrArg (λz=>some (HO.lst z)) uI.symm,ah.wr j vn vh,rv,rn,rh,vn,vh,pq)
    |true=>
     have aA:(t=40\/kW t=true)\/iD t=true:=by
      rcases hv with⟨e,_⟩|⟨e,_⟩|⟨e,_⟩
      ·show .inl (.inl e)
      ·show .inr e
      ·show .inl (.inr e)
     rcases aA with hf|hl
     ·have hop:RQ t:=by
        rcases hf with e|e
        ·show .inl e
        ·show .inr (.inl e)
      rw[T5 hf,h8 ⋯,OK hop,h9 (oo)];show(_,N,by rw[aQ,ij];show mY (),?_)
      have aE:¬jC t=true:=by
       rcases hf with e|e
       ·rw[e];decide
       ·rw[yW e];simp
      have eT:lH t g=(g.ns,g.rd,t ::g.W):=by unfold lH;rw[h8 J,h8 aE,h9 hf]
      show k _ ?_ (dj cq ⋯);rw[eT];show((dx,by rw[bc D.pv];show hp),by rw[bc rv];show Y,by rw[aV];show congrArg (λz=>some (HO.lst z)) uI.symm,hF.wr N vn vh,rv,rn,rh,vn,vh,pq)
     ·let(l1,l2,l3):=UC t hl;rw[l1,h8 ⋯,l2,h8 ⋯,l3]
      have eT:lH t g=((nV g.ns t).1,(nV g.ns t).2 ::g.rd,g.W):=by
       have av:=hl;unfold iD at av;simp only[bw,bf,decide_eq_true_eq,beq_iff_eq] at av;unfold lH;rw[h8 J,h8 (by unfold jC;simp only[bw,beq_iff_eq];lia),h8 (by unfold kW;simp only[bw,beq_iff_eq];lia)]
      show(q,n,d,h,g.ns,t,rfl,hF,(),hl,λH3 F3 s3=>?_);have r3:H3 r=some (.lst (g.rd.reverse.map λz=>V.int (z:Nat))):=cb s3 (by simp[rn,rh,D.dr.symm]) Y;have v3:H3 v=some (.lst (g.W.reverse.map λc=>V.str (gG c))):=cb s3 (by simp[vn,vh,D.dv.symm]) N;have p3:H3 p=some (.ins a.cI dx (WQ q r v)):=cb s3 (by simp[D.pn,D.pd,D.ph]) hp;show(_,r3,by rw[aQ,ij];show mY (),?_);show k _ ?_ (dj (λb u e=>?_) ⋯)
      ·rw[eT];show((dx,by rw[bc D.pr];show p3),by rw[aV];show congrArg (λz=>some (HO.lst z)) uI.symm,by rw[bc rv.symm];show v3,F3.wr r3 rn rh,rv,rn,rh,vn,vh,pq)
      ·let(e1,e2):=dE.mp e;show cb s3 (λhm=>e1 (by simp only[bo,dD,or_false] at hm ⊢;rcases hm with h|h|h <;> simp[h])) e2
abbrev afU(g:aW):Sp:=λvs H Q _=>X7 λ(q l n d h:aW) (ns:List Nd) (ts:List Nat)=>vs=[.ref q,.ref l]/\oR g H q n d h ns/\Ok ns/\H l=some (.lst (ts.map λc=>V.str (gG c)))/\l≠n/\l≠h/\valid true 0 ts/\↑ns<=10000/\↑ts<=1100/\
 ∀H' ab,oR g H' q n d h (yR ns ts).ns->(yR ns ts).rd=[ab]->bK (er [n,d,h] H) H'->Q (.int (ab:Nat)) H'
def putAll_snoc(ts:List Nat)(t:Nat)(s:BS):putAll (ts++[t]) s=lH t (putAll ts s):=by unfold putAll;rw[mi];rfl
def PH(ts:List Nat)(t:Nat)(s:List wo×List Nat):gL (ts++[t]) s=take1 t (gL ts s):=by unfold gL;rw[mi];rfl
structure Mid(ns:List Nd)(ts:List Nat)(i:Nat)(u:Bool)(g:Nat):Prop where
 v:valid u g (ts.drop i)
 inv:Uy u g (putAll (ts.take i) (ns,[],[])) (gL (ts.take i) ([],[],))
 W:↑(putAll (ts.take i) (ns,[],[])).W<=i
 n:↑(putAll (ts.take i) (ns,[],[])).ns+3*↑(putAll (ts.take i) (ns,[],[])).W<=↑ns+3*i
def Mid.step(M:Mid ns ts i u N)(j:ts[i]? =some t):∃u' z,Mid ns ts (i+1) u' z:=by
 have hi:=(aX.mp j).1
 have hd:ts.drop i=t ::ts.drop (i+1):=by
  rw[dN hi];congr 1;show bQ ((aS hi).symm.trans j)
 have B:=M.v;rw[hd] at B;let(u',d',D,J,(a,b,g,h1,h2),O,Q):=RH M.inv B;show(u',d',D,?_,?_,?_)
 ·rw[take_snoc j,putAll_snoc,PH];show J
 ·rw[take_snoc j,putAll_snoc];have:=M.W;lia
 ·rw[take_snoc j,putAll_snoc];have:=M.n;have:=g.len;have:=M.W;lia
abbrev agG(C g:aW)(H:Hp)(q l p r v n d h:aW)(ns:List Nd)(ts:List Nat)(i:Nat)(σ:L2.St)(H':Hp):Prop:=∃(j:Option V) (u:Bool) (z:Nat),σ=[some (.ref q),some (.ref l),some (.ref p),j]/\Ob C g H' p r v q n d h (putAll (ts.take i) (ns,[],[]))/\Mid ns ts i u z/\bK (er [n,d,h] H) H'
def Mv(T:Tx P w K mg a):gu P w K mg base pS 7 a.As a.yO AR (afU a.cF):=by
 show T.Gz.ok D_ (λvs H Q E h=>?_) (λc3 A outer s H vs Q E hr h=>?_)
 ·nofun
 ·let(q,l,n,d,h,ns,ts,rfl,hF,gV,hl,aE,bk,hv,c4,c5,k):=h;have c6:=D_.nd
  show(_,(aU (c9 2 (x_ T.Iy (za T) (hr.mono (by decide)) rfl T.Ke T.zE .nil cN (aR (pv 0) br)))
   (aU (jO b8 rfl (jE (pv 1)) (b6 3) (bh (dP (dI (pv 2) T.dz T.DK (Cf T) (hr.mono (by decide)) T.DQ .nil cN (aR (pv 3) br)))))
   (aU (dP (dI (pv 2) T.dz T.kh (kb T) (hr.mono (by decide)) T.ko .nil cN (aR (fb (by rfl) T.zY) br)))
   (bh (cE (dQ cC (bN (pv 2) rfl) bU (λ_ _=>rfl))))))),?_)
  let((dy,hq),(tt,hn,bl),hd,hh,bt):=id hF;simp![↓fi];intro p dx J M dc;show(p,dx,q,rfl,aV,λH1 r v bx b0 b1 b2 s1 b3 b4=>(rfl,?_));have g:bK H H1:=dX (A:=[p]) (H:=upd (upd H dx (.own p)) p (.ins a.cI dx [])) (bp (bp (same_refl H) M) J) (by simp[J]) s1;have j:H r=none:=same_none (bp (bp (same_refl H) M) J) b3;have B:H v=none:=same_none (bp (bp (same_refl H) M) J) b4;have b5:oR a.cF H1 q n d h ns:=((dy,g _ _ hq),(tt,g _ _ hn,L2.Paired.jh bl λt m ht=>g _ _ ht),g _ _ hd,g _ _ hh,bt);have cc:Ob a.cI a.cF H1 p r v q n d h (ns,[],[]):=((dx,bx),b0,b1,b5,b2,(bb hn j).symm,(bb hh j).symm,(bb hn B).symm,(bb hh B).symm,(bb hq J).symm);have ar:Mid ns ts 0 true 0:=(hv,(rfl,sr.nil gV,rfl,rfl),aT _,by simp[putAll]);have cm:∀H',bK (er [n,d,h] H) H'->H' l=some (.lst (ts.map λc=>V.str (gG c))):=λH' s'=>cb s' (by simp[aE,bk,eV hl hd (by intro z;cases z)]) hl;have av:∀W:List Nat,DE W<=↑W:=λW=>by unfold DE;show eP _ _
  show((_,dg.of (g _ _ hl)),?_);show lr (xs:=ts.map λc=>V.str (gG c)) (agG a.cI a.cF H q l p r v n d h ns ts) (none,true,0,rfl,cc,ar,λb u e=>g b u (dE.mp e).2) (λi σ H' _ (_,_,_,_,_,_,s')=>dg.of (cm H' s')) ?_ ?_
  ·rintro i x σ H' hx ⟨v3,u,dd,rfl,hB,D,s'⟩;let(t,ht,rfl):=iT hx;have hi:=(aX.mp ht).1;let((ct,N),_):=id hB;simp![↓fi,↓kQ N,N,aeV]
   have cy:ts.drop i=t ::ts.drop (i+1):=by
    rw[dN hi];congr 1;show bQ ((aS hi).symm.trans ht)
   have O:=D.v;rw[cy] at O;have hW:=D.W;have hN:=D.n;have U:=D.inv.cnt;have cA:=av (putAll (ts.take i) (ns,[],[])).W;show(p,r,v,q,n,d,h,_,u,dd,t,ts.drop (i+1),_,rfl,hB,D.inv,O,(),?_,(),λH2 B2 s2=>?_)
   ·split at U <;> lia
   ·let(u',cL,M'):=D.step ht;show(_,u',cL,rfl,by rw[take_snoc ht,putAll_snoc];show B2,M',λb o e=>?_);let(Y,Z):=dE.mp e;show cb s2 (λhm=>?_) (s' b o e);simp only[bo,dD,or_false] at hm Y;rcases hm with rfl|rfl|h1|h1|h1
    ·rw[j] at Z;cases Z
    ·rw[B] at Z;cases Z
    ·show Y (.inl h1)
    ·show Y (.inr (.inl h1))
    ·show Y (.inr (.inr h1))
  ·rintro σ H' ⟨v3,u,dd,rfl,hB,D,s'⟩;rw[aQ] at hB D;have O:=D.v;rw[BO] at O;obtain⟨rfl,rfl⟩:u=false/\dd=0:=by cases u <;> show O
   let((ct,N),_):=id hB;have hW:=D.W;have hN:=D.n;have U:=D.inv.cnt;simp only[cQ,if_false] at U;have cA:=av (putAll (ts.take ↑ts) (ns,[],[])).W;simp![↓fi,↓kQ N,N,Y9];show(p,r,v,q,n,d,h,_,1,_,rfl,hB,D.inv.rel,U,aT _,(),(),λH2 B2 s2=>?_);let(ab,a1,a2,a3,a4,a5,a6):=TH gV hv;rw[dC] at B2;have c0:Ob a.cI a.cF H2 p r v q n d h (yR ns ts):=B2;let((dh,aA),ah,c2,c1,_):=id c0;rw[a1] at ah;simp![↓fi,↓kQ aA,aA,T.dz,T.gZ,Bv];show(_,dg.of ah,_,rfl,?_);show k H2 ab c1 a1 (λb o e=>?_);let(Y,Z):=dE.mp e;show cb s2 (λhm=>?_) (s' b o e);simp only[bo,dD,or_false] at hm Y;rcases hm with rfl|rfl|h1|h1|h1
   ·rw[j] at Z;cases Z
   ·rw[B] at Z;cases Z
   ·show Y (.inl h1)
   ·show Y (.inr (.inl h1))
   ·show Y (.inr (.inr h1))
def D5:∀(n:Nat) (l:List Nat),l.Nodup->(∀x∈l,x < n)->↑l<=n
 |0,l,_,h=>by
  cases l with
  |nil=>simp
  |cons a r=>show absurd (h a bg) ()
 |n+1,l,j,h=>by
  have h1:(l.erase n).Nodup:=j.erase n
  have h2:=D5 n (l.erase n) h1 (λx hx=>by
   have g:=(j.mem_erase_iff).mp hx;have:=h x g.2;have:=g.1;lia)
  have z:↑l<=↑(l.erase n)+1:=by rw[List.length_erase];split <;> lia
  lia
abbrev ac5:Sp:=λvs H Q _=>∃b:Nat,vs=[.int (b:Nat)]/\b < 2^64/\∀H' l xs,bK H H'->H l=none->H' l=some (.lst (xs.map λz=>V.int (z:Nat)))->Co b xs->Q (.ref l) H'
abbrev aci(H:Hp)(l:aW)(b m:Nat)(σ:L2.St)(H':Hp):Prop:=∃(c:Nat) (xs:List Nat) (v2:Option V),σ=[some (.int (c:Nat)),some (.ref l),v2]/\bK H H'/\H' l=some (.lst (xs.map λz=>V.int (z:Nat)))/\(∀x,b.testBit x=true↔x∈xs\/c.testBit x=true)/\(∀x∈xs,c.testBit x=false)/\xs.Nodup/\m=c
def wx(T:Tx P w K mg a):gu P w K mg base pS 1 a.CD a.AL Cv ac5:=by
 show T.uP.ok Gx (λvs H Q E h=>?_) (λar A outer s H vs Q E hr h=>?_)
 ·nofun
 ·let(b,rfl,Z,k):=h;have av:=Gx.nd
  show(_,(aU (c9 1 (gS br))
   (aU (ve b8 (cx BH (pv 0) bU (dk _)) (aU (c9 2 (cY Ao (aa0 (cY nQ (pv 0) (Jk He (pv 0)))) bU))
   (aU (dP (lu bu bH bG d7 (pv 1) (aR (pv 2) br)))
   (bh (c9 0 (cY E4 (pv 0) (cY l7 bU (pv 2))))))))
   (bh (cE (pv 1))))),?_)
  simp![↓fi];show(d6 _,λl M=>?_);show(aci H l b,(b,b,[],none,rfl,bp (same_refl H) M,aV,λx=>by simp,(λx hx=>nomatch hx),nz,rfl),?_);rintro c σ H' ⟨c',xs,v2,rfl,s',z,j,J,B,N⟩;subst N
  have O:∀x∈xs,x < 64:=λx hx=>by
   apply bR;intro h;have:=(j x).mpr (.inl hx);rw[c7 (bF Z (b_ (by decide) ()))] at this;cases this
  have hq:∃ys,dg K H' l ys:=(_,dg.of z);simp![↓fi,hq];show kg (λU=>?_) (λhe=>?_)
  ·have D:0 < c:=by
     rcases zq c with h|h
     ·subst h;simp at U
     ·show h
   let(p,g,Y):=abz c D
   have ah:p < 64:=by
    apply bR;intro h;have:=(j p).mpr (.inr g);rw[c7 (bF Z (b_ (by decide) ()))] at this;cases this
   rw[Y,YR];have ep:((p+1:Nat):Int) - 1=(p:Int):=by lia
   rw[ep];show(λσ' H'=>∃m',m' < c/\aci H l b m' σ' H',λ_ _ h=>h,_,z,?_,?_,?_)
   ·rw[aQ];show fU (D5 64 xs B O) (by decide)
   ·show((),?_);rw[show cD 1=1 from rfl];lia
   ·have e1:(1:Int)*2^(p:Int).toNat=((2^p:Nat):Int):=by rw[bP,uB];simp
    rw[e1,nL];let(x1,x2):=ZZ g;show(c^^^2^p,x1,c^^^2^p,xs++[p],_,rfl,bp s' M,?_,λx=>?_,λx hx=>?_,?_,rfl)
    ·rw[aV,bD];rfl
    ·rw[j x,x2 x,cj,bz]
     by_cases e:p=x
     ·subst e;simp[g]
     ·have e':¬x=p:=λh=>e h.symm;simp[e,e']
    ·rw[x2 x];rcases cj.mp hx with h|h
     ·rw[J x h];rfl
     ·rw[bz] at h;subst h;simp
    ·rw[me];show(B,⋯,λx hx y hy e=>?_);rw[bz] at hy;subst hy;subst e;rw[J x hx] at g;cases g
  ·have D:c=0:=by
     rcases zq c with h|h
     ·show h
     ·show absurd (by simp;lia) he
   subst D;show k H' l xs s' M z (λx=>?_,B);rw[j x,f9];simp
abbrev Ny(H:Hp)(d:aW)(ls:List Nat)(f:Nat->Nat):Prop:=∃kvs,H d=some (.dK kvs)/\↑kvs<=100000/\∀l∈ls,l8 kvs (c_ (l:Int))=some (.int (f l:Nat))
def Ny.mono(s:bK H H')(h:Ny H d ls f):Ny H' d ls f:=let(kvs,h1,h2):=h;(kvs,s _ _ h1,h2)
abbrev ae5(K:bj):Sp:=λvs H Q _=>X4 λ(l m:aW) (ls ms:List Nat)=>vs=[.ref l,.ref m]/\H l=some (.lst (ls.map λz=>V.int (z:Nat)))/\dg K H m (ms.map λz=>V.int (z:Nat))/\↑ls<=10000/\(∀z∈ls,z < 16)/\↑ms<=5000/\
 ∀H' d,bK H H'->H d=none->Ny H' d ls (xI ms)->Q (.ref d) H'
abbrev afs(H:Hp)(l m d:aW)(ls ms:List Nat)(i:Nat)(σ:L2.St)(H':Hp):Prop:=X5 λ(g j B D:Option V) (kvs:List (Key×V))=>σ=[some (.ref l),some (.ref m),some (.ref d),g,j,B,D]/\bK H H'/\H' d=some (.dK kvs)/\↑kvs<=i/\∀z∈ls.take i,l8 kvs (c_ (z:Int))=some (.int (xI ms z:Nat))
abbrev adB(H0:Hp)(l m d:aW)(z:Nat)(ms:List Nat)(i:Nat)(σ:L2.St)(H':Hp):Prop:=∃(g j:Option V),σ=[some (.ref l),some (.ref m),some (.ref d),some (.int (z:Nat)),some (.int (bitsOf (λc=>(ms.getD c 0).testBit z) i:Nat)),g,j]/\bK H0 H'
def nI(x z:Nat):dZ (((x:Nat):Int) / 2^((z:Nat):Int).toNat) 1=(((x.testBit z).toNat:Nat):Int):=by
 rw[bP];have e:((x:Nat):Int) / 2^z=((x / 2^z:Nat):Int):=by simp
 rw[e,show(1:Int)=((1:Nat):Int) from rfl,ly];congr 1;rw[Nat.and_one_is_mod,←Nat.toNat_testBit]
def Ck(x i:Nat):((x:Nat):Int)*2^((i:Nat):Int).toNat=((x*2^i:Nat):Int):=by
 rw[bP];simp
def Em(T:Tx P w K mg a):gu P w K mg base pS 1 a.Av a.yX AH (ae5 K):=by
 show T.AY.ok D6 (λvs H Q E h=>?_) (λar A outer s H vs Q E hr h=>?_)
 ·nofun
 ·let(l,m,ls,ms,rfl,O,hm,av,hz,aA,k):=h;have hu:=MY hr;have aE:=D6.nd
  show(_,(aU (c9 2 R4)
   (aU (jO b8 rfl (jE (pv 0)) (b6 3) (aU (c9 4 bU)
   (aU (jO b8 rfl (Fs (by rfl) T.uw (aR (pv 1) br)) (jw (n:=2) rfl (ck (b6 5) (ck (b6 6) g8))) (bh (CP 4 (cY l7 (cY nQ (cY AG (pv 6) (pv 3)) bU) (pv 5)) OU)))
   (bh (L6 hu (pv 2) (pv 3) (pv 4) rfl)))))
   (bh (cE (pv 2))))),?_)
  simp![↓fi];intro d hd;have U:l≠d:=bb O hd;show((_,dg.of (by rw[bc U];show O)),?_);show lr (xs:=ls.map λz=>V.int (z:Nat)) (afs H l m d ls ms) (none,none,none,none,[],rfl,bp (same_refl H) hd,aV,aT _,λz hz=>by simp at hz) (λi σ H' _ (_,_,_,_,_,_,s',_)=>dg.of (s' _ _ O)) ?_ ?_
  ·rintro i x σ H' hx ⟨v3,v4,Y,Z,kvs,rfl,s',B,D,g⟩;let(z,M,rfl):=iT hx;have hi:=(aX.mp M).1;simp![↓fi];show((_,s'.seq hm),?_);show Ir (xs:=ms.map λz=>V.int (z:Nat)) (adB H' l m d z ms) (_,_,rfl,same_refl H') (λi σ H2 _ (_,_,_,J)=>J.seq (s'.seq hm)) ?_ ?_
   ·rintro j x σ H2 t ah ⟨Y,Z,rfl,J⟩ ht;let(y,N,rfl):=iT ah;simp![↓fi];show(_,qH.of aV,rfl,?_);simp![↓fi];have hj:=(aX.mp N).1;have e:=Lb (λc=>(ms.getD c 0).testBit z) j;simp only[eh N] at e;rw[nI,Ck,iC,e];show((),((),?_),_,_,rfl,bp J (same_none J ht))
    ·have:cD ((y.testBit z).toNat:Nat)<=1:=bits_le (by cases y.testBit z <;> decide);lia
   ·rintro σ H2 ⟨Y,Z,rfl,J⟩;simp![↓fi];show(_,LO.k (k:=c_ (z:Int)) (J _ _ B) (fU D (df ())),?_);rw[aQ];show(_,_,_,_,_,rfl,bp (bK.trans s' J) hd,aV,cJ (E2 _ _ _) (),λy N=>?_);rw[MC]
    by_cases e:y=z
    ·subst e;rw[h9 rfl];rfl
    ·rw[h8 (λh=>e (by have:=wZ h;lia))];rw[take_snoc M] at N;rcases cj.mp N with h|h
     ·show g y h
     ·rw[bz] at h;show absurd h e
  ·rintro σ H' ⟨v3,v4,Y,Z,kvs,rfl,s',B,D,g⟩;simp![↓fi];rw[aQ,dC] at g;rw[aQ] at D;show k H' d s' hd (kvs,B,(),g)
set_option hygiene false in
local macro_rules|`(tactic|dsimp! [$ls,*])=>`(tactic|(refine jM λu' hu'=>?_;simp![$ls,*]))

set_option hygiene false in
local macro_rules|`(tactic|simp_all! [$ls,*])=>`(tactic|(subst hu';refine jM λu' hu'=>?_;simp![$ls,*]))
meta abbrev nats(l:List Nat):List V:=l.map λz=>V.int (z:Nat)
structure aiF(a:Ad)(H:Hp)(p C dx:aW)(fs:List (bV×V))(n lt t:aW)(ns:List Nd)(full:Nat)(Tb:List Nat)(LT:Nat->Nat):Prop where
 obj:H p=some (.ins C dx fs)
 cls:C=a.fO\/C=a.bA
 l1:fs.lookup ("nodes" :bV)=some (.ref n)
 l2:fs.lookup ("letter_tables" :bV)=some (.ref lt)
 l3:fs.lookup ("full" :bV)=some (.int (full:Nat))
 l4:fs.lookup ("tables" :bV)=some (.ref t)
 nodes:∃ts:List aW,H n=some (.lst (ts.map V.ref))/\Paired (E7 H) ts ns
 lets:Ny H lt (ka ns) LT
 tabs:H t=some (.lst (nats Tb))
 len:↑Tb=↑ns
 tn:t≠n
def adn(h:xs[i]? =some z):P8 (nats xs) ((i:Nat):Int)=some (.int (z:Nat)):=Jc (by rw[dA,h];rfl)
def hZ(h:i < ↑xs):P8 (nats xs) ((i:Nat):Int)=some (.int (xs.getD i 0:Nat)):=adn (by rw[aS h,eh (aS h)])
def xm{xs:List aW}(h:xs[i]? =some z):P8 (xs.map V.ref) ((i:Nat):Int)=some (.ref z):=Jc (by rw[dA,h];rfl)
def jK:∀{as:List α} {bs:List β},Paired R as bs->∀{i:Nat} {y:β},bs[i]? =some y->∃x,as[i]? =some x/\R x y
 |_,_,.nil,i,x,h=>by simp at h
 |_,_,.cons r t,0,x,h=>by cases h;show(_,rfl,r)
 |_,_,.cons r t,i+1,x,h=>jK t (i:=i) (by simpa using h)
def Hn(h:i < n):WM n ((i:Nat):Int)=some i:=by
 unfold WM;rw[h9 (),h9 ()];simp
def SV{q:Nat}(h:ns[q]? =some nd)(g:nd.k= .fS):nd.l∈ka ns:=by
 unfold ka;rw[fc];show(nd,c8.mpr (bJ h,by simp[g]),rfl)
def jM(h:∀u',u'=u->t {D with nx:=u' D} σ H):adx t u D σ H:=h u rfl
def HD(k:Kd):(wa k=eE "&")=(k= .and):=propext (λh=>oy (b:= .and) h,λh=>by rw[h];rfl)
def ND(k:Kd):(wa k=eE "|")=(k= .or):=propext (λh=>oy (b:= .or) h,λh=>by rw[h];rfl)
def HK(k:Kd):(wa k=eE "!")=(k= .not):=propext (λh=>oy (b:= .not) h,λh=>by rw[h];rfl)
def HF(k:Kd):(wa k=eE "0")=(k= .never):=propext (λh=>oy (b:= .never) h,λh=>by rw[h];rfl)
def Hl(k:Kd):(wa k=eE "1")=(k= .always):=propext (λh=>oy (b:= .always) h,λh=>by rw[h];rfl)
def Fl(k:Kd):(wa k=eE "X")=(k= .next):=propext (λh=>oy (b:= .next) h,λh=>by rw[h];rfl)
def T4(k:Kd):(wa k=eE "U")=(k= .De):=propext (λh=>oy (b:= .De) h,λh=>by rw[h];rfl)
def ae1(k:Kd):(wa k=eE "W")=(k= .unless):=propext (λh=>oy (b:= .unless) h,λh=>by rw[h];rfl)
def UI(T:Tx P w K mg a)(h:C=a.fO\/C=a.bA):JV K C/\dR K C "nodes"/\dR K C "letter_tables"/\dR K C "full"/\dR K C "tables"/\dR K C "timed" :=by
 rcases h with rfl|rfl
 ·show(T.wy,T.F5,T.x5,T.Hx,T.wG,T.xC)
 ·show(T.bI,T.i8,T.wj,T.jo,T.fE,T.uH)
abbrev adt(a:Ad):Sp:=λvs H Q _=>X13 λ(p C dx:aW) (fs:List (bV×V)) (n lt t:aW) (ns:List Nd) (full:Nat) (Tb:List Nat) (LT:Nat->Nat) (q:Nat) (nd:Nd)=>vs=[.ref p,.int (q:Nat)]/\aiF a H p C dx fs n lt t ns full Tb LT/\Ok ns/\ns[q]? =some nd/\nd.k.eX=false/\
 Q .vI (upd H t (.lst (nats (Tb.set q (plainT nd.k full (LT nd.l) (Tb.getD nd.l 0) (Tb.getD nd.r 0))))))
def EY:(nats xs).set i (.int (z:Nat))=nats (xs.set i z):=by
 unfold nats;rw[Ri]
def mG(T:Tx P w K mg a):gu P w K mg base pS 1 a.iK a.mH mS (adt a):=by
 show T.Bn.ok sm (λvs H Q E h=>?_) (λbt A outer s H vs Q E hr h=>?_)
 ·nofun
 ·let(p,C,dx,fs,n,lt,t,ns,full,Tb,LT,q,nd,rfl,hC,gV,hq,Z,k):=h;have hu:=MY hr;have bx:=sm.nd
  show(_,(aU (jN (dQ cC (bN (pv 0) rfl) (pv 1) (λ_ _=>rfl)) (jw (n:=3) rfl (ck (b6 2) (ck (b6 3) (ck (b6 4) g8)))))
   (aU (eG (cx iU (pv 2) (iq (by rfl) T.ack) (dk _)) (bh (c9 5 (cY nQ (dQ cC (bN (pv 0) rfl) (pv 3) (λ_ _=>rfl)) (dQ cC (bN (pv 0) rfl) (pv 4) (λ_ _=>rfl))))) (bh (eG (cx iU (pv 2) (iq (by rfl) T.agl) (dk _)) (bh (c9 5 (cY Bu (dQ cC (bN (pv 0) rfl) (pv 3) (λ_ _=>rfl)) (dQ cC (bN (pv 0) rfl) (pv 4) (λ_ _=>rfl))))) (bh (eG (cx iU (pv 2) (iq (by rfl) T.agm) (dk _)) (bh (c9 5 (cY E4 (bN (pv 0) rfl) (dQ cC (bN (pv 0) rfl) (pv 3) (λ_ _=>rfl))))) (bh (eG (cx iU (pv 2) (iq (by rfl) T.M3) (dk _)) (bh (c9 5 (L0 hu (bN (pv 0) rfl) (pv 3) (λ_ _=>rfl)))) (bh (eG (cx iU (pv 2) (iq (by rfl) T.ab3) (dk _)) (bh (c9 5 bU)) (bh (eG (cx iU (pv 2) (iq (by rfl) T.X3) (dk _)) (bh (c9 5 (bN (pv 0) rfl))) (bh (c9 5 (cY E4 (cY E4 (bN (pv 0) rfl) (dQ cC (bN (pv 0) rfl) (pv 3) (λ_ _=>rfl))) (dQ cC (bN (pv 0) rfl) (pv 4) (λ_ _=>rfl))))))))))))))))
   (bh (jN (pv 5) (D3 (bN (pv 0) rfl) (pv 1) set_list))))),?_)
  let(g,ah,l1,l2,l3,l4,(ts,hn,av),(kvs,aA,_,aE),ht,hlen,b0):=id hC;let(j,B,D,J,M,c6):=UI T ah;let(b,hb,bk):=jK av hq;have bl:q < ↑ns:=(aX.mp hq).1;have N:=gV.inner q nd hq;dsimp! [↓bS g j B l1];show(_,dg.of hn,_,xm hb,_,rfl,_,qH.of bk,rfl,?_);simp![];subst hu'
  have fin:∀z:Nat,z=plainT nd.k full (LT nd.l) (Tb.getD nd.l 0) (Tb.getD nd.r 0)->∃x,H t=some (.lst x)/\∃ar,WM ↑x (q:Int)=some ar/\Q .vI (upd H t (.lst (x.set ar (.int (z:Nat))))):=λz e=>by
   show(_,ht,q,Hn (by rw[aQ,hlen];show bl),?_);rw[EY,e];show k
  let(kd,l,r):=nd;have gl:l < ↑ns->∃x,dg K H t x/\P8 x (l:Int)=some (.int (Tb.getD l 0:Nat)):=λh=>(_,dg.of ht,hZ ());have two:l < q/\r < q->∃x,dg K H t x/\P8 x (l:Int)=some (.int (Tb.getD l 0:Nat))/\P8 x (r:Int)=some (.int (Tb.getD r 0:Nat)):=λh=>(_,dg.of ht,hZ (),hZ ())
  cases kd <;> simp only[Kd.leaf,Kd.eX,forall_const,cQ,lC,false_implies] at N Z <;> try (cases Z;done)
  ·simp![-L2.KG,↓Ly,↓bS g j B l1,↓bS g j D l2,↓bS g j J l3,↓bS g j M l4,HD,ND,HK,GY,HF,Hl];have hg:=Eg.k (k:=c_ (l:Int)) aA;rw[aE l (SV hq rfl)] at hg;show(_,hg,fin _ rfl)
  ·simp![-L2.KG,↓Ly,↓bS g j B l1,↓bS g j D l2,↓bS g j J l3,↓bS g j M l4,HD,ND,HK,GY,HF,Hl];show fin 0 rfl
  ·simp![-L2.KG,↓Ly,↓bS g j B l1,↓bS g j D l2,↓bS g j J l3,↓bS g j M l4,HD,ND,HK,GY,HF,Hl];show fin full rfl
  ·simp![-L2.KG,↓Ly,↓bS g j B l1,↓bS g j D l2,↓bS g j J l3,↓bS g j M l4,HD,ND,HK,GY,HF,Hl];let(x,O,U,Y):=two N;show(_,O,_,U,?_);simp![-L2.KG,↓Ly,↓bS g j B l1,↓bS g j D l2,↓bS g j J l3,↓bS g j M l4];rw[nL];show fin _ rfl
  ·simp![-L2.KG,↓Ly,↓bS g j B l1,↓bS g j D l2,↓bS g j J l3,↓bS g j M l4,HD,ND,HK,GY,HF,Hl];let(x,O,U,Y):=two N;show(_,O,_,U,_,O,_,Y,?_);simp![-L2.KG,↓Ly,↓bS g j B l1,↓bS g j D l2,↓bS g j J l3,↓bS g j M l4];rw[ly];show fin _ rfl
  ·simp![-L2.KG,↓Ly,↓bS g j B l1,↓bS g j D l2,↓bS g j J l3,↓bS g j M l4,HD,ND,HK,GY,HF,Hl];let(x,O,U,Y):=two N;show(_,O,_,U,_,O,_,Y,?_);simp![-L2.KG,↓Ly,↓bS g j B l1,↓bS g j D l2,↓bS g j J l3,↓bS g j M l4];rw[iC];show fin _ rfl
  ·simp![-L2.KG,↓Ly,↓bS g j B l1,↓bS g j D l2,↓bS g j J l3,↓bS g j M l4,HD,ND,HK,GY,HF,Hl];let(x,O,U,Y):=two N;show(_,O,_,U,?_);simp![-L2.KG,↓Ly,↓bS g j B l1,↓bS g j D l2,↓bS g j J l3,↓bS g j M l4];show(_,O,_,Y,?_);simp![-L2.KG,↓Ly,↓bS g j B l1,↓bS g j D l2,↓bS g j J l3,↓bS g j M l4];rw[nL,nL];show fin _ rfl
abbrev J5(n lt:aW)(full:Nat)(t tm:aW):List (bV×V):=[("nodes",.ref n,),("letter_tables",.ref lt,),("full",.int (full:Nat),),("tables",.ref t,),("timed",.ref tm,)]
abbrev iW(ns:List Nd):List Nat:=(du ↑ns).filter λp=>f_ ns p
abbrev Plain(ns:List Nd)(full:Nat)(LT X:Nat->Nat):Prop:=∀(p:Nat) (nd:Nd),ns[p]? =some nd->nd.k.eX=false->X p=plainT nd.k full (LT nd.l) (X nd.l) (X nd.r)
def M1(h:k.leaf=true){full lt a b g j:Nat}:plainT k full lt a b=plainT k full lt g j:=by
 cases k <;> first|rfl|(cases h;done)
def TM(ok:Ok ns){LT X:Nat->Nat}(j:Plain ns full LT X){Tb:List Nat}(hi:ns[i]? =some nd)(g:f_ ns i=false)(hT:∀p,p < i->f_ ns p=false->Tb.getD p 0=X p):
  nd.k.eX=false/\plainT nd.k full (LT nd.l) (Tb.getD nd.l 0) (Tb.getD nd.r 0)=X i:=by
 rw[Nm ok hi,gn] at g;show(g.1,?_);rw[j i nd hi g.1]
 cases e:nd.k.leaf with
 |true=>show M1 e
 |false=>
  have:=g.2;rw[e] at this;simp only[zm,fH,gn] at this;let(h1,h2):=ok.inner i nd hi e;rw[hT _ h1 this.1,hT _ h2 this.2]
abbrev ZC(a:Ad):Sp:=λvs H Q _=>X12 λ(p C dx q lt n d h:aW) (ns:List Nd) (full:Nat) (LT X:Nat->Nat)=>vs=[.ref p,.ref q,.ref lt,.int (full:Nat)]/\H p=some (.ins C dx [])/\(C=a.fO\/C=a.bA)/\oR a.cF H q n d h ns/\Ok ns/\↑ns<=100000/\Ny H lt (ka ns) LT/\Plain ns full LT X/\
 ∀H' t tm Tb,H' p=some (.ins C dx (J5 n lt full t tm))->H' t=some (.lst (nats Tb))->↑Tb=↑ns->(∀p,p < ↑ns->f_ ns p=false->Tb.getD p 0=X p)->H' tm=some (.lst (nats (iW ns)))->t≠tm->bK (er [p] H) H'->H t=none->H tm=none->Q .vI H'
abbrev ahn(H:Hp)(D:aW)(ns:List Nd)(i:Nat)(H':Hp):Prop:=bK H H'/\H' D=some (.lst (nats ((du i).filter λp=>f_ ns p)))
def pH(f:Nat->Bool)(i:Nat):(du (i+1)).filter f=(du i).filter f++if f i=true then [i] else []:=by
 rw[LU,hJ];congr 1;rw[cP]
 cases f i <;> simp
def Di(f:Nat->Bool)(i:Nat):↑((du i).filter f)<=i:=cJ (eP _ _) (by rw[List.length_range];show aT _)
abbrev afX(H0:Hp)(p C dx q lt n t tm:aW)(full:Nat)(ns:List Nd)(X:Nat->Nat)(i:Nat)(σ:L2.St)(H':Hp):Prop:=∃(g j:Option V) (Tb:List Nat),σ=[some (.ref p),some (.ref q),some (.ref lt),some (.int (full:Nat)),g,j]/\bK (er [t] H0) H'/\H' t=some (.lst (nats Tb))/\↑Tb=↑ns/\∀p,p < i->f_ ns p=false->Tb.getD p 0=X p
def vc(T:Tx P w K mg a):gu P w K mg base pS 2 a.lD a.oh pD (ZC a):=by
 show T.DM.ok nO (λvs H Q E h=>?_) (λef A outer s H vs Q E hr h=>?_)
 ·nofun
 ·let(p,C,dx,q,lt,n,d,h,ns,full,LT,X,rfl,J,D,hF,gV,dV,hL,hX,k):=h;have c1:=(UI T D).1
  have mC:Meth K C "fill_plain" a.iK:=by
   rcases D with rfl|rfl
   ·show T.ue
   ·show T.qd
  have eg:=nO.nd
  show(_,(aU (fF (pv 0) (bN (pv 1) rfl) rfl)
   (aU (fF (pv 0) (pv 2) rfl)
   (aU (fF (pv 0) (pv 3) rfl)
   (aU (fF (pv 0) (cY P9 (gS (aR bU br)) (ig ee (by rfl) T.r_ dO (aR (bN (pv 1) rfl) br))) rfl)
   (aU (fF (pv 0) (OT (own:=[("place",4,),("ahead",5,)]) rfl nO.nd (Fs (by rfl) T.uw (aR (bN (pv 1) rfl) br)) (sg (by rfl)) (λ_ _ _ _ _=>(Vb (K:=K) (n:=2) rfl rfl (ck (b6 4) (ck (b6 5) g8)))) (λ_ _ _ _ _=>(L4 (qa (pv 5)))) (λ_ _ _ _ _=>(pv 4))) rfl)
   (bh (jO b8 rfl (Fs (by rfl) T.uw (aR (bN (pv 1) rfl) br)) (jw (n:=2) rfl (ck (b6 4) (ck (b6 5) g8))) (bh (eG (xi (qa (pv 5))) (bh (dP (dI (pv 0) c1 mC (mG T) (hr.mono (by decide)) T.mW .nil cN (aR (pv 4) br)))) dG))))))))),?_)
  let((dq,hq),(ts,hn,c0),hd,hh,ei):=id hF;let(c1,c2,c3,c4,c5,c6):=UI T D
  have B:q≠p:=λe=>by
   rw[e,J] at hq;have e1:=HO.ins.inj (bQ hq);have:=e1.2.2
   cases this
  have dc:↑ts=↑ns:=bT c0;have fq:∀H',H' q=H q->∀Q:VK,nh K ("nodes" :bV) (.ref q) H' Q=Q (.ref n) H':=λH' e Q=>bS (by rw[e];show hq) T.cR T.ip vU Q;have fa:∀H',H' q=H q->∀Q:VK,nh K ("ahead" :bV) (.ref q) H' Q=Q (.ref h) H':=λH' e Q=>bS (by rw[e];show hq) T.cR T.jU By Q;dsimp! [↓fq H rfl,J,c1,c2];show(by decide,?_)
  simp_all! [gv,nU,B,J,c1,c3]
  show(by change 1 < 1000;decide,?_)
  simp_all! [gv,nU,B,J,c1,c4]
  show(by change 2 < 1000;decide,?_)
  simp_all! []
  show(by decide,λz hz=>?_);obtain⟨dd,aE⟩:z≠p/\H z=none:=by rw[gv] at hz;show NH hz
  have b3:q≠z:=bb hq aE;have d0:n≠z:=bb hn aE;have dh:n≠p:=eV hn J (by intro z;cases z);have b4:h≠p:=eV hh J (by intro z;cases z);have d1:h≠z:=bb hh aE;rw[fq _ (by rw[bc b3,bc B])];simp![];show(_,.inl (dg.of (by rw[bc d0,bc dh];show hn)),?_);rw[aQ,dc];show(_,aV,(),(),?_,λt ht=>?_)
  ·rw[bP];simp only[a_,cW];show iI (by have:=df dV;lia)
  obtain⟨ej,g⟩:t≠z/\_:=by rw[gv] at ht;show NH ht
  obtain⟨M,g⟩:t≠p/\H t=none:=by rw[gv] at g;show NH g
  have eR:(bq ((↑ns:Nat):Int).toNat [V.int 0]).flatten=nats (bq ↑ns 0):=by
   rw[bP];unfold nats;generalize ↑ns=m
   induction m with
   |zero=>rfl
   |succ m ih=>rw[fI,j6,ih,fI];rfl
  rw[eR];simp![gv,nU,B,J,c1,c5,M,M.symm,dd,dd.symm];show(by change 3 < 1000;decide,?_)
  simp_all! []
  rw[fa _ (by rw[bc B,bc (bb hq g),bc b3,bc B])]
  have bk:(upd (upd (upd (upd H p (.ins C dx (bC "full" (.int (full:Nat)) (bC "letter_tables" (.ref lt) (bC "nodes" (.ref n) []))))) z (.lst [.int 0])) t (.lst (nats (bq ↑ns 0)))) p (.ins C dx (bC "tables" (.ref t) (bC "full" (.int (full:Nat)) (bC "letter_tables" (.ref lt) (bC "nodes" (.ref n) [])))))) h=some (.lst ((mF ns).map V.bl)):=by
   rw[bc b4,bc (bb hh g),bc d1,bc b4];show hh
  have b5:(upd (upd (upd (upd H p (.ins C dx (bC "full" (.int (full:Nat)) (bC "letter_tables" (.ref lt) (bC "nodes" (.ref n) []))))) z (.lst [.int 0])) t (.lst (nats (bq ↑ns 0)))) p (.ins C dx (bC "tables" (.ref t) (bC "full" (.int (full:Nat)) (bC "letter_tables" (.ref lt) (bC "nodes" (.ref n) [])))))) t=some (.lst (nats (bq ↑ns 0))):=by
   rw[bc M,aV]
  have cc:(upd (upd (upd (upd H p (.ins C dx (bC "full" (.int (full:Nat)) (bC "letter_tables" (.ref lt) (bC "nodes" (.ref n) []))))) z (.lst [.int 0])) t (.lst (nats (bq ↑ns 0)))) p (.ins C dx (bC "tables" (.ref t) (bC "full" (.int (full:Nat)) (bC "letter_tables" (.ref lt) (bC "nodes" (.ref n) [])))))) p=some (.ins C dx (bC "tables" (.ref t) (bC "full" (.int (full:Nat)) (bC "letter_tables" (.ref lt) (bC "nodes" (.ref n) []))))):=aV;have dn:(upd (upd (upd (upd H p (.ins C dx (bC "full" (.int (full:Nat)) (bC "letter_tables" (.ref lt) (bC "nodes" (.ref n) []))))) z (.lst [.int 0])) t (.lst (nats (bq ↑ns 0)))) p (.ins C dx (bC "tables" (.ref t) (bC "full" (.int (full:Nat)) (bC "letter_tables" (.ref lt) (bC "nodes" (.ref n) [])))))) q=H q:=by rw[bc B,bc (bb hq g),bc b3,bc B]
  have cm:bK (er [p] H) (upd (upd (upd (upd H p (.ins C dx (bC "full" (.int (full:Nat)) (bC "letter_tables" (.ref lt) (bC "nodes" (.ref n) []))))) z (.lst [.int 0])) t (.lst (nats (bq ↑ns 0)))) p (.ins C dx (bC "tables" (.ref t) (bC "full" (.int (full:Nat)) (bC "letter_tables" (.ref lt) (bC "nodes" (.ref n) [])))))):=
   dj (bp (bp (dj cq ⋯) (qL aE)) (qL g)) ⋯
  generalize (upd (upd (upd (upd H p (.ins C dx (bC "full" (.int (full:Nat)) (bC "letter_tables" (.ref lt) (bC "nodes" (.ref n) []))))) z (.lst [.int 0])) t (.lst (nats (bq ↑ns 0)))) p (.ins C dx (bC "tables" (.ref t) (bC "full" (.int (full:Nat)) (bC "letter_tables" (.ref lt) (bC "nodes" (.ref n) []))))))=H1 at bk b5 cc dn cm ⊢;simp![];show((_,dg.of bk),?_);intro tm U;have Y:↑(mF ns)=↑ns:=by unfold mF;rw[l_]
  show Va (xs:=(mF ns).map V.bl) (ahn H1 tm ns) (bp (same_refl H1) U,by rw[aV];rfl) (λi H' _ h=>dg.of (h.1 _ _ bk)) ?_ ?_
  ·rintro i x H' tt hx ⟨s1,ct⟩ j;let(b,Z,rfl):=iT hx;have hi:=(aX.mp Z).1;have ah:f_ ns i=b:=by unfold f_;rw[eh Z]
   have N:tm≠tt:=bb ct j;simp![];show(_,qH.of aV,rfl,?_);simp![]
   cases b with
   |true=>
    simp![];show(_,by rw[bc N];show ct,?_,bp (bp s1 (same_none s1 j)) U,?_)
    ·rw[aQ];show fU (Di _ _) (df ())
    ·rw[aV,pH,h9 ah];unfold nats;rw[bD];rfl
   |false=>
    simp![];show(bp s1 (same_none s1 j),?_);rw[bc N,ct,pH,h8 (by rw[ah];simp),fL]
  ·rintro H2 ⟨s2,dp⟩;rw[aQ,Y] at dp;have d2:=s2 _ _ cc;have d3:=s2 _ _ b5;have bx:p≠tm:=bb cc U;have b0:t≠tm:=bb b5 U;simp![d2,c1,c6];show(by change 4 < 1000;decide,?_);subst hu';have cy:upd H2 p (.ins C dx (bC "timed" (.ref tm) (bC "tables" (.ref t) (bC "full" (.int (full:Nat)) (bC "letter_tables" (.ref lt) (bC "nodes" (.ref n) [])))))) h=some (.lst ((mF ns).map V.bl)):=by rw[bc b4];show s2 _ _ bk
   have cA:upd H2 p (.ins C dx (bC "timed" (.ref tm) (bC "tables" (.ref t) (bC "full" (.int (full:Nat)) (bC "letter_tables" (.ref lt) (bC "nodes" (.ref n) [])))))) p=some (.ins C dx (J5 n lt full t tm)):=by rw[aV];rfl
   have bt:upd H2 p (.ins C dx (bC "timed" (.ref tm) (bC "tables" (.ref t) (bC "full" (.int (full:Nat)) (bC "letter_tables" (.ref lt) (bC "nodes" (.ref n) [])))))) t=some (.lst (nats (bq ↑ns 0))):=by rw[bc M];show d3
   have dr:upd H2 p (.ins C dx (bC "timed" (.ref tm) (bC "tables" (.ref t) (bC "full" (.int (full:Nat)) (bC "letter_tables" (.ref lt) (bC "nodes" (.ref n) [])))))) tm=some (.lst (nats (iW ns))):=by rw[bc bx.symm];show dp
   have ar:bK (er [p] H) (upd H2 p (.ins C dx (bC "timed" (.ref tm) (bC "tables" (.ref t) (bC "full" (.int (full:Nat)) (bC "letter_tables" (.ref lt) (bC "nodes" (.ref n) []))))))):=dj (bK.trans cm s2) ⋯;have dt:upd H2 p (.ins C dx (bC "timed" (.ref tm) (bC "tables" (.ref t) (bC "full" (.int (full:Nat)) (bC "letter_tables" (.ref lt) (bC "nodes" (.ref n) [])))))) q=H q:=by rw[bc B,s2 _ _ (by rw[dn];show hq),hq]
   generalize upd H2 p (.ins C dx (bC "timed" (.ref tm) (bC "tables" (.ref t) (bC "full" (.int (full:Nat)) (bC "letter_tables" (.ref lt) (bC "nodes" (.ref n) []))))))=H3 at cy cA bt dr ar dt ⊢;simp![↓fa H3 dt];show((_,dg.of cy),?_)
   have d4:H tm=none:=by
    cases e:H tm with
    |none=>rfl
    |some o=>
     by_cases e2:tm=p
     ·show absurd e2.symm bx
     ·have:=cm tm o (dE.mpr (by simp[e2],e));rw[U] at this;cases this
   have n3:H3 n=some (.lst (ts.map V.ref)):=ar _ _ (dE.mpr (by simp[dh],hn));have ea:Paired (E7 H3) ts ns:=L2.Paired.jh c0 λb m Z=>ar _ _ (dE.mpr (by simp[eV Z J (by intro z;cases z)],Z));let(kvs,dv,eb,ec):=hL;have dw:H3 lt=some (.dK kvs):=ar _ _ (dE.mpr (by simp[eV dv J (by intro z;cases z)],dv));have N:t≠n:=(bb hn g).symm;have ed:h≠t:=bb hh g;show Ir (xs:=(mF ns).map V.bl) (afX H3 p C dx q lt n t tm full ns X) (none,none,_,rfl,cq,bt,⋯,λp J=>absurd J ()) (λi σ H' _ (_,_,_,_,s',_)=>dg.of (cb s' (by simp[ed]) cy)) ?_ ?_
   ·rintro i x σ H' tt hx ⟨v4,v5,Tb,rfl,s',av,aA,O⟩ j;let(b,Z,rfl):=iT hx;have hi:=(aX.mp Z).1;have ah:f_ ns i=b:=by unfold f_;rw[eh Z]
    have dy:t≠tt:=bb av j;have cL:H' p=some (.ins C dx (J5 n lt full t tm)):=cb s' (by simp[M.symm]) cA;have b1:p≠tt:=bb cL j;simp![];show(_,qH.of aV,rfl,?_);simp![];have b2:er [t] H3 tt=none:=same_none s' j
    cases b with
    |true=>
     simp![];show(_,_,Tb,rfl,bp s' b2,by rw[bc dy];show av,aA,λp J ha=>?_)
     by_cases e:p=i
     ·subst e;rw[ah] at ha;cases ha
     ·show O p () ha
    |false=>
     obtain⟨nd,dB⟩:∃nd,ns[i]? =some nd:=(_,aS ());let(g1,g2):=TM gV hX dB ah O;simp![gv,b1,cL];show(rfl,p,C,dx,_,n,lt,t,ns,full,Tb,LT,i,nd,rfl,(by rw[bc b1];show cL,D,rfl,rfl,rfl,rfl,(ts,?_,?_),(kvs,?_,eb,ec),by rw[bc dy];show av,aA,N),gV,dB,g1,?_)
     ·rw[bc (bb (cb s' (by simp[N.symm]) n3) j)];show cb s' (by simp[N.symm]) n3
     ·show L2.Paired.jh ea λb m Z=>?_;have dH:=cb s' (by simp[eV Z bt (by intro z;cases z)]) Z;unfold E7;rw[bc (bb dH j)];show dH
     ·have dT:=cb s' (by simp[eV dw bt (by intro z;cases z)]) dw;rw[bc (bb dT j)];show dT
     ·show(_,_,_,rfl,dj (bp s' b2) ⋯,aV,by rw[eQ];show aA,λp J ha=>?_);rw[g2]
      by_cases e:p=i
      ·subst e;rw[ba,kL ()];rfl
      ·rw[ba,mn (λh=>e h.symm),←ba];show O p () ha
   ·rintro σ H' ⟨v4,v5,Tb,rfl,s',av,aA,O⟩;rw[aQ,Y] at O;show k H' t tm Tb (cb s' (by simp[M.symm]) cA) av aA O (cb s' (by simp[b0.symm]) dr) b0 (λb o e=>?_) g d4;let(e1,e2):=dE.mp e;show cb s' (by simp only[bz];intro z;rw[z,g] at e2;cases e2) (ar b o e)
abbrev rrF(m u:Nat):List (bV×V):=[("count",.int (m:Nat),),("back",.int (u:Nat),)]
def Kq:(rrF m u).lookup ("count" :bV)=some (.int (m:Nat)):=rfl
def MP:(rrF m u).lookup ("back" :bV)=some (.int (u:Nat)):=rfl
abbrev XU(C:aW):Sp:=λvs H Q _=>X4 λ(p dx:aW) (m u:Nat)=>vs=[.ref p,.int (m:Nat),.int (u:Nat)]/\H p=some (.ins C dx [])/\∀H',H' p=some (.ins C dx (rrF m u))->bK (er [p] H) H'->Q .vI H'
def El(T:Tx P w K mg a):gu P w K mg base pS 1 a.rQ a.qb qP (XU a.j9):=by
 show T.Gi.ok wM (λvs H Q E h=>?_) (λg A outer s H vs Q E B h=>?_)
 ·nofun
 ·let(p,dx,m,u,rfl,j,k):=h;have z:=wM.nd
  show(_,(aU (fF (pv 0) (pv 1) rfl)
   (bh (fF (pv 0) (pv 2) rfl))),?_)
  simp![gv,nU,j,T.ma,T.pF,T.qu];show(by decide,by change 1 < 1000;decide,?_);show k _ (by rw[aV];rfl) (dj cq ⋯)
abbrev aah(C:aW):Sp:=λvs H Q _=>X5 λ(p dx:aW) (m u x:Nat)=>vs=[.ref p,.int (x:Nat)]/\H p=some (.ins C dx (rrF m u))/\0 < m/\m<=4096/\Q (.int ((x / 2^1) ||| ((x.testBit u).toNat*2^(m - 1)):Nat)) H
def CC(T:Tx P w K mg a):gu P w K mg base pS 1 a.oY a.nW pk (aah a.j9):=by
 show T.DR.ok uU (λvs H Q E h=>?_) (λj A outer s H vs Q E M h=>?_)
 ·nofun
 ·let(p,dx,m,u,x,rfl,g,z,N,k):=h;have B:=uU.nd;show(_,(bh (cE (cY Bu (cY AG (pv 1) bU) (cY l7 (cY nQ (cY AG (pv 1) (bN (pv 0) rfl)) bU) (cY Ao (bN (pv 0) rfl) bU))))),?_);simp![↓bS g T.ma T.pF Kq,↓bS g T.ma T.qu MP];have D:((x:Nat):Int) / 2^(1:Int).toNat=((x / 2^1:Nat):Int):=by simp
  have J:((m:Nat):Int) - 1=((m - 1:Nat):Int):=by lia
  rw[nI,J,Ck,D,iC];show((),(),((),?_),k);have:cD ((x.testBit u).toNat:Nat)<=1:=bits_le (by cases x.testBit u <;> decide);lia
abbrev adO(C:aW):Sp:=λvs H Q _=>X7 λ(p dx:aW) (m u x y:Nat) (v:Bool)=>vs=[.ref p,.int (x:Nat),.int (y:Nat),.int (v.toNat:Nat)]/\H p=some (.ins C dx (rrF m u))/\u < m/\m<=4096/\Q (.int (Qa (λi=>x.testBit i) (λi=>y.testBit i) m u v:Nat)) H
def R9(x y i:Nat)(v:Bool):jG (dZ (((y:Nat):Int) / 2^((i:Nat):Int).toNat) 1) (dZ (((x:Nat):Int) / 2^((i:Nat):Int).toNat) ((v.toNat:Nat):Int))=(((y.testBit i || (x.testBit i && v)).toNat:Nat):Int):=by
 rw[nI]
 have e:dZ (((x:Nat):Int) / 2^((i:Nat):Int).toNat) ((v.toNat:Nat):Int)=(((x.testBit i && v).toNat:Nat):Int):=by
  cases v with
  |true=>rw[show((true.toNat:Nat):Int)=1 from rfl,nI,Ow]
  |false=>
   rw[bP,show((x:Nat):Int) / 2^i=((x / 2^i:Nat):Int) by simp,show((false.toNat:Nat):Int)=((0:Nat):Int) from rfl,ly,Nat.and_zero,nA];rfl
 rw[e,iC]
 cases y.testBit i <;> cases(x.testBit i && v) <;> rfl
abbrev ahz(H:Hp)(p:aW)(m u x y:Nat)(v:Bool)(i:Nat)(σ:L2.St)(H':Hp):Prop:=H=H'/\∃(g:Option V),σ=[some (.ref p),some (.int (x:Nat)),some (.int (y:Nat)),some (.int (v.toNat:Nat)),some (.int ((qe (λi=>x.testBit i) (λi=>y.testBit i) m v i).toNat:Nat)),g,none]
abbrev ahC(H:Hp)(p:aW)(m u x y:Nat)(g v:Bool)(i:Nat)(σ:L2.St)(H':Hp):Prop:=H=H'/\∃(z:Option V),σ=[some (.ref p),some (.int (x:Nat)),some (.int (y:Nat)),some (.int (g.toNat:Nat)),some (.int ((qe (λi=>x.testBit i) (λi=>y.testBit i) m v i).toNat:Nat)),z,some (.int (bitsOf (λj=>decide (m - i<=j) && qe (λi=>x.testBit i) (λi=>y.testBit i) m v (m - j)) m:Nat))]
def BC(T:Tx P w K mg a):gu P w K mg base pS 1 a.nR a.mZ n8 (adO a.j9):=by
 show T.B0.ok uy (λvs H Q E h=>?_) (λU A outer s H vs Q E hr h=>?_)
 ·nofun
 ·let(p,dx,m,u,x,y,v,rfl,g,Y,hm,k):=h;have Z:=uy.nd
  show(_,(aU (c9 4 (pv 3))
   (aU (jO b8 rfl (O7 (by rfl) T.Cq (aR (cY Ao (bN (pv 0) rfl) bU) (aR (cY Ao (bN (pv 0) rfl) bU) (aR (Jk He bU) br)))) (b6 5) (bh (c9 4 (cY Bu (cY nQ (cY AG (pv 2) (pv 5)) bU) (cY nQ (cY AG (pv 1) (pv 5)) (pv 4))))))
   (aU (c9 6 bU)
   (aU (jO b8 rfl (O7 (by rfl) T.Cq (aR (cY Ao (bN (pv 0) rfl) bU) (aR (Jk He bU) (aR (Jk He bU) br)))) (b6 5) (aU (c9 4 (cY Bu (cY nQ (cY AG (pv 2) (pv 5)) bU) (cY nQ (cY AG (pv 1) (pv 5)) (pv 4))))
   (bh (CP 6 (cY l7 (pv 4) (pv 5)) OU))))
   (bh (cE (pv 6))))))),?_)
  dsimp! []
  simp_all! [↓bS g T.ma T.pF Kq,↓bS g T.ma T.qu MP]
  have eN:((m:Int) - 1 - ((u:Int) - 1)).toNat=m - u:=by lia
  have N:=RgC.neg (i:=(m:Int) - 1) (j:=(u:Int) - 1) () () () ();rw[eN] at N;have O:∀i:Nat,i < m->((m:Int) - 1+(i:Nat)*(-1))=((m - 1 - i:Nat):Int):=λi hi=>by lia
  show(_,N,?_);show Nq (ahz H p m u x y v) (rfl,none,rfl) ?_ ?_
  ·rintro i σ H' hi ⟨rfl,B,rfl⟩;rw[O i ()];simp![];rw[R9];show((),(),rfl,_,rfl)
  ·rintro σ H' ⟨rfl,B,rfl⟩;subst hu';simp only;dsimp! []
   simp_all! [↓bS g T.ma T.pF Kq,↓bS g T.ma T.qu MP]
   have D:((m:Int) - 1 - (-1)).toNat=m:=by lia
   have R2:=RgC.neg (i:=(m:Int) - 1) (j:=-1) () () () ();rw[D] at R2;show(_,R2,?_)
   have e0:bitsOf (λj=>decide (m - 0<=j) && qe (λi=>x.testBit i) (λi=>y.testBit i) m (qe (λi=>x.testBit i) (λi=>y.testBit i) m v (m - u)) (m - j)) m=0:=by
    show Ti (fk (b:=λ_=>false) λq J=>?_) (Kw m).symm;rw[decide_eq_false ()];rfl
   show Nq (ahC H p m u x y v (qe (λi=>x.testBit i) (λi=>y.testBit i) m v (m - u))) (rfl,B,by rw[e0];rfl) ?_ ?_
   ·rintro i σ H' hi ⟨rfl,B,rfl⟩;rw[O i hi];simp![];rw[R9,Ck,iC]
    have M:bitsOf (λj=>decide (m - i<=j) && qe (λi=>x.testBit i) (λi=>y.testBit i) m (qe (λi=>x.testBit i) (λi=>y.testBit i) m v (m - u)) (m - j)) m ||| (y.testBit (m - 1 - i) || (x.testBit (m - 1 - i) && qe (λi=>x.testBit i) (λi=>y.testBit i) m (qe (λi=>x.testBit i) (λi=>y.testBit i) m v (m - u)) i)).toNat*2^(m - 1 - i)=
      bitsOf (λj=>decide (m - (i+1)<=j) && qe (λi=>x.testBit i) (λi=>y.testBit i) m (qe (λi=>x.testBit i) (λi=>y.testBit i) m v (m - u)) (m - j)) m:=by
     apply cp;intro q;rw[de,cS,cS,iQ]
     have bt:∀(z:Bool) (j:Nat),z.toNat.testBit j=(decide (0=j) && z):=λz j=>by
      cases z
      ·simp
      ·rw[xr,Ql];simp
     rw[bt];rcases Al q (m - 1 - i) with c|c|c
     ·rw[decide_eq_false (show ¬m - i<=q by lia),decide_eq_false (show ¬m - (i+1)<=q by lia),decide_eq_false (show ¬m - 1 - i<=q by lia)];simp
     ·subst c;rw[decide_eq_true (show m - 1 - i < m by lia),decide_eq_false (show ¬m - i<=m - 1 - i by lia),decide_eq_true (show m - (i+1)<=m - 1 - i by lia),decide_eq_true (show m - 1 - i<=m - 1 - i by lia),decide_eq_true (show 0=m - 1 - i - (m - 1 - i) by lia),show m - (m - 1 - i)=i+1 by lia];simp only[gJ,nA,fH,mL,qe]
     ·rw[decide_eq_false (show ¬0=q - (m - 1 - i) by lia)]
      by_cases J:q < m
      ·rw[decide_eq_true (show m - i<=q by lia),decide_eq_true (show m - (i+1)<=q by lia)];simp
      ·rw[decide_eq_false J];simp
    rw[M];show((),(),((),?_),rfl,_,rfl);have:cD ((y.testBit (m - 1 - i) || (x.testBit (m - 1 - i) && qe (λi=>x.testBit i) (λi=>y.testBit i) m (qe (λi=>x.testBit i) (λi=>y.testBit i) m v (m - u)) i)).toNat:Nat)<=1:=bits_le (by cases(y.testBit (m - 1 - i) || (x.testBit (m - 1 - i) && qe (λi=>x.testBit i) (λi=>y.testBit i) m (qe (λi=>x.testBit i) (λi=>y.testBit i) m v (m - u)) i)) <;> decide)
    lia
   ·rintro σ H' ⟨rfl,B,rfl⟩;subst hu';simp![]
    have ef:bitsOf (λj=>decide (m - m<=j) && qe (λi=>x.testBit i) (λi=>y.testBit i) m (qe (λi=>x.testBit i) (λi=>y.testBit i) m v (m - u)) (m - j)) m=Qa (λi=>x.testBit i) (λi=>y.testBit i) m u v:=by
     unfold Qa;show fk λq J=>by rw[decide_eq_true ()];rfl
    rw[ef];show k
def vS(h:((du N).filter f)[i]? =some p):((du N).filter f).take i=(du p).filter f/\p < N/\f p=true:=by
 have g:=bJ h;rw[c8,eY] at g;show(?_,g.1,g.2)
 have z:du N=du p++(p ::(du (N - p - 1)).map (λx=>p+(x+1))):=by
  have:N=p+(N - p - 1+1):=by lia
  conv=>lhs;rw[this]
  rw[List.range_add,List.range_succ_eq_map,cg,qA];rfl
 have j:(du N).filter f=(du p).filter f++(p ::((du (N - p - 1)).map (λx=>p+(x+1))).filter f):=by
  rw[z,hJ,cP,h9 g.2]
 have nd:((du N).filter f).Nodup:=zi xR KS
 have h2:((du N).filter f)[((du p).filter f).length]? =some p:=by
  rw[j,cX (aT _),vo];rfl
 have B:i=↑((du p).filter f):=by
  let(a1,a2):=aX.mp h;let(J,D):=aX.mp h2;show(KW nd).mp (a2.trans D.symm)
 rw[B,j,NP]
def Nn(h:(iW ns)[i]? =some p)(g:l < p):f_ ns l=false\/l∈(iW ns).take i:=by
 cases e:f_ ns l with
 |false=>show .inl rfl
 |true=>
  right;unfold iW at h ⊢;rw[(vS h).1,c8,eY];show(g,e)
def abN{xs:List Nat}(h:i < ↑xs):(xs.set i z).getD j 0=if j=i then z else xs.getD j 0:=by
 by_cases e:j=i
 ·subst e;rw[h9 rfl,ba,kL h];rfl
 ·rw[h8 e,ba,mn (λh=>e h.symm),←ba]
abbrev Done(ns:List Nd)(X:Nat->Nat)(Tb:List Nat)(i:Nat):Prop:=↑Tb=↑ns/\∀p,p < ↑ns->f_ ns p=false\/p∈(iW ns).take i->Tb.getD p 0=X p
def Done.next(D:Done ns X Tb i)(h:(iW ns)[i]? =some p):Done ns X (Tb.set p (X p)) (i+1):=by
 have j:p < ↑ns:=by unfold iW at h;show(vS h).2.1
 show(by rw[eQ];show D.1,λq z B=>?_);rw[abN (by rw[D.1];show j)]
 by_cases e:q=p
 ·rw[h9 e,e]
 ·rw[h8 e];show D.2 q z (B.imp id λg=>?_);rw[take_snoc h,cj,bz] at g;show g.resolve_right e
def Done.all(D:Done ns X Tb ↑(iW ns))(g:p < ↑ns):Tb.getD p 0=X p:=by
 show D.2 p g ?_
 cases e:f_ ns p with
 |false=>show .inl rfl
 |true=>
  right;rw[dC];unfold iW;rw[c8,eY];show(g,e)
def Done.left(ok:Ok ns)(D:Done ns X Tb i)(h:(iW ns)[i]? =some p)(g:ns[p]? =some nd)(j:nd.k.leaf=false):Tb.getD nd.l 0=X nd.l/\Tb.getD nd.r 0=X nd.r/\nd.l < ↑ns/\nd.r < ↑ns:=by
 let(h1,h2):=ok.inner p nd g j;have z:p < ↑ns:=(aX.mp g).1;show(D.2 _ () (Nn h h1),D.2 _ () (Nn h h2),(),())
def IW{full lt a b g j:Nat}(h:k.leaf=false->a=g/\b=j):plainT k full lt a b=plainT k full lt g j:=by
 cases e:k.leaf with
 |true=>show M1 e
 |false=>rw[(h e).1,(h e).2]
abbrev agr(a:Ad)(K:bj):Sp:=λvs H Q _=>X9 λ(q m n d h:aW) (ns:List Nd) (ab u:Nat) (w:List Nat)=>vs=[.ref q,.int (ab:Nat),.ref m,.int (u:Nat)]/\oR a.cF H q n d h ns/\Ok ns/\↑ns<=10000/\ab < ↑ns/\dg K H m (nats w)/\↑w<=4096/\u < ↑w/\
 ∀H',bK H H'->Q (.int (((vz ns w u ab).testBit 0).toNat:Nat)) H'
def Hi(ok:Ok ns):∀z∈ka ns,z < 16:=by
 intro z g;unfold ka at g;rw[fc] at g;let(nd,h1,rfl):=g;rw[c8] at h1;let(i,hi,e):=dU h1.1;show(ok.fS i nd (by rw[aS hi,e]) (by simpa using h1.2)).1
abbrev acH(g:Hp)(q m pr j t:aW)(ab u:Nat)(ns:List Nd)(X:Nat->Nat)(i:Nat)(σ:L2.St)(H':Hp):Prop:=X5 λ(z B D v10:Option V) (Tb:List Nat)=>σ=[some (.ref q),some (.int (ab:Nat)),some (.ref m),some (.int (u:Nat)),some (.ref pr),some (.ref j),some (.ref t),z,B,D,v10]/\bK (er [t] g) H'/\H' t=some (.lst (nats Tb))/\Done ns X Tb i
def EB(T:Tx P w K mg a):gu P w K mg base pS 4 a.AV a.yK Am (agr a K):=by
 show T.Ax.ok EU (λvs H Q E h=>?_) (λeC A outer s H vs Q E hr h=>?_)
 ·nofun
 ·let(q,m,n,d,h,ns,ab,u,g,rfl,hF,gV,ed,af,hm,hw,ah,k):=h;have eD:=EU.nd
  show(_,(aU (c9 4 (x_ T.R_ (El T) (hr.mono (by decide)) rfl T.Um T.FP .nil cN (aR (ig ee (by rfl) T.r_ dO (aR (pv 2) br)) (aR (pv 3) br))))
   (aU (c9 5 (x_ T.NY (vc T) (hr.mono (by decide)) rfl T.Jn T.vF .nil cN (aR (pv 0) (aR (fJ (Em T) (hr.mono (by decide)) rfl T.GH T.AY.kp T.GC .nil cN (aR (oz (pv 0) T.cR T.sY (qM T) (hr.mono (by decide)) T.tW .nil cN) (aR (pv 2) br))) (aR (cY Ao (cY l7 bU (ig ee (by rfl) T.r_ dO (aR (pv 2) br))) bU) br)))))
   (aU (c9 6 (bN (pv 5) rfl))
   (aU (jO b8 rfl (jE (bN (pv 5) rfl)) (b6 7) (aU (jN (dQ cC (bN (pv 0) rfl) (pv 7) (λ_ _=>rfl)) (jw (n:=3) rfl (ck (b6 8) (ck (b6 9) (ck (b6 10) g8)))))
   (bh (eG (cx iU (pv 8) (iq (by rfl) T.Ux) (dk _)) (bh (jN (dI (pv 4) T.ma T.Dy (CC T) (hr.mono (by decide)) T.DP .nil cN (aR (dQ cC (pv 6) (pv 9) (λ_ _=>rfl)) br)) (D3 (pv 6) (pv 7) set_list))) (bh (eG (cx oQ (pv 8) (iZ (v:= .ref a.FF) (by rfl) T.Ma rfl) (by rfl)) (bh (jN (dI (pv 4) T.ma T.Cr (BC T) (hr.mono (by decide)) T.BY .nil cN (aR (dQ cC (pv 6) (pv 9) (λ_ _=>rfl)) (aR (dQ cC (pv 6) (pv 10) (λ_ _=>rfl)) (aR (IF (cx iU (pv 8) (iq (by rfl) T.Mh) (dk _)) bU bU) br)))) (D3 (pv 6) (pv 7) set_list))) (bh (dP (dI (pv 5) T.wy T.ue (mG T) (hr.mono (by decide)) T.mW .nil cN (aR (pv 7) br))))))))))
   (bh (cE (cY nQ (dQ cC (pv 6) (pv 1) (λ_ _=>rfl)) bU))))))),?_)
  dsimp! [];show(_,.inl hm,?_);rw[aQ];intro pr dr aA b0 c5;show(pr,dr,↑g,u,rfl,aV,λH1 c6 s1=>(rfl,?_));subst hu';have ar:bK H H1:=dX (A:=[pr]) (H:=upd (upd H dr (.own pr)) pr (.ins a.j9 dr [])) (bp (bp (same_refl H) b0) aA) (by simp[aA]) s1
  have cc:oR a.cF H1 q n d h ns:=by
   let((dy,hq),(ts,hn,ef),hd,hh,cm):=hF;show((dy,ar _ _ hq),(ts,ar _ _ hn,L2.Paired.jh ef λb m B=>ar _ _ B),ar _ _ hd,ar _ _ hh,cm)
  let((dy,ct),(ts,dd,b1),dh,dn,cm):=id cc;dsimp! [ct,aei];show(q,n,d,h,ns,rfl,cc,(),λH2 l cy eF eg=>?_);have dp:=bK.trans ar cy
  have hlen:↑(ka ns)<=10000:=by
   unfold ka;rw[aQ];show cJ (eP _ _) ed
  show(l,m,ka ns,g,rfl,eg,dp.seq hm,hlen,Hi gV,(),λH3 lt cA ey dt=>?_);have bt:=bK.trans dp cA
  have cL:oR a.cF H3 q n d h ns:=by
   have aE:=bK.trans cy cA;show((dy,aE _ _ ct),(ts,aE _ _ dd,L2.Paired.jh b1 λb m B=>aE _ _ B),aE _ _ dh,aE _ _ dn,cm)
  show(_,.inl (bt.seq hm),?_);rw[aQ];show(((),by have eH:cD (1:Int)<=1:=(bits_le (n:=1) (k:=1) (by decide));lia),λpc dc bk dv eA=>?_)
  have b2:(1*2^((↑g:Nat):Int).toNat - 1:Int)=((2^↑g - 1:Nat):Int):=by
   rw[bP,uB,Int.ofNat_sub Nat.one_le_two_pow];simp
  rw[b2];have D:bK H3 (upd (upd H3 dc (.own pc)) pc (.ins a.fO dc [])):=bp (bp (same_refl H3) dv) bk
  have c0:oR a.cF (upd (upd H3 dc (.own pc)) pc (.ins a.fO dc [])) q n d h ns:=by
   let((dy,N),(ts,g2,g3),g4,g5,g6):=cL;show((dy,D _ _ N),(ts,D _ _ g2,L2.Paired.jh g3 λb m B=>D _ _ B),D _ _ g4,D _ _ g5,g6)
  have hX:Plain ns (2^↑g - 1) (xI g) (vz ns g u):=λp nd hn hk=>OE gV ah hn hk;show(pc,a.fO,dc,q,lt,n,d,h,ns,2^↑g - 1,xI g,vz ns g u,rfl,aV,.inl rfl,c0,gV,(),dt.mono D,hX,λH4 t tm Tb O U ei ej b3 dw c1 c2 eB=>(rfl,?_));subst hu'
  have ek:bK H H4:=by
   show dX (A:=[pc]) (bK.trans bt D) ?_ c1;intro b B;rw[bz] at B;rw[B];show same_none bt bk
  have j:bK H3 H4:=dX (A:=[pc]) D (by intro b B;rw[bz] at B;rw[B];show bk) c1
  have c0:oR a.cF H4 q n d h ns:=by
   let((dy,N),(ts,g2,g3),g4,g5,g6):=cL;show((dy,j _ _ N),(ts,j _ _ g2,L2.Paired.jh g3 λb m B=>j _ _ B),j _ _ g4,j _ _ g5,g6)
  have bl:H4 pr=some (.ins a.j9 dr (rrF ↑g u)):=j _ _ (cA _ _ (cy _ _ c6));have dB:=dt.mono j
  have el:H t=none:=by
   have:=same_none D c2;show same_none bt this
  have en:H3 t=none:=same_none D c2;clear ct dd b1 dh dn aA b0 c5 s1 c6 cc c2 c1 hX b2;let((dq,c3),(ts,eo,b4),eK,eN,_):=c0;have ep:q≠t:=λe=>by rw[e,U] at c3;cases c3
  have dH:pc≠t:=λe=>by rw[e,U] at O;cases O
  have dK:pr≠t:=λe=>by rw[e,U] at bl;cases bl
  have dT:n≠t:=λe=>by
   let(_,(eR,g2,_),_):=cL;rw[e,en] at g2;cases g2
  dsimp! [↓bS O T.wy T.wG (show(J5 n lt (2^↑g - 1) t tm).lookup ("tables" :bV)=some (.ref t) from rfl)]
  simp_all! [↓bS O T.wy T.xC (show(J5 n lt (2^↑g - 1) t tm).lookup ("timed" :bV)=some (.ref tm) from rfl)]
  show((_,dg.of b3),?_);show lr (xs:=nats (iW ns)) (acH H4 q m pr pc t ab u ns (vz ns g u)) (none,none,none,none,Tb,rfl,cq,U,ei,λp hp hh=>ej p hp (hh.resolve_right ⋯)) (λi σ H' _ (_,_,_,_,_,_,s',_)=>dg.of (cb s' (by simp[dw.symm]) b3)) ?_ ?_
  ·rintro i x σ H' hx ⟨v7,v8,v9,v10,Y,rfl,s',M,Z⟩;let(p,bx,rfl):=iT hx;have dV:p < ↑ns:=by have:=bx;unfold iW at this;show(vS this).2.1
   obtain⟨nd,av⟩:∃nd,ns[p]? =some nd:=(_,aS dV);have N:=λhl=>Done.left gV Z bx av hl;have er:=cb s' (by simp[ep]) c3;have d0:=cb s' (by simp[dT]) eo;have J:=cb s' (by simp[dK]) bl;have b5:=cb s' (by simp[dH]) O;let(b,B,c4):=jK b4 av;have et:b≠t:=λe=>by rw[e] at c4;have h2:H4 t=_:=c4;rw[U] at h2;cases h2
   have eu:H' b=_:=cb s' (by simp[et]) c4;dsimp! [↓bS er T.cR T.ip vU];show(_,dg.of d0,_,xm B,_,rfl,_,qH.of eu,rfl,?_);simp![];subst hu'
   have fin:∀z:Nat,z=vz ns g u p->∃x,H' t=some (.lst x)/\∃d1,WM ↑x (p:Int)=some d1/\acH H4 q m pr pc t ab u ns (vz ns g u) (i+1) [some (.ref q),some (.int (ab:Nat)),some (.ref m),some (.int (u:Nat)),some (.ref pr),some (.ref pc),some (.ref t),some (.int (p:Nat)),some (.str (wa nd.k)),some (.int (nd.l:Nat)),some (.int (nd.r:Nat))] (upd H' t (.lst (x.set d1 (.int (z:Nat))))):=λz e=>by
    show(_,M,p,Hn (by rw[aQ,Z.1];show dV),_,_,_,_,_,rfl,dj s' ⋯,by rw[aV,EY],?_);rw[e];show Z.next bx
   have d2:Ny H' lt (ka ns) (xI g):=by
    let(kvs,N,g2):=dB;show(kvs,cb s' (by simp[eV N U (by intro z;cases z)]) N,g2)
   have d3:Paired (E7 H') ts ns:=L2.Paired.jh b4 λb m B=>cb s' (by simp[eV B U (by intro z;cases z)]) B;have d4:=λh1=>Y_ gV ah av h1;have ea:=λh1=>Xj gV ah av h1;have ec:=λh1=>OE gV ah av h1;let(kd,l1,r1):=nd
   by_cases e1:kd= .next
   ·subst e1;let(N,g2,g3,g4):=N rfl;have f:=fin _ (d4 rfl).symm;simp![Fl];show((_,_,J,rfl),_,dg.of M,_,hZ (by rw[Z.1];show g3),pr,dr,↑g,u,_,rfl,J,(),hw,?_);rw[N];show f
   ·by_cases e2:tL kd=true
    ·have f:=fin _ (ea e2).symm;have hk:kd= .De\/kd= .unless:=by revert e2;cases kd <;> simp[tL]
     rcases hk with rfl|rfl
     ·let(N,g2,g3,g4):=N rfl;simp![Fl,T4];show(_,.inr (T.Fv _),rfl,rfl,?_);rw[Bz,h9 (by rfl)];show((_,_,J,rfl),_,dg.of M,_,hZ (by rw[Z.1];show g3),_,dg.of M,_,hZ (by rw[Z.1];show g4),pr,dr,↑g,u,_,_,false,rfl,J,ah,hw,?_);rw[N,g2];show f
     ·let(N,g2,g3,g4):=N rfl;simp![Fl,T4];show(_,.inr (T.Fv _),rfl,rfl,?_);rw[Bz,h9 (by rfl)];show((_,_,J,rfl),_,dg.of M,_,hZ (by rw[Z.1];show g3),_,dg.of M,_,hZ (by rw[Z.1];show g4),pr,dr,↑g,u,_,_,true,rfl,J,ah,hw,?_);rw[N,g2];show f
    ·have e3:kd.eX=false:=by revert e1 e2;cases kd <;> simp[tL,Kd.eX]
     have ew:(kd=Kd.next)=False:=eq_false e1;simp![Fl,ew];show(_,.inr (T.Fv _),rfl,rfl,?_);rw[Bz,e3,h8 (by decide)];show((_,_,b5,rfl),pc,_,_,_,n,lt,t,ns,2^↑g - 1,Y,xI g,p,_,rfl,(b5,.inl rfl,rfl,rfl,rfl,rfl,(ts,d0,d3),d2,M,Z.1,dT.symm),gV,av,e3,?_);show(_,_,_,_,_,rfl,dj s' ⋯,aV,?_)
     have ez:plainT kd (2^↑g - 1) (xI g l1) (Y.getD l1 0) (Y.getD r1 0)=vz ns g u p:=by
      rw[ec e3];show IW λhl=>((N hl).1,(N hl).2.1)
     change Done ns _ (Y.set p (plainT kd (2^↑g - 1) (xI g l1) (Y.getD l1 0) (Y.getD r1 0))) (i+1);rw[ez];show Z.next bx
  ·rintro σ H' ⟨v7,v8,v9,v10,Y,rfl,s',M,Z⟩;rw[aQ] at Z;simp![];subst hu';simp![];show(_,dg.of M,_,hZ (by rw[Z.1];show af),?_);rw[Z.all af];simp![];have eb:=nI (vz ns g u ab) 0;simp only[bP,Rn,Rq,Rr,K0,NU] at eb;change Q (.int (dZ _ 1)) H';rw[eb];show k H' (dX (A:=[t]) ek (by intro b B;rw[bz] at B;rw[B];show el) s')
abbrev cpF(t w:aW):List (bV×V):=[("tables",.ref t,),("waiting",.ref w,)]
def ahE{t w:aW}:(cpF t w).lookup ("tables" :bV)=some (.ref t):=rfl
def acO{t w:aW}:(cpF t w).lookup ("waiting" :bV)=some (.ref w):=rfl
abbrev EW(H:Hp)(b:aW)(x:Nat×Nat×Nat):Prop:=H b=some (.tup [.int (x.1:Nat),.int (x.2.1:Nat),.int (x.2.2:Nat)])
abbrev nk(ts:List Nat):List (Nat×Nat×Nat)->List (Nat×Nat)
 |[]=>[]
 |x ::st=>nk ts st++gh (ts.drop x.1) x.1 x.2.1 x.2.2
def Pe(ts:List Nat)(st:List (Nat×Nat×Nat))(x:Nat×Nat×Nat):nk ts (st++[x])=gh (ts.drop x.1) x.1 x.2.1 x.2.2++nk ts st:=by
 induction st with
 |nil=>simp[nk]
 |cons y st g=>rw[ia,nk,g,nk,bO]
def Zh(ts:List Nat)(st:List (Nat×Nat×Nat)):↑st<=↑(nk ts st):=by
 induction st with
 |nil=>show d6 _
 |cons y st g=>
  have:=(we (ts.drop y.1) y.1 y.2.1 y.2.2).2;rw[nk,aY,a_];lia
structure B6(C:aW)(H:Hp)(p dx t w:aW)(ts:List Nat)(st:List (Nat×Nat×Nat)):Prop where
 obj:H p=some (.ins C dx (cpF t w))
 tabs:H t=some (.lst (nats ts))
 wait:∃bs:List aW,H w=some (.lst (bs.map V.ref))/\Paired (EW H) bs st
 tw:t≠w
def FA(l:List α):l=[]\/∃g x,l=g++[x]:=by
 rcases DW l with h|⟨g,x,h⟩
 ·show .inl h
 ·show .inr (g,x,by simpa using h)
def kP(h:Paired R as (bs++[y])):∃g x,as=g++[x]/\Paired R g bs/\R x y:=by
 induction bs generalizing as with
 |nil=>
  cases h with
  |cons r t=>cases t;show([],_,rfl,.nil,r)
 |cons b bs j=>
  cases h with
  |cons r t=>
   let(g,x,rfl,h1,h2):=j t;show(_ ::g,x,rfl,.cons r h1,h2)
abbrev YQ(C:aW):Sp:=λvs H Q _=>X5 λ(p dx t:aW) (ts:List Nat) (full:Nat)=>vs=[.ref p,.ref t,.int (full:Nat)]/\H p=some (.ins C dx [])/\H t=some (.lst (nats ts))/\∀H' w,H w=none->B6 C H' p dx t w ts [(0,0,full,)]->bK (er [p] H) H'->Q .vI H'
def vE(T:Tx P w K mg a):gu P w K mg base pS 1 a.pV a.oU pI (YQ a.gj):=by
 show T.ED.ok vL (λvs H Q E h=>?_) (λZ A outer s H vs Q E hr h=>?_)
 ·nofun
 ·let(p,dx,t,ts,full,rfl,U,j,k):=h;have ah:=vL.nd
  show(_,(aU (fF (pv 0) (pv 1) rfl)
   (bh (fF (pv 0) (gS (aR (mx (aR bU (aR bU (aR (pv 2) br)))) br)) rfl))),?_)
  have B:t≠p:=eV j U (by intro z;cases z);dsimp! [U,T.kq,T.xM];show(by decide,?_);subst hu';simp![];show(by decide,λb Y=>(by decide,λw D=>?_));obtain⟨J,M⟩:b≠p/\H b=none:=by rw[gv] at Y;show NH Y
  obtain⟨O,D⟩:w≠b/\_:=by rw[gv] at D;show NH D
  obtain⟨N,g⟩:w≠p/\H w=none:=by rw[gv] at D;show NH D
  show zV (by rw[bc N.symm,bc J.symm,aV]) (T.kq,T.pT,by change 1 < 1000;decide,?_);show k _ w g (by rw[aV];rfl,?_,([b],?_,.cons ?_ .nil),bb j g) ?_
  ·rw[bc B,bc (bb j g),bc (bb j M),bc B];show j
  ·rw[bc N,aV];rfl
  ·unfold EW;rw[bc J,bc O.symm,aV];rfl
  ·show dj (bp (bp (dj cq ⋯) (qL M)) (qL g)) ⋯
def B6.push{p dx t w b:aW}{st:List (Nat×Nat×Nat)}(h:B6 C H p dx t w ts st)(z:H w=some (.lst (bs.map V.ref)))(B:Paired (EW H) bs st)(g:H b=none):B6 C (upd (upd H b (.tup [.int (x.1:Nat),.int (x.2.1:Nat),.int (x.2.2:Nat)])) w (.lst (bs.map V.ref++[.ref b]))) p dx t w ts (st++[x]):=by
 let(h1,h2,_,N):=h;have D:p≠w:=λe=>by rw[e,z] at h1;cases h1
 have J:b≠w:=λe=>by rw[e,z] at g;cases g
 show(by rw[bc D,bc (bb h1 g)];show h1,by rw[bc N,bc (bb h2 g)];show h2,(bs++[b],by rw[aV,bD];rfl,?_),N);show gQ (L2.Paired.jh B λc y j=>?_) ?_
 ·have M:c≠w:=λe=>by rw[e] at j;have O:H w=_:=j;rw[z] at O;cases O
  unfold EW;rw[bc M,bc (bb j g)];show j
 ·unfold EW;rw[bc J,aV]
abbrev WNx(C:aW)(H:Hp)(p dx t w:aW)(ts:List Nat)(R:List (Nat×Nat))(m:Nat)(σ:L2.St)(H':Hp):Prop:=X5 λ(asked n c:Nat) (v:Option V) (st:List (Nat×Nat×Nat))=>σ=[some (.ref p),some (.int (asked:Nat)),some (.int (n:Nat)),some (.int (c:Nat)),v]/\bK (er [w] H) H'/\B6 C H' p dx t w ts st/\R=gh (ts.drop asked) asked n c++nk ts st/\m=↑ts - asked
abbrev adb(C:aW):Sp:=λvs H Q _=>X6 λ(p dx t w:aW) (ts:List Nat) (st:List (Nat×Nat×Nat))=>vs=[.ref p]/\B6 C H p dx t w ts st/\↑ts<=100/\↑(nk ts st)<=10000/\(st=[]->Q .vI H)/\
 ∀H' b st' n c,bK (er [w] H) H'->B6 C H' p dx t w ts st'->H b=none->H' b=some (.tup [.int (n:Nat),.int (c:Nat)])->nk ts st=(n,c,) ::nk ts st'->Q (.ref b) H'
def kG(T:Tx P w K mg a):gu P w K mg base pS 1 a.oT a.nX o_ (adb a.gj):=by
 show T.DT.ok uQ (λvs H Q E h=>?_) (λbl A outer s H vs Q E hr h=>?_)
 ·nofun
 ·let(p,dx,t,w,ts,st,rfl,hC,bt,ag,k0,k1):=h;have bx:=uQ.nd
  show(_,(aU (eG (cx iU (ig ee (by rfl) T.r_ dO (aR (bN (pv 0) rfl) br)) bU (dk _)) (bh (cE UG)) dG)
   (aU (jN (xk bu eO eM yN (bN (pv 0) rfl)) (jw (n:=3) rfl (ck (b6 1) (ck (b6 2) (ck (b6 3) g8)))))
   (aU (ve b8 (cx VZ (pv 1) (ig ee (by rfl) T.r_ dO (aR (bN (pv 0) rfl) br)) (dk _)) (aU (c9 4 (cY nQ (pv 3) (dQ cC (bN (pv 0) rfl) (pv 1) (λ_ _=>rfl))))
   (aU (eG (Rb (MW (cx BH (pv 4) bU (dk _)) (IT (cx BH (pv 4) (pv 3) (dk _))))) (bh (dP (lu bu bH bG d7 (bN (pv 0) rfl) (aR (mx (aR (cY Ex (pv 1) bU) (aR (pv 2) (aR (cY E4 (pv 3) (pv 4)) br)))) br)))) dG)
   (aU (eG (cx BH (pv 4) bU (dk _)) (aU (CP 2 (cY l7 bU (pv 1)) OU)
   (bh (c9 3 (pv 4)))) dG)
   (bh (CP 1 bU ZP))))))
   (bh (cE (mx (aR (pv 2) (aR (pv 3) br)))))))),?_)
  let(Z,ht,(bs,j,g),N):=id hC;have fw:∀H',H' p=H p->∀Q:VK,nh K ("waiting" :bV) (.ref p) H' Q=Q (.ref w) H':=λH' e Q=>bS (by rw[e];show Z) T.kq T.pT acO Q;dsimp! [↓fw H rfl];show(_,.inl (dg.of j),?_);rw[aQ];rcases FA st with rfl|⟨B,⟨a0,n0,c0⟩,rfl⟩
  ·have e:=bT g;rw[h9 (by rw[e];rfl)];show k0 rfl
  let(D,b0,rfl,ah,J):=kP g;rw[h8 (by rw[aY,cw];lia)]
  simp_all! [↓fw H rfl]
  show(.inl (_,dg.of j),_,j,V.ref b0,⋯,_,rfl,_,qH.of (by rw[bc (eV J j (by intro z;cases z))];show J),rfl,_,_,rfl,_,_,rfl,_,_,rfl,rfl,?_);have aA:p≠w:=eV Z j (by intro z;cases z);have ar:B6 a.gj (upd H w (.lst ((D.map V.ref)))) p dx t w ts B:=(by rw[bc aA];show Z,by rw[bc N];show ht,(D,aV,L2.Paired.jh ah λc y hc=>by unfold EW;rw[bc (eV hc j (by intro z;cases z))];show hc),N);have e0:((D++[b0]).map V.ref).dropLast=D.map V.ref:=by rw[bD];simp
  rw[e0];have s1:bK (er [w] H) (upd H w (.lst (D.map V.ref))):=dj cq ⋯;generalize upd H w (.lst (D.map V.ref))=H1 at ar s1 ⊢;subst hu';rw[Pe] at ag k1;replace ag:↑(gh (ts.drop a0) a0 n0 c0++nk ts B)<=10000:=ag;dsimp! [];show(WNx a.gj H p dx t w ts (gh (ts.drop a0) a0 n0 c0++nk ts B),(_,a0,n0,c0,none,B,rfl,s1,ar,rfl,rfl),?_);clear ar s1 hC fw ah J g j Z ht;rintro m σ H' ⟨as,n,c,v,st,rfl,s',O,M,rfl⟩;let(Z,ht,(bs,j,g),N):=id O;have ft:∀H2,H2 p=H' p->∀Q:VK,nh K ("tables" :bV) (.ref p) H2 Q=Q (.ref t) H2:=λH2 e Q=>bS (by rw[e];show Z) T.kq T.xM ahE Q;have fw:∀H2,H2 p=H' p->∀Q:VK,nh K ("waiting" :bV) (.ref p) H2 Q=Q (.ref w) H2:=λH2 e Q=>bS (by rw[e];show Z) T.kq T.pT acO Q;simp![↓ft H' rfl];show(_,.inl (dg.of ht),?_);rw[aQ];show kg (λU=>?_) (λb1=>?_)
  ·have U:as < ↑ts:=by lia
   have hd:ts.drop as=ts.getD as 0 ::ts.drop (as+1):=by
    rw[dN U,eh (aS U)]
   rw[hd,gh] at M;show(_,λ_ _ h=>h,_,dg.of ht,_,hZ U,?_);generalize ts.getD as 0=t0 at M ⊢
   have aE:↑bs < sizeLine:=by
    have e1:=congrArg iw M;rw[aY,aY] at e1;have e2:=Zh ts st;have e3:=bT g;rw[aY] at ag;show df ()
   have e1:(1:Int)*2^(as:Int).toNat=((2^as:Nat):Int):=by rw[bP,uB];simp
   have ea:((as:Nat):Int)+1=((as+1:Nat):Int):=by lia
   have av:Zf 1 (as:Int):=((),by rw[show cD 1=1 from rfl];lia)
   have go:∀(n' c':Nat) (st':List (Nat×Nat×Nat)) (v:Option V) (H2:Hp),bK (er [w] H) H2->B6 a.gj H2 p dx t w ts st'->gh (ts.drop a0) a0 n0 c0++nk ts B=gh (ts.drop (as+1)) (as+1) n' c'++nk ts st'->∃m',m' < ↑ts - as/\WNx a.gj H p dx t w ts (gh (ts.drop a0) a0 n0 c0++nk ts B) m' [some (.ref p),some (.int ((as:Nat)+1)),some (.int (n':Nat)),some (.int (c':Nat)),v] H2:=λn' c' st' v H2 g1 g2 g3=>
    (↑ts - (as+1),(),as+1,n',c',v,st',by rw[ea],g1,g2,g3,rfl)
   by_cases h0:c &&& t0=0
   ·rw[h9 h0] at M;simp![ly,h0];show kg (λh=>absurd rfl h) (λ_=>?_);show kg (λh=>absurd rfl h) (λ_=>?_);show go n c st _ H' s' O M
   ·rw[h8 h0] at M;have Y:¬((c &&& t0:Nat):Int)=0:=by lia
    by_cases h1:c &&& t0=c
    ·rw[h9 h1] at M;simp![ly];rw[h9 Y,h8 (by rw[h1];simp),h9 Y,e1,iC];show(av,go _ _ st _ H' s' O M)
    ·rw[h8 h1] at M;simp![ly,↓fw H' rfl];rw[h9 Y,h9 (),nL,e1,iC];show(.inl (_,dg.of j),by decide,λb hb=>(_,by rw[bc (bb j hb)];show j,by rw[aQ];show aE,?_));rw[h9 Y];show(av,go _ _ (st++[(as+1,n,c^^^(c &&& t0),)]) _ _ (dj (bp s' (same_none s' hb)) ⋯) (B6.push (x:=(as+1,n,c^^^(c &&& t0),)) O j g hb) ?_);rw[M,Pe,bO]
  ·have hd:ts.drop as=[]:=C3 ();rw[hd,gh] at M;subst hu';simp![];show(by decide,λb hb=>?_);have bk:b≠w:=λe=>by rw[e,j] at hb;cases hb
   have J:H b=none:=by
    cases e:H b with
    |none=>rfl
    |some o=>have:=cb s' (by simp[bk]) e;rw[hb] at this;cases this
   have sn:bK H' (upd H' b (.tup [.int (n:Nat),.int (c:Nat)])):=bp (same_refl H') hb;show k1 _ b st n c (bp s' (qL J)) (sn _ _ Z,sn _ _ ht,(bs,sn _ _ j,L2.Paired.jh g λc y hc=>sn _ _ hc),N) J aV M
abbrev jq(ns:List Nd)(g:Kd):Nat:=bitsOf (λk=>decide (kindAt ns (DS ns k)=g)) (nT ns)
abbrev M7(n lt:aW)(full:Nat)(t tm g:aW)(ns:List Nd):List (bV×V):=[("nodes",.ref n,),("letter_tables",.ref lt,),("full",.int (full:Nat),),("tables",.ref t,),("timed",.ref tm,),("times",.ref g,),("outlooks",.int (2^nT ns:Nat),),("untils",.int (jq ns .De:Nat),),("unlesses",.int (jq ns .unless:Nat),),("wishes",.int (fY ns:Nat),)]
structure zH(a:Ad)(H:Hp)(p dx n lt t tm g:aW)(ns:List Nd)(full:Nat)(Tb:List Nat)(LT:Nat->Nat):Prop where
 obj:H p=some (.ins a.bA dx (M7 n lt full t tm g ns))
 nodes:∃ts:List aW,H n=some (.lst (ts.map V.ref))/\Paired (E7 H) ts ns
 lets:Ny H lt (ka ns) LT
 tabs:H t=some (.lst (nats Tb))
 len:↑Tb=↑ns
 eX:H tm=some (.lst (nats (iW ns)))
 times:H g=some (.lst (nats (fN ns)))
 tn:t≠n
 ttm:t≠tm
 aaJ:t≠g
def T9(ns:List Nd)(b o:Nat):jG (dZ (dZ (b:Int) (o:Int)) (jq ns .De:Nat)) (dZ (jq ns .unless:Nat) (dS (jG (b:Int) (o:Int))))=((Iq ns b o:Nat):Int):=by
 have g:dZ (jq ns .unless:Nat) (dS (jG (b:Int) (o:Int)))=((bitsOf (λk=>decide (kindAt ns (DS ns k)= .unless) && !(b.testBit k || o.testBit k)) (nT ns):Nat):Int):=by
  show Ys ?_ () λi=>?_
  ·show TN (.inl ())
  ·rw[Q0,G_,agx,vb,vb,vb,vb];unfold jq;rw[cS,cS]
   cases decide (i < nT ns) <;> simp
 rw[g,ly,ly,iC];congr 1;apply cp;intro i;unfold jq Iq;rw[de,di,di,cS,cS,cS]
 cases decide (i < nT ns) <;> cases b.testBit i <;> cases o.testBit i <;> simp
abbrev afY(a:Ad):Sp:=λvs H Q _=>X6 λ(p dx:aW) (fs:List (bV×V)) (ns:List Nd) (b o:Nat)=>vs=[.ref p,.int (b:Nat),.int (o:Nat)]/\H p=some (.ins a.bA dx fs)/\fs.lookup ("untils" :bV)=some (.int (jq ns .De:Nat))/\fs.lookup ("unlesses" :bV)=some (.int (jq ns .unless:Nat))/\Q (.int (Iq ns b o:Nat)) H
def A_(T:Tx P w K mg a):gu P w K mg base pS 1 a.m9 a.mK m6 (afY a):=by
 show T.BJ.ok sx (λvs H Q E h=>?_) (λj A outer s H vs Q E B h=>?_)
 ·nofun
 ·let(p,dx,fs,ns,b,o,rfl,g,l1,l2,k):=h;have z:=sx.nd;show(_,(bh (cE (cY Bu (cY nQ (cY nQ (pv 1) (pv 2)) (bN (pv 0) rfl)) (cY nQ (bN (pv 0) rfl) (Jk YI (cY Bu (pv 1) (pv 2))))))),?_);simp![↓bS g T.bI T.mT l1,↓bS g T.bI T.lK l2];rw[T9];show k
abbrev aeU(a:Ad):Sp:=λvs H Q _=>X10 λ(p dx:aW) (fs:List (bV×V)) (t:aW) (full:Nat) (Tb:List Nat) (g:Kd) (l r:Nat) (told:Bool)=>vs=[.ref p,.str (wa g),.int (l:Nat),.int (r:Nat),.int (told.toNat:Nat)]/\H p=some (.ins a.bA dx fs)/\fs.lookup ("full" :bV)=some (.int (full:Nat))/\fs.lookup ("tables" :bV)=some (.ref t)/\H t=some (.lst (nats Tb))/\l < ↑Tb/\r < ↑Tb/\
 Q (.int (O6 g full (Tb.getD l 0) (Tb.getD r 0) told:Nat)) H
def yj(T:Tx P w K mg a):gu P w K mg base pS 1 a.lz a.kz k_ (aeU a):=by
 show T.yB.ok pG (λvs H Q E h=>?_) (λB A outer s H vs Q E M h=>?_)
 ·nofun
 ·let(p,dx,fs,t,full,Tb,N,l,r,told,rfl,z,l1,l2,j,D,g,k):=h;have J:=pG.nd
  show(_,(aU (eG (cx iU (pv 1) (iq (by rfl) T.Ux) (dk _)) (bh (cE (cY Ms (bN (pv 0) rfl) (pv 4)))) dG)
   (aU (eG (cx iU (pv 4) bU (dk _)) (bh (cE (dQ cC (bN (pv 0) rfl) (pv 3) (λ_ _=>rfl)))) dG)
   (bh (cE (cY Bu (dQ cC (bN (pv 0) rfl) (pv 3) (λ_ _=>rfl)) (dQ cC (bN (pv 0) rfl) (pv 2) (λ_ _=>rfl))))))),?_)
  simp![↓bS z T.bI T.jo l1,↓bS z T.bI T.fE l2,Fl];unfold O6 at k;show kg (λh=>?_) (λh=>?_)
  ·rw[h9 h] at k;show(?_,by rw[sV] at k;show k);show .inr (by cases told <;> decide)
  ·rw[h8 h] at k
   cases told with
   |false=>
    rw[h9 rfl] at k;rw[h9 (by rfl)];show(_,dg.of j,_,hZ g,k)
   |true=>
    rw[h8 (by decide)] at k;rw[h8 (by decide)];show(_,dg.of j,_,hZ g,_,dg.of j,_,hZ D,?_);change Q (.int (jG _ _)) H;rw[iC];show k
abbrev aip(a:Ad):Sp:=λvs H Q _=>X7 λ(p dx n g:aW) (fs:List (bV×V)) (ns:List Nd) (j:Kd)=>vs=[.ref p,.str (wa j)]/\H p=some (.ins a.bA dx fs)/\fs.lookup ("nodes" :bV)=some (.ref n)/\fs.lookup ("times" :bV)=some (.ref g)/\(∃ts:List aW,H n=some (.lst (ts.map V.ref))/\Paired (E7 H) ts ns)/\H g=some (.lst (nats (fN ns)))/\nT ns<=100/\
 ∀H',bK H H'->Q (.int (jq ns j:Nat)) H'
abbrev afV(H:Hp)(p:aW)(g:Kd)(ns:List Nd)(i:Nat)(σ:L2.St)(H':Hp):Prop:=∃(j z:Option V),σ=[some (.ref p),some (.str (wa g)),some (.int (bitsOf (λk=>decide (kindAt ns (DS ns k)=g)) i:Nat)),j,z]/\bK H H'
def Nv(h:(fN ns)[i]? =some p):∃nd,ns[p]? =some nd/\nd.k.eX=true/\DS ns i=p/\kindAt ns (DS ns i)=nd.k:=by
 let(nd,h1,h2):=qx.mp (bJ h);have e:DS ns i=p:=by unfold DS;rw[eh h]
 show(nd,h1,h2,e,by rw[e,kX h1])
def si(T:Tx P w K mg a):gu P w K mg base pS 1 a.mX a.mI m_ (aip a):=by
 show T.Bj.ok sh (λvs H Q E h=>?_) (λU A outer s H vs Q E hr h=>?_)
 ·nofun
 ·let(p,dx,n,Y,fs,ns,z,rfl,N,l1,l2,(ts,Z,B),g,ah,k):=h;have ar:=sh.nd
  show(_,(aU (c9 2 bU)
   (aU (jO b8 rfl (Fs (by rfl) T.uw (aR (bN (pv 0) rfl) br)) (jw (n:=2) rfl (ck (b6 3) (ck (b6 4) g8))) (bh (eG (cx iU (dQ M8 (dQ cC (bN (pv 0) rfl) (pv 4) (λ_ _=>rfl)) bU (λ_ _=>rfl)) (pv 1) (dk _)) (bh (CP 2 (cY l7 bU (pv 3)) OU)) dG)))
   (bh (cE (pv 2))))),?_)
  dsimp! []
  simp_all! [↓bS N T.bI T.i0 l2]
  show((_,dg.of g),?_);show Ir (xs:=nats (fN ns)) (afV H p z ns) (none,none,rfl,same_refl H) (λi σ H' _ (_,_,_,s')=>dg.of (s' _ _ g)) ?_ ?_
  ·rintro i x σ H' tt hx ⟨v3,v4,rfl,s'⟩ D;let(q,O,rfl):=iT hx;have hi:i < nT ns:=(aX.mp O).1;let(nd,J,_,_,hk):=Nv O;let(b,hb,M):=jK B J;have j:bK H (upd H' tt (.tup [.int (i:Nat),.int (q:Nat)])):=bp s' (same_none s' D);simp![];show(_,qH.of aV,rfl,?_);simp![↓bS (j _ _ N) T.bI T.i8 l1];show(_,dg.of (j _ _ Z),_,xm hb,_,qH.of (j _ _ M),_,rfl,?_);have e:=Lb (λk=>decide (kindAt ns (DS ns k)=z)) i;have ek:(wa nd.k=wa z)=(nd.k=z):=propext (oy,λh=>by rw[h]);simp![ek];simp only[hk] at e;show kg (λh=>?_) (λh=>?_)
   ·rw[decide_eq_true h] at e;have e1:(1:Int)*2^(i:Int).toNat=((true.toNat*2^i:Nat):Int):=by rw[bP,uB];simp
    rw[e1,iC,e];show(((),by rw[show cD 1=1 from rfl];lia),_,_,rfl,j)
   ·rw[decide_eq_false h] at e;simp only[KY,Nat.zero_mul,Nat.or_zero] at e;show(_,_,by rw[e],j)
  ·rintro σ H' ⟨v3,v4,rfl,s'⟩;rw[aQ];subst hu';simp![];show k H' s'
abbrev LC(ns:List Nd)(i:Nat):Nat:=↑(((iW ns).take i).filter λp=>(kindAt ns p).eX)
def Ya(h:(iW ns)[i]? =some p):LC ns (i+1)=LC ns i+if (kindAt ns p).eX=true then 1 else 0:=by
 unfold LC;rw[take_snoc h,hJ,aY,cP]
 cases(kindAt ns p).eX <;> simp
def RS(ok:Ok ns)(j:p < ↑ns)(h:(kindAt ns p).eX=true):f_ ns p=true:=by
 obtain⟨nd,g⟩:∃nd,ns[p]? =some nd:=(_,aS j);rw[kX g] at h;rw[Nm ok g,h];rfl
def aap(ok:Ok ns)(h:(iW ns)[i]? =some p)(z:(kindAt ns p).eX=true):(fN ns).idxOf p=LC ns i:=by
 have B:p < ↑ns:=by have:=h;unfold iW at this;show(vS this).2.1
 have D:(iW ns).take i=(du p).filter λp=>f_ ns p:=by have:=h;unfold iW at this ⊢;show(vS this).1
 have J:p∈fN ns:=by unfold fN;rw[c8,eY];show(B,z)
 have g:=gP.mpr J;have M:(fN ns)[(fN ns).idxOf p]? =some p:=by rw[aS g,oq g]
 have N:(fN ns).take ((fN ns).idxOf p)=(du p).filter λp=>(kindAt ns p).eX:=by
  have:=M;generalize (fN ns).idxOf p=j at this ⊢;unfold fN at this ⊢;show(vS this).1
 have O:((iW ns).take i).filter (λp=>(kindAt ns p).eX)=(du p).filter λp=>(kindAt ns p).eX:=by
  rw[D,List.filter_filter];apply JM;intro q Q;rw[eY] at Q
  cases e:(kindAt ns q).eX with
  |false=>rfl
  |true=>rw[RS ok () e];rfl
 unfold LC;rw[O,←N,cK];lia
def aaB(n:Nat):dZ ((n:Nat):Int) 1=(((n.testBit 0).toNat:Nat):Int):=by
 have g:=nI n 0;simp only[bP,Rn,Rq,Rr,K0,NU] at g;show g
abbrev adC(a:Ad):Sp:=λvs H Q _=>X13 λ(p dx n lt t tm j:aW) (ns:List Nd) (full:Nat) (Tb:List Nat) (LT X:Nat->Nat) (o:Nat)=>vs=[.ref p,.int (o:Nat)]/\zH a H p dx n lt t tm j ns full Tb LT/\Ok ns/\↑ns<=100000/\Plain ns full LT X/\(∀(p:Nat) (nd:Nd),ns[p]? =some nd->nd.k.eX=true->X p=O6 nd.k full (X nd.l) (X nd.r) (oP ns o p))/\(∀p,p < ↑ns->f_ ns p=false->Tb.getD p 0=X p)/\
 ∀H' g,bK (er [t] H) H'->H' t=some (.lst (nats g))->↑g=↑ns->(∀p,p < ↑ns->g.getD p 0=X p)->Q .vI H'
abbrev ahi(H:Hp)(p t:aW)(o:Nat)(ns:List Nd)(X:Nat->Nat)(i:Nat)(σ:L2.St)(H':Hp):Prop:=X5 λ(v2 g j z:Option V) (Tb:List Nat)=>σ=[some (.ref p),some (.int (o / 2^LC ns i:Nat)),v2,g,j,z]/\bK (er [t] H) H'/\H' t=some (.lst (nats Tb))/\Done ns X Tb i
def vG(T:Tx P w K mg a):gu P w K mg base pS 2 a.qf a.pw pO (adC a):=by
 show T.E3.ok vD (λvs H Q E h=>?_) (λcL A outer s H vs Q E hr h=>?_)
 ·nofun
 ·let(p,dx,n,lt,t,tm,ah,ns,full,Tb,LT,X,o,rfl,hO,gV,c0,hX,b1,b2,k):=h;have c1:=vD.nd
  show(_,(bh (jO b8 rfl (jE (bN (pv 0) rfl)) (b6 2) (aU (jN (dQ cC (bN (pv 0) rfl) (pv 2) (λ_ _=>rfl)) (jw (n:=3) rfl (ck (b6 3) (ck (b6 4) (ck (b6 5) g8)))))
   (bh (eG (cx oQ (pv 3) (iZ (v:= .ref a.FF) (by rfl) T.Ma rfl) (by rfl)) (aU (jN (dI (pv 0) T.bI T.yD (yj T) (hr.mono (by decide)) T.y8 .nil cN (aR (pv 3) (aR (pv 4) (aR (pv 5) (aR (cY nQ (pv 1) bU) br))))) (D3 (bN (pv 0) rfl) (pv 2) set_list))
   (bh (c9 1 (cY AG (pv 1) bU)))) (bh (dP (dI (pv 0) T.bI T.qd (mG T) (hr.mono (by decide)) T.mW .nil cN (aR (pv 2) br))))))))),?_)
  let(O,(ts,b3,Y),av,J,b4,Z,b5,aA,aE,cc):=id hO;have cm:p≠t:=λe=>by rw[e,J] at O;cases O
  have l1:(M7 n lt full t tm ah ns).lookup ("nodes" :bV)=some (.ref n):=rfl;have l2:(M7 n lt full t tm ah ns).lookup ("tables" :bV)=some (.ref t):=rfl;have l3:(M7 n lt full t tm ah ns).lookup ("timed" :bV)=some (.ref tm):=rfl;simp![↓bS O T.bI T.uH l3];show((_,dg.of Z),?_);show lr (xs:=nats (iW ns)) (ahi H p t o ns X) (none,none,none,none,Tb,by simp[LC],cq,J,b4,λp hp hh=>b2 p hp (hh.resolve_right ⋯)) (λi σ H' _ (_,_,_,_,_,_,s',_)=>dg.of (cb s' (by simp[aE.symm]) Z)) ?_ ?_
  ·rintro i x σ H' hx ⟨v2,v3,v4,v5,j,rfl,s',M,N⟩;let(q,B,rfl):=iT hx;have bk:q < ↑ns:=by have:=B;unfold iW at this;show(vS this).2.1
   obtain⟨nd,g⟩:∃nd,ns[q]? =some nd:=(_,aS bk);have g1:=λhl=>Done.left gV N B g hl;have bl:=cb s' (by simp[aA.symm]) b3;have D:=cb s' (by simp[cm]) O;let(b,hb,ar):=jK Y g;have ct:b≠t:=λe=>by rw[e] at ar;have h2:H t=_:=ar;rw[J] at h2;cases h2
   have cy:H' b=_:=cb s' (by simp[ct]) ar;have U:=Ya B;rw[kX g] at U;dsimp! [↓bS D T.bI T.i8 l1];show(_,dg.of bl,_,xm hb,_,rfl,_,qH.of cy,rfl,?_);simp![];subst hu'
   have bt:Ny H' lt (ka ns) LT:=by
    let(kvs,g1,g2):=av;show(kvs,cb s' (by simp[eV g1 J (by intro z;cases z)]) g1,g2)
   have bx:Paired (E7 H') ts ns:=L2.Paired.jh Y λb m hb=>cb s' (by simp[eV hb J (by intro z;cases z)]) hb;simp![];show(_,.inr (T.Fv _),rfl,rfl,?_);rw[Bz];show kg (λe2=>?_) (λe2=>?_)
   ·have f:=b1 q nd g e2;have cA:=aap gV B (by rw[kX g];show e2);let(g1,g2,g3,g4):=g1 (by revert e2;cases nd.k <;> simp[Kd.eX,Kd.leaf]);rw[h9 e2] at U
    have ez:dZ ((o / 2^LC ns i:Nat):Int) 1=(((oP ns o q).toNat:Nat):Int):=by
     rw[aaB,BV];unfold oP;rw[cA,gF]
    have es:((o / 2^LC ns i:Nat):Int) / 2^(1:Int).toNat=((o / 2^LC ns (i+1):Nat):Int):=by
     rw[U,qB,←Nat.div_div_eq_div_mul];simp
    rw[ez];show((_,_,D,rfl),p,_,_,t,full,j,nd.k,nd.l,nd.r,oP ns o q,rfl,D,rfl,rfl,M,by rw[N.1];show g3,by rw[N.1];show g4,?_);simp![↓bS D T.bI T.fE l2];show(_,M,q,Hn (by rw[aQ,N.1];show bk),by decide,?_);rw[es,g1,g2,←f,EY];show(_,_,_,_,_,rfl,dj s' ⋯,aV,N.next B)
   ·have e3:nd.k.eX=false:=by simpa using e2
    have b0:LC ns (i+1)=LC ns i:=by rw[U,h8 e2];rfl
    show((_,_,D,rfl),p,_,_,_,n,lt,t,ns,full,j,LT,q,nd,rfl,(D,.inr rfl,rfl,rfl,rfl,rfl,(ts,bl,bx),bt,M,N.1,aA),gV,g,e3,?_);show(_,_,_,_,_,by rw[b0],dj s' ⋯,aV,?_)
    have ez:plainT nd.k full (LT nd.l) (j.getD nd.l 0) (j.getD nd.r 0)=X q:=by
     rw[hX q nd g e3];show IW λhl=>((g1 hl).1,(g1 hl).2.1)
    rw[ez];show N.next B
  ·rintro σ H' ⟨v2,v3,v4,v5,j,rfl,s',M,N⟩;rw[aQ] at N;show k H' j s' M N.1 λp hp=>N.all hp
abbrev ag6(a:Ad):Sp:=λvs H Q _=>X11 λ(p dx n lt t tm g:aW) (ns:List Nd) (full:Nat) (Tb:List Nat) (LT:Nat->Nat)=>vs=[.ref p]/\zH a H p dx n lt t tm g ns full Tb LT/\Ok ns/\nT ns<=100/\
 ∀H' f,bK H H'->H f=none->H' f=some (.lst (nats (vA ns Tb)))->Q (.ref f) H'
abbrev afR(a:Ad):Sp:=λvs H Q _=>X11 λ(p dx n lt t tm g:aW) (ns:List Nd) (full:Nat) (Tb:List Nat) (LT:Nat->Nat)=>vs=[.ref p]/\zH a H p dx n lt t tm g ns full Tb LT/\Ok ns/\nT ns<=100/\
 ∀H' f,bK H H'->H f=none->H' f=some (.lst (nats (vC ns full Tb)))->Q (.ref f) H'
abbrev VQ(H:Hp)(p f:aW)(xs:List Nat)(i:Nat)(σ:L2.St)(H':Hp):Prop:=X4 λ(v2 g j z:Option V)=>σ=[some (.ref p),some (.ref f),v2,g,j,z]/\bK H H'/\H' f=some (.lst (nats (xs.take i)))
def nc(T:Tx P w K mg a):gu P w K mg base pS 1 a.jL a.jv jR (ag6 a):=by
 show T.wL.ok m8 (λvs H Q E h=>?_) (λbk A outer s H vs Q E hr h=>?_)
 ·nofun
 ·let(p,dx,n,lt,t,tm,D,ns,full,Tb,LT,rfl,hO,gV,bl,k):=h;have bt:=m8.nd
  show(_,(aU (c9 1 (gS br))
   (aU (jO b8 rfl (jE (bN (pv 0) rfl)) (b6 2) (aU (jN (dQ cC (bN (pv 0) rfl) (pv 2) (λ_ _=>rfl)) (jw (n:=3) rfl (ck (b6 3) (ck (b6 4) (ck (b6 5) g8)))))
   (bh (dP (lu bu bH bG d7 (pv 1) (aR (dQ cC (bN (pv 0) rfl) (IF (cx iU (pv 3) (iq (by rfl) T.Ux) (dk _)) (pv 4) (pv 2)) (λ_ _=>rfl)) br))))))
   (bh (cE (pv 1))))),?_)
  let(M,(ts,U,N),av,O,bx,aA,g,b0,aE,Y):=id hO;have l1:(M7 n lt full t tm D ns).lookup ("nodes" :bV)=some (.ref n):=rfl;have l2:(M7 n lt full t tm D ns).lookup ("tables" :bV)=some (.ref t):=rfl;have l3:(M7 n lt full t tm D ns).lookup ("times" :bV)=some (.ref D):=rfl;dsimp! [];show(by decide,λf Z=>?_);subst hu';show jM λu' hu'=>?_;have s1:bK H (upd H f (.lst [])):=bp (same_refl H) Z;simp![↓bS (s1 _ _ M) T.bI T.i0 l3];show((_,dg.of (s1 _ _ g)),?_);show lr (xs:=nats (fN ns)) (VQ H p f (vA ns Tb)) (none,none,none,none,rfl,s1,aV) (λi σ H' _ (_,_,_,_,_,s',_)=>dg.of (s' _ _ g)) ?_ ?_
  ·rintro i x σ H' hx ⟨v2,v3,v4,v5,rfl,s',j⟩;let(q,hq,rfl):=iT hx;have hi:i < nT ns:=(aX.mp hq).1;let(nd,B,ah,_,hk):=Nv hq;have b1:q < ↑ns:=(aX.mp B).1;let(b,hb,ar):=jK N B;have b2:=gV.inner q nd B (by revert ah;cases nd.k <;> simp[Kd.eX,Kd.leaf])
   have J:(vA ns Tb)[i]? =some (Tb.getD (if nd.k= .next then nd.l else q) 0):=by
    unfold vA;rw[dA,hq];change some (Tb.getD (if kindAt ns q=Kd.next then(ns.getD q (.never,0,0)).l else q) 0)=_;rw[kX B,eh B]
   dsimp! [↓bS (s' _ _ M) T.bI T.i8 l1];show(_,dg.of (s' _ _ U),_,xm hb,_,rfl,_,qH.of (s' _ _ ar),rfl,?_);simp![];subst hu';simp![↓bS (s' _ _ M) T.bI T.fE l2,Fl]
   have fin:∀z:Nat,(vA ns Tb)[i]? =some z->∃x,H' f=some (.lst x)/\↑x < sizeLine/\VQ H p f (vA ns Tb) (i+1) [some (.ref p),some (.ref f),some (.int (q:Nat)),some (.str (wa nd.k)),some (.int (nd.l:Nat)),some (.int (nd.r:Nat))] (upd H' f (.lst (x++[.int (z:Nat)]))):=λz hz=>by
    show(_,j,by rw[aQ,cK];show df (),_,_,_,_,rfl,bp s' Z,?_);rw[aV,take_snoc hz];unfold nats;rw[bD];rfl
   show(.inl (_,dg.of j),kg (λh=>?_) (λh=>?_))
   ·rw[h9 h] at J;show(_,dg.of (s' _ _ O),_,hZ (),fin _ J)
   ·rw[h8 h] at J;show(_,dg.of (s' _ _ O),_,hZ (),fin _ J)
  ·rintro σ H' ⟨v2,v3,v4,v5,rfl,s',j⟩;subst hu';simp![];rw[aQ,vy (by unfold vA;rw[aQ];show aT _)] at j;show k H' f s' Z j
def mO(T:Tx P w K mg a):gu P w K mg base pS 1 a.jx a.ji jt (afR a):=by
 show T.vP.ok mN (λvs H Q E h=>?_) (λbk A outer s H vs Q E hr h=>?_)
 ·nofun
 ·let(p,dx,n,lt,t,tm,B,ns,full,Tb,LT,rfl,hO,gV,bl,k):=h;have bt:=mN.nd
  show(_,(aU (c9 1 (gS br))
   (aU (jO b8 rfl (jE (bN (pv 0) rfl)) (b6 2) (aU (jN (dQ cC (bN (pv 0) rfl) (pv 2) (λ_ _=>rfl)) (jw (n:=3) rfl (ck (b6 3) (ck (b6 4) (ck (b6 5) g8)))))
   (bh (eG (cx iU (pv 3) (iq (by rfl) T.Mh) (dk _)) (bh (dP (lu bu bH bG d7 (pv 1) (aR (cY Bu (cY E4 (bN (pv 0) rfl) (dQ cC (bN (pv 0) rfl) (pv 2) (λ_ _=>rfl))) (dQ cC (bN (pv 0) rfl) (pv 5) (λ_ _=>rfl))) br)))) (bh (eG (cx iU (pv 3) (iq (by rfl) T.Jp) (dk _)) (bh (dP (lu bu bH bG d7 (pv 1) (aR (cY Bu (dQ cC (bN (pv 0) rfl) (pv 2) (λ_ _=>rfl)) (cY E4 (bN (pv 0) rfl) (dQ cC (bN (pv 0) rfl) (pv 4) (λ_ _=>rfl)))) br)))) (bh (dP (lu bu bH bG d7 (pv 1) (aR bU br))))))))))
   (bh (cE (pv 1))))),?_)
  let(D,(ts,U,O),av,M,bx,aA,J,b0,aE,Y):=id hO;have l1:(M7 n lt full t tm B ns).lookup ("nodes" :bV)=some (.ref n):=rfl;have l2:(M7 n lt full t tm B ns).lookup ("tables" :bV)=some (.ref t):=rfl;have l4:(M7 n lt full t tm B ns).lookup ("full" :bV)=some (.int (full:Nat)):=rfl;have l3:(M7 n lt full t tm B ns).lookup ("times" :bV)=some (.ref B):=rfl;dsimp! [];show(by decide,λf Z=>?_);subst hu';show jM λu' hu'=>?_;have s1:bK H (upd H f (.lst [])):=bp (same_refl H) Z;simp![↓bS (s1 _ _ D) T.bI T.i0 l3];show((_,dg.of (s1 _ _ J)),?_);show lr (xs:=nats (fN ns)) (VQ H p f (vC ns full Tb)) (none,none,none,none,rfl,s1,aV) (λi σ H' _ (_,_,_,_,_,s',_)=>dg.of (s' _ _ J)) ?_ ?_
  ·rintro i x σ H' hx ⟨v2,v3,v4,v5,rfl,s',j⟩;let(q,hq,rfl):=iT hx;have hi:i < nT ns:=(aX.mp hq).1;let(nd,N,ah,_,hk):=Nv hq;have b1:q < ↑ns:=(aX.mp N).1;let(b,hb,ar):=jK O N;have b2:=gV.inner q nd N (by revert ah;cases nd.k <;> simp[Kd.eX,Kd.leaf])
   have g:(vC ns full Tb)[i]? =some (W5 nd full Tb q):=by
    unfold vC;rw[dA,hq];change some (W5 (ns.getD q (.never,0,0)) full Tb q)=_;rw[eh N]
   unfold W5 at g;dsimp! [↓bS (s' _ _ D) T.bI T.i8 l1];show(_,dg.of (s' _ _ U),_,xm hb,_,rfl,_,qH.of (s' _ _ ar),rfl,?_);simp![];subst hu';simp![↓bS (s' _ _ D) T.bI T.fE l2,↓bS (s' _ _ D) T.bI T.jo l4,T4,ae1]
   have fin:∀z:Nat,(vC ns full Tb)[i]? =some z->∃x,H' f=some (.lst x)/\↑x < sizeLine/\VQ H p f (vC ns full Tb) (i+1) [some (.ref p),some (.ref f),some (.int (q:Nat)),some (.str (wa nd.k)),some (.int (nd.l:Nat)),some (.int (nd.r:Nat))] (upd H' f (.lst (x++[.int (z:Nat)]))):=λz hz=>by
    show(_,j,by rw[aQ,cK];show df (),_,_,_,_,rfl,bp s' Z,?_);rw[aV,take_snoc hz];unfold nats;rw[bD];rfl
   show kg (λh=>?_) (λh=>?_)
   ·rw[h9 h] at g;show(.inl (_,dg.of j),_,dg.of (s' _ _ M),_,hZ (xs:=Tb) (),?_);simp![↓bS (s' _ _ D) T.bI T.fE l2];show(_,dg.of (s' _ _ M),_,hZ (xs:=Tb) (),?_);simp![];rw[nL,iC];show fin _ g
   ·rw[h8 h] at g;show kg (λh=>?_) (λh=>?_)
    ·rw[h9 h] at g;show(.inl (_,dg.of j),_,dg.of (s' _ _ M),_,hZ (xs:=Tb) (),_,dg.of (s' _ _ M),_,hZ (xs:=Tb) (),?_);simp![];rw[nL,iC];show fin _ g
    ·rw[h8 h] at g;show(.inl (_,dg.of j),fin _ g)
  ·rintro σ H' ⟨v2,v3,v4,v5,rfl,s',j⟩;subst hu';simp![];rw[aQ,vy (by unfold vC;rw[aQ];show aT _)] at j;show k H' f s' Z j
structure Tx2(P:fm)(w:e_)(K:bj)(mg:bV->Option bM)(a:Ad):Prop extends Tx P w K mg a where
 CA:Zp K a.fO "__init__" a.lD
abbrev Yh(a:Ad):Sp:=λvs H Q _=>X11 λ(p dx q lt n d h:aW) (ns:List Nd) (full:Nat) (LT X:Nat->Nat)=>vs=[.ref p,.ref q,.ref lt,.int (full:Nat)]/\H p=some (.ins a.bA dx [])/\oR a.cF H q n d h ns/\Ok ns/\↑ns<=100000/\nT ns<=100/\Ny H lt (ka ns) LT/\Plain ns full LT X/\
 ∀H' t tm g Tb,zH a H' p dx n lt t tm g ns full Tb LT->(∀p,p < ↑ns->f_ ns p=false->Tb.getD p 0=X p)->bK (er [p] H) H'->H t=none->Q .vI H'
abbrev ahD(H:Hp)(D:aW)(ns:List Nd)(i:Nat)(H':Hp):Prop:=bK H H'/\H' D=some (.lst (nats ((du i).filter λp=>(kindAt ns p).eX)))
def aaK(ns:List Nd):jq ns .De ||| jq ns .unless=fY ns:=by
 apply cp;intro i;unfold jq fY;rw[de,cS,cS,cS]
 cases decide (i < nT ns) <;> cases kindAt ns (DS ns i) <;> rfl
def qG(T:Tx2 P w K mg a):gu P w K mg base pS 3 a.mw a.lT mE (Yh a):=by
 show T.AS.ok lN (λvs H Q E h=>?_) (λd0 A outer s H vs Q E hr h=>?_)
 ·nofun
 ·let(p,dx,q,lt,n,d,h,ns,full,LT,X,rfl,hp,hF,gV,c6,b4,hL,hX,k):=h;have d1:=lN.nd
  show(_,(aU (dP (Z0 T.CA (iZ (v:= .ref a.fO) (by rfl) T.Jn rfl) (vc T.toTx) (hr.mono (by decide)) T.vF .nil cN (aR (pv 0) (aR (pv 1) (aR (pv 2) (aR (pv 3) br))))))
   (aU (fF (pv 0) (OT (own:=[("place",4,),("node",5,)]) rfl lN.nd (Fs (by rfl) T.uw (aR (bN (pv 1) rfl) br)) (sg (by rfl)) (λ_ _ _ _ _=>(Vb (K:=K) (n:=2) rfl rfl (ck (b6 4) (ck (b6 5) g8)))) (λ_ _ _ _ _=>(L4 (cx (Nw (K:=K) rfl) (dQ (Qy (K:=K) rfl) (pv 5) bU (λ_ _=>rfl)) (iZ (v:= .ref a.FF) (by rfl) T.Ma rfl) (by rfl)))) (λ_ _ _ _ _=>(pv 4))) rfl)
   (aU (fF (pv 0) (cY l7 bU (ig ee (by rfl) T.r_ dO (aR (bN (pv 0) rfl) br))) rfl)
   (aU (fF (pv 0) (dI (pv 0) T.bI T.uv (si T.toTx) (hr.mono (by decide)) T.ux .nil cN (aR (iq (by rfl) T.Mh) br)) rfl)
   (aU (fF (pv 0) (dI (pv 0) T.bI T.uv (si T.toTx) (hr.mono (by decide)) T.ux .nil cN (aR (iq (by rfl) T.Jp) br)) rfl)
   (bh (fF (pv 0) (cY Bu (bN (pv 0) rfl) (bN (pv 0) rfl)) rfl))))))),?_)
  let((dq,hq),(ts,hn,b5),hd,hh,d2):=id hF
  have dc:q≠p:=λe=>by
   rw[e,hp] at hq;have e1:=HO.ins.inj (bQ hq);have:=e1.2.2
   cases this
  have cc:n≠p:=eV hn hp (by intro z;cases z);dsimp! [];show(p,a.bA,dx,q,lt,n,d,h,ns,full,LT,X,rfl,hp,.inr rfl,hF,gV,c6,hL,hX,λH1 t tm Tb U Y dd dh D cm s1 ct dV=>?_);subst hu';have dn:=cb s1 (by simp[dc]) hq;have av:=cb s1 (by simp[cc]) hn;have ar:Paired (E7 H1) ts ns:=L2.Paired.jh b5 λb m hb=>cb s1 (by simp[eV hb hp (by intro z;cases z)]) hb;have cy:↑ts=↑ns:=bT b5;dsimp! [↓bS dn T.cR T.ip vU];show((_,dg.of av),?_);intro g J;show Va (xs:=ts.map V.ref) (ahD H1 g ns) (bp (same_refl H1) J,by rw[aV];rfl) (λi H' _ h=>dg.of (h.1 _ _ av)) ?_ ?_
  ·rintro i x H' tt hx ⟨O,j⟩ cA;let(b,hb,rfl):=iT hx;have hi:=(aX.mp hb).1;let(nd,dp,dr):=eJ ar hb;have cL:g≠tt:=bb j cA;have s3:bK H1 (upd H' tt (.tup [.int (i:Nat),.ref b])):=bp O (same_none O cA);simp![];show(_,qH.of aV,rfl,?_);simp![];show(_,qH.of (s3 _ _ dr),_,rfl,?_);show(_,.inr (T.Fv _),rfl,rfl,?_);rw[Bz];have c0:=kX dp;show kg (λe2=>?_) (λe2=>?_)
   ·show(_,by rw[bc cL];show j,?_,bp s3 J,?_)
    ·rw[aQ];show fU (Di _ _) (df ())
    ·rw[aV,pH,h9 (by rw[c0];show e2)];unfold nats;rw[bD];rfl
   ·show(s3,?_);rw[bc cL,j,pH,h8 (by rw[c0];show e2),fL]
  ·rintro H2 ⟨O,j⟩;rw[aQ,cy] at j;have aA:=O _ _ U;simp![aA,T.bI,T.i0];show(by change 5 < 1000;decide,?_);subst hu';have aE:p≠g:=λe=>by rw[e,j] at aA;cases aA
   have hlen:↑(fN ns)=nT ns:=rfl
   have fa:∀(fs:List (bV×V)) (H':Hp),H' p=some (.ins a.bA dx fs)->bK (er [p] H2) H'->(fs.lookup ("nodes" :bV)=some (.ref n)/\fs.lookup ("times" :bV)=some (.ref g))->H' g=some (.lst (nats (fN ns)))/\∃ts:List aW,H' n=some (.lst (ts.map V.ref))/\Paired (E7 H') ts ns:=λfs H' h1 h2 h3=>
    (cb h2 (by simp[aE.symm]) j,ts,cb h2 (by simp[cc]) (O _ _ av),L2.Paired.jh ar λb m hb=>cb h2 (by simp[eV hb U (by intro z;cases z)]) (O _ _ hb))
   have Z:upd H2 p (.ins a.bA dx (bC "times" (.ref g) (J5 n lt full t tm))) p=some (.ins a.bA dx (bC "times" (.ref g) (J5 n lt full t tm))):=aV;have bk:bK (er [p] H2) (upd H2 p (.ins a.bA dx (bC "times" (.ref g) (J5 n lt full t tm)))):=dj cq ⋯;generalize upd H2 p (.ins a.bA dx (bC "times" (.ref g) (J5 n lt full t tm)))=H3 at Z bk ⊢;let(bl,_):=fa _ H3 Z bk (rfl,rfl);dsimp! [↓bS Z T.bI T.i0 (show(bC "times" (.ref g) (J5 n lt full t tm)).lookup ("times" :bV)=some (.ref g) from rfl)];show(_,.inl (dg.of bl),?_);rw[aQ,hlen];have e1:(1:Int)*2^((nT ns:Nat):Int).toNat=((2^nT ns:Nat):Int):=by rw[bP,uB];simp
   rw[e1];show(((),by rw[show cD 1=1 from rfl];lia),zV Z (T.bI,T.jk,by change 6 < 1000;decide,?_));subst hu';have M:upd H3 p (.ins a.bA dx (bC "outlooks" (.int (2^nT ns:Nat)) (bC "times" (.ref g) (J5 n lt full t tm)))) p=some (.ins a.bA dx (bC "outlooks" (.int (2^nT ns:Nat)) (bC "times" (.ref g) (J5 n lt full t tm)))):=aV;have bt:bK (er [p] H2) (upd H3 p (.ins a.bA dx (bC "outlooks" (.int (2^nT ns:Nat)) (bC "times" (.ref g) (J5 n lt full t tm))))):=dj bk ⋯;generalize upd H3 p (.ins a.bA dx (bC "outlooks" (.int (2^nT ns:Nat)) (bC "times" (.ref g) (J5 n lt full t tm))))=H4 at M bt ⊢;let(bx,dt):=fa _ H4 M bt (rfl,rfl);dsimp! [];show((_,_,M,rfl),p,dx,n,g,_,ns,.De,rfl,M,rfl,rfl,dt,bx,b4,λH5 c1=>?_);have dv:=c1 _ _ M;have dw:bK (er [p] H2) H5:=bK.trans bt c1;show zV dv (T.bI,T.mT,by change 7 < 1000;decide,?_);subst hu';have N:upd H5 p (.ins a.bA dx (bC "untils" (.int (jq ns .De:Nat)) (bC "outlooks" (.int (2^nT ns:Nat)) (bC "times" (.ref g) (J5 n lt full t tm))))) p=some (.ins a.bA dx (bC "untils" (.int (jq ns .De:Nat)) (bC "outlooks" (.int (2^nT ns:Nat)) (bC "times" (.ref g) (J5 n lt full t tm))))):=aV;have b0:bK (er [p] H2) (upd H5 p (.ins a.bA dx (bC "untils" (.int (jq ns .De:Nat)) (bC "outlooks" (.int (2^nT ns:Nat)) (bC "times" (.ref g) (J5 n lt full t tm)))))):=dj dw ⋯;generalize upd H5 p (.ins a.bA dx (bC "untils" (.int (jq ns .De:Nat)) (bC "outlooks" (.int (2^nT ns:Nat)) (bC "times" (.ref g) (J5 n lt full t tm)))))=H6 at N b0 ⊢;let(b1,dy):=fa _ H6 N b0 (rfl,rfl);dsimp! [];show((_,_,N,rfl),p,dx,n,g,_,ns,.unless,rfl,N,rfl,rfl,dy,b1,b4,λH7 c2=>?_);have dB:=c2 _ _ N;have dH:bK (er [p] H2) H7:=bK.trans b0 c2;show zV dB (T.bI,T.lK,by change 8 < 1000;decide,?_);subst hu';have ah:upd H7 p (.ins a.bA dx (bC "unlesses" (.int (jq ns .unless:Nat)) (bC "untils" (.int (jq ns .De:Nat)) (bC "outlooks" (.int (2^nT ns:Nat)) (bC "times" (.ref g) (J5 n lt full t tm)))))) p=some (.ins a.bA dx (bC "unlesses" (.int (jq ns .unless:Nat)) (bC "untils" (.int (jq ns .De:Nat)) (bC "outlooks" (.int (2^nT ns:Nat)) (bC "times" (.ref g) (J5 n lt full t tm)))))):=aV;have c3:bK (er [p] H2) (upd H7 p (.ins a.bA dx (bC "unlesses" (.int (jq ns .unless:Nat)) (bC "untils" (.int (jq ns .De:Nat)) (bC "outlooks" (.int (2^nT ns:Nat)) (bC "times" (.ref g) (J5 n lt full t tm))))))):=dj dH ⋯;generalize upd H7 p (.ins a.bA dx (bC "unlesses" (.int (jq ns .unless:Nat)) (bC "untils" (.int (jq ns .De:Nat)) (bC "outlooks" (.int (2^nT ns:Nat)) (bC "times" (.ref g) (J5 n lt full t tm))))))=H8 at ah c3 ⊢;simp![↓bS ah T.bI T.mT (show(bC "unlesses" (.int (jq ns .unless:Nat)) (bC "untils" (.int (jq ns .De:Nat)) (bC "outlooks" (.int (2^nT ns:Nat)) (bC "times" (.ref g) (J5 n lt full t tm))))).lookup ("untils" :bV)=some (.int (jq ns .De:Nat)) from rfl),↓bS ah T.bI T.lK (show(bC "unlesses" (.int (jq ns .unless:Nat)) (bC "untils" (.int (jq ns .De:Nat)) (bC "outlooks" (.int (2^nT ns:Nat)) (bC "times" (.ref g) (J5 n lt full t tm))))).lookup ("unlesses" :bV)=some (.int (jq ns .unless:Nat)) from rfl)];show zV ah (T.bI,T.jV,by change 9 < 1000;decide,?_);rw[iC,aaK];have b2:upd H8 p (.ins a.bA dx (bC "wishes" (.int (fY ns:Nat)) (bC "unlesses" (.int (jq ns .unless:Nat)) (bC "untils" (.int (jq ns .De:Nat)) (bC "outlooks" (.int (2^nT ns:Nat)) (bC "times" (.ref g) (J5 n lt full t tm))))))) p=some (.ins a.bA dx (M7 n lt full t tm g ns)):=by rw[aV];rfl
   have B:bK (er [p] H2) (upd H8 p (.ins a.bA dx (bC "wishes" (.int (fY ns:Nat)) (bC "unlesses" (.int (jq ns .unless:Nat)) (bC "untils" (.int (jq ns .De:Nat)) (bC "outlooks" (.int (2^nT ns:Nat)) (bC "times" (.ref g) (J5 n lt full t tm)))))))):=dj c3 ⋯;generalize upd H8 p (.ins a.bA dx (bC "wishes" (.int (fY ns:Nat)) (bC "unlesses" (.int (jq ns .unless:Nat)) (bC "untils" (.int (jq ns .De:Nat)) (bC "outlooks" (.int (2^nT ns:Nat)) (bC "times" (.ref g) (J5 n lt full t tm)))))))=H9 at b2 B ⊢;let(b3,dK):=fa _ H9 b2 B (rfl,rfl);have dT:t≠p:=λe=>by rw[e,U] at Y;cases Y
   have c4:tm≠p:=λe=>by rw[e,U] at D;cases D
   show k H9 t tm g Tb (b2,dK,?_,cb B (by simp[dT]) (O _ _ Y),dd,cb B (by simp[c4]) (O _ _ D),b3,(bb hn ct).symm,cm,bb Y J) dh ?_ ct
   ·let(kvs,g1,g2):=hL;have c5:lt≠p:=eV g1 hp (by intro z;cases z);show(kvs,cb B (by simp[c5]) (O _ _ (cb s1 (by simp[c5]) g1)),g2)
   ·intro b o e;let(e1,e2):=dE.mp e;show cb B e1 (O _ _ (s1 _ _ e))
abbrev agC:Sp:=λvs H Q _=>∃(c u:Int),vs=[.int c,.int u]/\Q (.bl (decide (0<=u/\u < c/\c<=4096))) H
def Dk(T:Tx P w K mg a):gu P w K mg base pS 1 a.yT a.xc y6 agC:=by
 show T.yV.ok C9 (λvs H Q E h=>?_) (λg A outer s H vs Q E z h=>?_)
 ·nofun
 ·let(c,u,rfl,k):=h;have j:=C9.nd;show(_,(bh (cE (Wm OA VZ OA bU (pv 1) (pv 0) (fb (by rfl) T.MD)))),?_);simp![]
  by_cases h1:0<=u
  ·rw[h9 h1]
   by_cases h2:u < c
   ·rw[h9 h2];have e:decide (0<=u/\u < c/\c<=4096)=decide (c<=4096):=by simp[h1,h2]
    rw[e] at k;show k
   ·rw[h8 h2];have e:decide (0<=u/\u < c/\c<=4096)=false:=by simp[h2]
    rw[e] at k;show k
  ·rw[h8 h1];have e:decide (0<=u/\u < c/\c<=4096)=false:=by simp[h1]
   rw[e] at k;show k
abbrev agw:Sp:=λvs H Q _=>∃(c:Nat),vs=[.int (c:Nat)]/\c<=100000/\∀H' l (bs:List aW),bK H H'->H l=none->H' l=some (.lst (bs.map V.ref))->↑bs=c->(∀b∈bs,H b=none/\b≠l/\H' b=some (.lst []))->bs.Nodup->Q (.ref l) H'
abbrev ag_(H:Hp)(D:aW)(i:Nat)(H':Hp):Prop:=∃bs:List aW,bK H H'/\H' D=some (.lst (bs.map V.ref))/\↑bs=i/\(∀b∈bs,H b=none/\b≠D/\H' b=some (.lst []))/\bs.Nodup
def ER(T:Tx P w K mg a):gu P w K mg base pS 1 a.An a.yZ AB agw:=by
 show T.AF.ok y_ (λvs H Q E h=>?_) (λah A outer s H vs Q E hr h=>?_)
 ·nofun
 ·let(c,rfl,U,k):=h;have ar:=y_.nd;show(_,(bh (cE (OT (own:=[("turn",1,)]) rfl y_.nd (BK (by rfl) T.Cq (aR (pv 0) br)) (sg (by rfl)) (λ_ _ _ _ _=>(b6 1)) (λ_ _ _ _ _=>Ft) (λ_ _ _ _ _=>(gS br))))),?_);simp![];show((),(),?_);intro D O;show Sh (ag_ H D) ([],bp (same_refl H) O,by rw[aV];rfl,rfl,(λb J=>nomatch J),nz) ?_ ?_
  ·rintro i H' hi ⟨bs,s',j,N,J,z⟩;simp![];show(by decide,λb g=>?_);have B:b≠D:=λe=>by rw[e,j] at g;cases g
   have M:H b=none:=same_none s' g;show(_,by rw[bc B.symm];show j,by rw[aQ];show df (),bs++[b],bp (bp s' M) O,by rw[aV,bD];rfl,by rw[aY,N];rfl,λc U=>?_,?_)
   ·rcases cj.mp U with h|h
    ·let(g1,Y,Z):=J c h;show(g1,Y,by rw[bc Y,bc (bb Z g)];show Z)
    ·rw[bz] at h;subst h;show(M,B,by rw[bc B,aV])
   ·rw[me];show(z,⋯,λx hx y hy e=>?_);rw[bz] at hy;subst hy;subst e;have:=(J x hx).2.2;rw[g] at this;cases this
  ·rintro H' ⟨bs,s',j,N,J,z⟩;rw[bP] at N;show k H' D bs s' O j N J z
abbrev aia:Sp:=λvs H Q _=>∃(b p:Nat) (t:Int),vs=[.int (b:Nat),.int (p:Nat),.int t]/\p<=1000/\∀n:Nat,Pr b p t n->Q (.int (n:Nat)) H
def La(T:Tx P w K mg a):gu P w K mg base pS 1 a.G7 a.EF HE aia:=by
 show T.G8.ok Lk (λvs H Q E h=>?_) (λD A outer s H vs Q E N h=>?_)
 ·nofun
 ·let(b,p,t,rfl,O,k):=h;have J:=Lk.nd
  show(_,(aU (eG (cx iU (pv 2) bU (dk _)) (bh (cE (cY nQ (pv 0) (Jk YI (cY l7 bU (pv 1)))))) dG)
   (bh (cE (cY Bu (pv 0) (cY l7 bU (pv 1)))))),?_)
  simp![];have M:(1:Int)*2^(p:Int).toNat=((2^p:Nat):Int):=by rw[bP,uB];simp
  have j:Zf 1 (p:Int):=((),by rw[show cD 1=1 from rfl];lia);rw[M];show kg (λh=>(j,?_)) (λh=>(j,?_))
  ·have U:0<=dZ (b:Int) (dS ((2^p:Nat):Int)):=TN (.inl ());have B:dZ (b:Int) (dS ((2^p:Nat):Int))=((dZ (b:Int) (dS ((2^p:Nat):Int))).toNat:Int):=by lia
   rw[B];show k _ λi=>?_;rw[←vb,←B,Q0,G_,vb,vb,ik]
   by_cases e:i=p
   ·subst e;simp[h]
   ·have g:¬p=i:=λz=>e z.symm;simp[e,g]
  ·rw[iC];show k _ λi=>?_;rw[de,ik]
   by_cases e:i=p
   ·subst e;simp[h]
   ·have g:¬p=i:=λz=>e z.symm;simp[e,g]
abbrev Mj(m r:aW)(n st:Nat):List (bV×V):=[("size",.int (n:Nat),),("marks",.ref m,),("arcs",.ref r,),("starts",.int (st:Nat),)]
structure wY(C:aW)(H:Hp)(p dx m r:aW)(n st:Nat)(ms as:List Nat):Prop where
 obj:H p=some (.ins C dx (Mj m r n st))
 marks:H m=some (.lst (nats ms))
 arcs:H r=some (.lst (nats as))
 mr:m≠r
 ml:↑ms=n
 al:↑as=n
abbrev afm(C:aW):Sp:=λvs H Q _=>X5 λ(p dx:aW) (fs:List (bV×V)) (n:Nat) (i:Int)=>vs=[.ref p,.int i]/\H p=some (.ins C dx fs)/\fs.lookup ("size" :bV)=some (.int (n:Nat))/\Q (.bl (decide (0<=i/\i < n))) H
def jD(T:Tx P w K mg a):gu P w K mg base pS 1 a.ng a.mB mQ (afm a.bY):=by
 show T.BE.ok se (λvs H Q E h=>?_) (λg A outer s H vs Q E B h=>?_)
 ·nofun
 ·let(p,dx,fs,n,i,rfl,j,l1,k):=h;have z:=se.nd;show(_,(bh (cE (Zi OA VZ bU (pv 1) (bN (pv 0) rfl)))),?_);simp![↓bS j T.cG T.mP l1]
  by_cases h1:0<=i
  ·rw[h9 h1];have e:decide (0<=i/\i < n)=decide (i < n):=by simp[h1]
   rw[e] at k;show k
  ·rw[h8 h1];have e:decide (0<=i/\i < n)=false:=by simp[h1]
   rw[e] at k;show k
def EA{n st:Nat}:(Mj m r n st).lookup ("size" :bV)=some (.int (n:Nat)):=rfl
def J2{n st:Nat}:(Mj m r n st).lookup ("marks" :bV)=some (.ref m):=rfl
def Jv{n st:Nat}:(Mj m r n st).lookup ("arcs" :bV)=some (.ref r):=rfl
def G4{n st:Nat}:(Mj m r n st).lookup ("starts" :bV)=some (.int (st:Nat)):=rfl
abbrev ab2(C:aW):Sp:=λvs H Q _=>X10 λ(p dx m r:aW) (n st:Nat) (ms as:List Nat) (i:Int) (v:Nat)=>vs=[.ref p,.int i,.int (v:Nat)]/\wY C H p dx m r n st ms as/\
 (¬(0<=i/\i < n/\v < 65536)->Q (.int (-1)) H)/\((0<=i/\i < n/\v < 65536)->Q (.int 0) (upd H m (.lst (nats (ms.set i.toNat v)))))
def FR(T:Tx P w K mg a):gu P w K mg base pS 2 a.tS a.qY tM (ab2 a.bY):=by
 show T.HB.ok xE (λvs H Q E h=>?_) (λB A outer s H vs Q E D h=>?_)
 ·nofun
 ·let(p,dx,m,r,n,st,ms,as,i,v,rfl,J,k0,k1):=h;have M:=xE.nd
  show(_,(aU (eG (Rb (VO (xi (qa (dI (pv 0) T.cG T.jX (jD T) (D.mono (by decide)) T.jZ .nil cN (aR (pv 1) br)))) (QA (cx Y1 (pv 2) (fb (by rfl) T.HM) (dk _))))) (bh (cE (fb (by rfl) T.Fm))) dG)
   (aU (jN (pv 2) (D3 (bN (pv 0) rfl) (pv 1) set_list))
   (bh (cE (fb (by rfl) T.QJ))))),?_)
  let(z,N,O,U,Y,aD):=id J;dsimp! [];show((_,_,z,rfl),p,dx,_,n,i,rfl,z,EA,?_);simp![];show kg (λh1=>k0 (λh=>h1 (h.1,h.2.1))) (λh1=>kg (λh2=>k0 (λh=>absurd h.2.2 ())) (λh2=>?_));have h1:=j5.mp h1;have g:=k1 (h1.1,h1.2,());subst hu';obtain⟨j,rfl⟩:∃j:Nat,i=(j:Int):=(i.toNat,());rw[bP] at g;simp![↓bS z T.cG T.jJ J2];show(_,N,j,Hn (by rw[aQ];lia),?_);rw[EY];show g
abbrev adh(C:aW):Sp:=λvs H Q _=>X11 λ(p dx m r:aW) (n st:Nat) (ms as:List Nat) (i j t:Int)=>vs=[.ref p,.int i,.int j,.int t]/\wY C H p dx m r n st ms as/\n<=64/\
 (¬((0<=i/\i < n)/\0<=j/\j < n)->Q (.int (-1)) H)/\(((0<=i/\i < n)/\0<=j/\j < n)->∀v,Pr (as.getD i.toNat 0) j.toNat t v->Q (.int 0) (upd H r (.lst (nats (as.set i.toNat v)))))
def Hd(T:Tx P w K mg a):gu P w K mg base pS 2 a.uV a.sZ uX (adh a.bY):=by
 show T.Jm.ok yL (λvs H Q E h=>?_) (λM A outer s H vs Q E J h=>?_)
 ·nofun
 ·let(p,dx,m,r,n,st,ms,as,i,j,t,rfl,N,hn,k0,k1):=h;have O:=yL.nd
  show(_,(aU (eG (Rb (VO (xi (qa (dI (pv 0) T.cG T.jX (jD T) (J.mono (by decide)) T.jZ .nil cN (aR (pv 1) br)))) (QA (xi (qa (dI (pv 0) T.cG T.jX (jD T) (J.mono (by decide)) T.jZ .nil cN (aR (pv 2) br))))))) (bh (cE (fb (by rfl) T.Fm))) dG)
   (aU (jN (fJ (La T) (J.mono (by decide)) rfl T.My T.G8.kp T.Nc .nil cN (aR (dQ cC (bN (pv 0) rfl) (pv 1) (λ_ _=>rfl)) (aR (pv 2) (aR (pv 3) br)))) (D3 (bN (pv 0) rfl) (pv 1) set_list))
   (bh (cE (fb (by rfl) T.QJ))))),?_)
  let(B,hm,D,U,Y,aD):=id N;dsimp! [];show((_,_,B,rfl),p,dx,_,n,i,rfl,B,EA,?_);simp![];show kg (λh1=>k0 (λh=>h1 h.1)) (λh1=>?_);have h1:=j5.mp h1;show((_,_,B,rfl),p,dx,_,n,j,rfl,B,EA,?_);simp![];show kg (λh2=>k0 (λh=>h2 h.2)) (λh2=>?_);have h2:=j5.mp h2;have g:=k1 (h1,h2);subst hu';obtain⟨i,rfl⟩:∃z:Nat,i=(z:Int):=(i.toNat,());obtain⟨j,rfl⟩:∃z:Nat,j=(z:Int):=(j.toNat,());rw[bP,bP] at g;dsimp! [↓bS B T.cG T.jc Jv];show(_,dg.of D,_,hZ (),_,j,t,rfl,(),λv Z=>?_);simp![↓bS B T.cG T.jc Jv];show(_,D,i,Hn (by rw[aQ];lia),?_);subst hu';simp![];rw[EY];show g v Z
abbrev XW(C:aW):Sp:=λvs H Q _=>X10 λ(p dx m r:aW) (n st:Nat) (ms as:List Nat) (i t:Int)=>vs=[.ref p,.int i,.int t]/\wY C H p dx m r n st ms as/\n<=64/\
 (¬(0<=i/\i < n)->Q (.int (-1)) H)/\((0<=i/\i < n)->∀v,Pr st i.toNat t v->Q (.int 0) (upd H p (.ins C dx (Mj m r n v))))
def EH(T:Tx P w K mg a):gu P w K mg base pS 2 a.rq a.qg qN (XW a.bY):=by
 show T.Ga.ok wQ (λvs H Q E h=>?_) (λD A outer s H vs Q E B h=>?_)
 ·nofun
 ·let(p,dx,m,r,n,st,ms,as,i,t,rfl,J,Z,k0,k1):=h;have M:=wQ.nd
  show(_,(aU (eG (xi (qa (dI (pv 0) T.cG T.jX (jD T) (B.mono (by decide)) T.jZ .nil cN (aR (pv 1) br)))) (bh (cE (fb (by rfl) T.Fm))) dG)
   (aU (fF (pv 0) (fJ (La T) (B.mono (by decide)) rfl T.My T.G8.kp T.Nc .nil cN (aR (bN (pv 0) rfl) (aR (pv 1) (aR (pv 2) br)))) rfl)
   (bh (cE (fb (by rfl) T.QJ))))),?_)
  let(j,hm,N,O,U,aD):=id J;dsimp! [];show((_,_,j,rfl),p,dx,_,n,i,rfl,j,EA,?_);simp![];show kg (λh1=>k0 h1) (λh1=>?_);have h1:=j5.mp h1;have g:=k1 h1;subst hu';obtain⟨i,rfl⟩:∃z:Nat,i=(z:Int):=(i.toNat,());rw[bP] at g;dsimp! [↓bS j T.cG T.iB G4];show(st,i,t,rfl,(),λv Y=>?_);show zV j (T.cG,T.iB,by change 4 < 1000;decide,?_);subst hu';simp![];show g v Y
def Sz(m:Nat):(bq ((m:Nat):Int).toNat [V.int 0]).flatten=nats (bq m 0):=by
 rw[bP];unfold nats
 induction m with
 |zero=>rfl
 |succ m g=>rw[fI,j6,g,fI];rfl
abbrev aem(C:aW):Sp:=λvs H Q _=>X9 λ(p dx m r:aW) (n st:Nat) (ms as:List Nat) (z:Int)=>vs=[.ref p,.int z]/\wY C H p dx m r n st ms as/\
 (¬(1<=z/\z<=64)->Q (.int (-1)) H)/\((1<=z/\z<=64)->∀H' g j,H g=none->H j=none->wY C H' p dx g j z.toNat 0 (bq z.toNat 0) (bq z.toNat 0)->bK (er [p] H) H'->Q (.int 0) H')
def En(T:Tx P w K mg a):gu P w K mg base pS 2 a.rg a.pM rk (aem a.bY):=by
 show T.Gb.ok wU (λvs H Q E h=>?_) (λcy A outer s H vs Q E hr h=>?_)
 ·nofun
 ·let(p,dx,m,r,n,st,ms,as,z,rfl,hS,k0,k1):=h;have cA:=wU.nd
  show(_,(aU (eG (xi (Zq OA OA bU (pv 1) (fb (by rfl) T.Og))) (bh (cE (fb (by rfl) T.Fm))) dG)
   (aU (fF (pv 0) (pv 1) rfl)
   (aU (fF (pv 0) (cY P9 (gS (aR bU br)) (pv 1)) rfl)
   (aU (fF (pv 0) (cY P9 (gS (aR bU br)) (pv 1)) rfl)
   (aU (fF (pv 0) bU rfl)
   (bh (cE (fb (by rfl) T.QJ)))))))),?_)
  let(hp,hm,cL,c0,c1,aD):=id hS;dsimp! [];show kg (λh1=>kg (λh2=>k0 (λh=>h2 h.2)) (λh2=>?_)) (λh1=>k0 (λh=>h1 h.1));have h2:=j5.mp h2;have g:=k1 (h1,h2);clear k0 k1;subst hu';obtain⟨z,rfl⟩:∃y:Nat,z=(y:Int):=(z.toNat,());rw[bP] at g;dsimp! [hp,T.cG,T.mP];show(by change 4 < 1000;decide,?_);subst hu';have J:upd H p (.ins a.bY dx (bC "size" (.int (z:Nat)) (Mj m r n st))) p=some (.ins a.bY dx (Mj m r z st)):=by rw[aV];rfl
  have Y:bK (er [p] H) (upd H p (.ins a.bY dx (bC "size" (.int (z:Nat)) (Mj m r n st)))):=dj cq ⋯;generalize upd H p (.ins a.bY dx (bC "size" (.int (z:Nat)) (Mj m r n st)))=H1 at J Y ⊢
  have fr:∀{H':Hp} {b:aW},bK (er [p] H) H'->H' b=none->H' p=some (.ins a.bY dx (Mj m r z st))->H b=none:=λ{H' b} s hb cc=>by
   cases e:H b with
   |none=>rfl
   |some o=>
    by_cases e2:b=p
    ·rw[e2,cc] at hb;cases hb
    ·have:=cb s (by simp[e2]) e;rw[hb] at this;cases this
  dsimp! [];show(by decide,λl1 bk=>(_,aV,?_));rw[Sz];show((),(),by rw[bP];simp only[a_,cW];show iI (df ()),λj N=>?_);obtain⟨cm,N⟩:j≠l1/\H1 j=none:=by rw[gv] at N;show NH N
  have bl:p≠l1:=bb J bk;have D:p≠j:=bb J N;have bt:H l1=none:=fr Y bk J;have ah:H j=none:=fr Y N J;show zV (by rw[bc D,bc bl];show J) (T.cG,T.jJ,by change 4 < 1000;decide,?_);subst hu';have O:upd (upd (upd H1 l1 (.lst [.int 0])) j (.lst (nats (bq z 0)))) p (.ins a.bY dx (bC "marks" (.ref j) (Mj m r z st))) p=some (.ins a.bY dx (Mj j r z st)):=by rw[aV];rfl
  have Z:upd (upd (upd H1 l1 (.lst [.int 0])) j (.lst (nats (bq z 0)))) p (.ins a.bY dx (bC "marks" (.ref j) (Mj m r z st))) j=some (.lst (nats (bq z 0))):=by rw[bc D.symm,aV]
  have aA:bK (er [p] H) (upd (upd (upd H1 l1 (.lst [.int 0])) j (.lst (nats (bq z 0)))) p (.ins a.bY dx (bC "marks" (.ref j) (Mj m r z st)))):=dj (bp (bp Y (qL bt)) (qL ah)) ⋯;generalize upd (upd (upd H1 l1 (.lst [.int 0])) j (.lst (nats (bq z 0)))) p (.ins a.bY dx (bC "marks" (.ref j) (Mj m r z st)))=H2 at O Z aA ⊢;clear fr
  have fr:∀{b:aW},H2 b=none->H b=none:=λ{b} hb=>by
   cases e:H b with
   |none=>rfl
   |some o=>
    by_cases e2:b=p
    ·rw[e2,O] at hb;cases hb
    ·have:=cb aA (by simp[e2]) e;rw[hb] at this;cases this
  dsimp! [];show(by decide,λl2 aE=>(_,aV,?_));rw[Sz];show((),(),by rw[bP];simp only[a_,cW];show iI (df ()),λB M=>?_);obtain⟨ct,M⟩:B≠l2/\H2 B=none:=by rw[gv] at M;show NH M
  have bx:p≠l2:=bb O aE;have U:p≠B:=bb O M;have ar:j≠B:=bb Z M;have b0:j≠l2:=bb Z aE;have b1:H l2=none:=fr aE;have av:H B=none:=fr M;show zV (by rw[bc U,bc bx];show O) (T.cG,T.jc,by change 4 < 1000;decide,?_);subst hu';have b2:upd (upd (upd H2 l2 (.lst [.int 0])) B (.lst (nats (bq z 0)))) p (.ins a.bY dx (bC "arcs" (.ref B) (Mj j r z st))) p=some (.ins a.bY dx (Mj j B z st)):=by rw[aV];rfl
  have b3:upd (upd (upd H2 l2 (.lst [.int 0])) B (.lst (nats (bq z 0)))) p (.ins a.bY dx (bC "arcs" (.ref B) (Mj j r z st))) j=some (.lst (nats (bq z 0))):=by rw[bc D.symm,bc ar,bc b0];show Z
  have b4:upd (upd (upd H2 l2 (.lst [.int 0])) B (.lst (nats (bq z 0)))) p (.ins a.bY dx (bC "arcs" (.ref B) (Mj j r z st))) B=some (.lst (nats (bq z 0))):=by rw[bc U.symm,aV]
  have b5:bK (er [p] H) (upd (upd (upd H2 l2 (.lst [.int 0])) B (.lst (nats (bq z 0)))) p (.ins a.bY dx (bC "arcs" (.ref B) (Mj j r z st)))):=dj (bp (bp aA (qL b1)) (qL av)) ⋯;generalize upd (upd (upd H2 l2 (.lst [.int 0])) B (.lst (nats (bq z 0)))) p (.ins a.bY dx (bC "arcs" (.ref B) (Mj j r z st)))=H3 at b2 b3 b4 b5 ⊢;simp![b2,T.cG,T.iB];show(by change 4 < 1000;decide,?_);show g _ j B ah av (by rw[aV];rfl,by rw[bc D.symm];show b3,by rw[bc U.symm];show b4,ar,⋯,⋯) (dj b5 ⋯)
abbrev YM(C:aW):Sp:=λvs H Q _=>∃(p dx:aW),vs=[.ref p]/\H p=some (.ins C dx [])/\∀H' m r,H m=none->H r=none->wY C H' p dx m r 1 0 [0] [0]->bK (er [p] H) H'->Q .vI H'
def Bo(T:Tx P w K mg a):gu P w K mg base pS 1 a.nZ a.m7 nN (YM a.bY):=by
 show T.CQ.ok uk (λvs H Q E h=>?_) (λN A outer s H vs Q E g h=>?_)
 ·nofun
 ·let(p,dx,rfl,O,k):=h;have U:=uk.nd
  show(_,(aU (fF (pv 0) bU rfl)
   (aU (fF (pv 0) (gS (aR bU br)) rfl)
   (aU (fF (pv 0) (gS (aR bU br)) rfl)
   (bh (fF (pv 0) bU rfl))))),?_)
  dsimp! [O,T.cG,T.mP];show(by decide,?_)
  simp_all! []
  show(by decide,λm M=>?_);obtain⟨j,z⟩:m≠p/\H m=none:=by rw[gv] at M;show NH M
  show zV (by rw[bc j.symm,aV]) (T.cG,T.jJ,by change 1 < 1000;decide,?_)
  simp_all! []
  show(by decide,λr g=>?_);obtain⟨B,g⟩:r≠p/\_:=by rw[gv] at g;show NH g
  obtain⟨D,g⟩:r≠m/\_:=by rw[gv] at g;show NH g
  obtain⟨_,J⟩:r≠p/\H r=none:=by rw[gv] at g;show NH g
  show zV (by rw[bc B.symm,aV]) (T.cG,T.jc,by change 2 < 1000;decide,?_);subst hu';simp![gv,nU,T.cG,T.iB];show(by change 3 < 1000;decide,?_);show k _ m r z J (by rw[aV];rfl,?_,?_,D.symm,rfl,rfl) ?_
  ·simp only[gv,j,D.symm,if_false,if_true];rfl
  ·simp only[gv,B,if_false,if_true];rfl
  ·show dj (bp (dj (bp (dj cq ⋯) (qL z)) ⋯) (qL J)) ⋯
abbrev acM(num:Int)(xs:List Int)(c:KN):Prop:=(num=0/\∃z,xs=[z]/\c= .begin_ z)\/(num=1/\∃s v:Int,xs=[s,v]/\0<=v/\c= .mark s v.toNat)\/(num=2/\∃a b t,xs=[a,b,t]/\c= .arc a b t)\/(num=3/\∃s t,xs=[s,t]/\c= .start s t)
abbrev aa5(C:aW):Sp:=λvs H Q _=>X13 λ(p dx m r l:aW) (n st:Nat) (ms as:List Nat) (num:Int) (xs:List Int) (S:i9) (c:KN)=>vs=[.ref p,.int num,.ref l]/\wY C H p dx m r n st ms as/\yi S n st ms as/\Bw H l xs/\acM num xs c/\
 ∀H' z B n' st' g j,wY C H' p dx z B n' st' g j->yi (fh S c).1 n' st' g j->bK (er [p,m,r] H) H'->(z=m\/H z=none)->(B=r\/H B=none)->Q (.int (fh S c).2) H'
def abK{n st:Nat}(h:wY C H p dx m r n st ms as)(j:↑g=n):wY C (upd H m (.lst (nats g))) p dx m r n st g as:=
 (by rw[bc (eV h.obj h.marks (by intro z;cases z))];show h.obj,aV,by rw[bc (d5 h.mr)];show h.arcs,h.mr,j,h.al)
def aa8{n st:Nat}(h:wY C H p dx m r n st ms as)(j:↑g=n):wY C (upd H r (.lst (nats g))) p dx m r n st ms g:=
 (by rw[bc (eV h.obj h.arcs (by intro z;cases z))];show h.obj,by rw[bc h.mr];show h.marks,aV,h.mr,h.ml,j)
def abM{n st st':Nat}(h:wY C H p dx m r n st ms as):wY C (upd H p (.ins C dx (Mj m r n st'))) p dx m r n st' ms as:=
 (aV,by rw[bc (eV h.marks h.obj (by intro z;cases z))];show h.marks,by rw[bc (eV h.arcs h.obj (by intro z;cases z))];show h.arcs,h.mr,h.ml,h.al)
def Yo(T:Tx P w K mg a):gu P w K mg base pS 3 a.Qn a.MN QO (aa5 a.bY):=by
 show T.Vr.ok RY (λvs H Q E h=>?_) (λar A outer s H vs Q E M h=>?_)
 ·nofun
 ·let(p,dx,m,r,l,n,st,ms,as,num,xs,S,c,rfl,D,B,hl,hc,k):=h;have av:=RY.nd
  show(_,(aU (eG (cx iU (pv 1) (fb (by rfl) T.abJ) (dk _)) (bh (cE (dI (pv 0) T.cG T.F4 (En T) (M.mono (by decide)) T.FL .nil cN (aR (dQ cC (pv 2) bU (λ_ _=>rfl)) br)))) dG)
   (aU (eG (cx iU (pv 1) (fb (by rfl) T.ac4) (dk _)) (bh (cE (dI (pv 0) T.cG T.GZ (FR T) (M.mono (by decide)) T.G1 .nil cN (aR (dQ cC (pv 2) bU (λ_ _=>rfl)) (aR (dQ cC (pv 2) bU (λ_ _=>rfl)) br))))) dG)
   (aU (eG (cx iU (pv 1) (fb (by rfl) T.ahl) (dk _)) (bh (cE (dI (pv 0) T.cG T.Im (Hd T) (M.mono (by decide)) T.Ij .nil cN (aR (dQ cC (pv 2) bU (λ_ _=>rfl)) (aR (dQ cC (pv 2) bU (λ_ _=>rfl)) (aR (dQ cC (pv 2) bU (λ_ _=>rfl)) br)))))) dG)
   (bh (cE (dI (pv 0) T.cG T.FV (EH T) (M.mono (by decide)) T.Ge .nil cN (aR (dQ cC (pv 2) bU (λ_ _=>rfl)) (aR (dQ cC (pv 2) bU (λ_ _=>rfl)) br)))))))),?_)
  let(N,hm,aA,aE,U,aD):=id D;have g:H l=some (.lst (xs.map V.int)):=hl;rcases hc with⟨rfl,z,rfl,rfl⟩|⟨rfl,i,v,rfl,O,rfl⟩|⟨rfl,i,j,t,rfl,rfl⟩|⟨rfl,i,t,rfl,rfl⟩
  ·dsimp! [];show((_,_,N,rfl),_,dg.of g,_,rfl,p,dx,m,r,n,st,ms,as,z,rfl,D,λh=>?_,λh H' m' r' Y J Z ah=>?_)
   ·have e:fh S (.begin_ z)=(S,-1,):=by
      show h9 ?_;unfold f6;rw[cU,decide_eq_false_iff_not,decide_eq_false_iff_not];lia
    rw[e] at k;show k H m r n st ms as D B cq (.inl rfl) (.inl rfl)
   ·have e:fh S (.begin_ z)=(Sg30.fresh z.toNat,0,):=by
      show h8 ?_;unfold f6;rw[cU,decide_eq_false_iff_not,decide_eq_false_iff_not];lia
    rw[e] at k;show k H' m' r' _ _ _ _ Z (yi.fresh () ()) (bK.trans (MH ⋯) ah) (.inr Y) (.inr J)
  ·obtain⟨v,rfl⟩:∃z:Nat,v=(z:Int):=(v.toNat,());rw[bP] at k;dsimp! [];rw[h8 (by decide)]
   simp_all! []
   show((_,_,N,rfl),_,dg.of g,_,rfl,_,dg.of g,_,rfl,p,dx,m,r,n,st,ms,as,i,v,rfl,D,λh=>?_,λh=>?_)
   ·have e:fh S (.mark i v)=(S,-1,):=by
      show h9 ?_;unfold vk;rw[cU,decide_eq_false_iff_not,decide_eq_false_iff_not,B.Kt];lia
    rw[e] at k;show k H m r n st ms as D B cq (.inl rfl) (.inl rfl)
   ·have e:fh S (.mark i v)=({S with props:=λx=>if x=i.toNat then v else S.props x},0,):=by
      show h8 ?_;unfold vk;rw[cU,decide_eq_false_iff_not,decide_eq_false_iff_not,B.Kt];lia
    rw[e] at k;show k _ m r _ _ _ _ (abK D (by rw[eQ];show U)) (B.mark () h.2.2) (dj cq ⋯) (.inl rfl) (.inl rfl)
  ·dsimp! [];rw[h8 (by decide)]
   simp_all! []
   rw[h8 (by decide)]
   simp_all! []
   show((_,_,N,rfl),_,dg.of g,_,rfl,_,dg.of g,_,rfl,_,dg.of g,_,rfl,p,dx,m,r,n,st,ms,as,i,j,t,rfl,D,B.le,λh=>?_,λh v O=>?_)
   ·have e:fh S (.arc i j t)=(S,-1,):=by
      show h9 ?_;unfold vk;rw[cU,cU,decide_eq_false_iff_not,decide_eq_false_iff_not,decide_eq_false_iff_not,decide_eq_false_iff_not,B.Kt];lia
    rw[e] at k;show k H m r n st ms as D B cq (.inl rfl) (.inl rfl)
   ·have e:fh S (.arc i j t)=({S with arcs:=λx y=>if x=i.toNat/\y=j.toNat then t !=0 else S.arcs x y},0,):=by
      show h8 ?_;unfold vk;rw[cU,cU,decide_eq_false_iff_not,decide_eq_false_iff_not,decide_eq_false_iff_not,decide_eq_false_iff_not,B.Kt];lia
    rw[e] at k;show k _ m r _ _ _ _ (aa8 D (by rw[eQ];show aD)) (B.arcs () () O) (dj cq ⋯) (.inl rfl) (.inl rfl)
  ·dsimp! [];rw[h8 (by decide)]
   simp_all! []
   rw[h8 (by decide)]
   simp_all! []
   rw[h8 (by decide)];subst hu';simp![];show((_,_,N,rfl),_,dg.of g,_,rfl,_,dg.of g,_,rfl,p,dx,m,r,n,st,ms,as,i,t,rfl,D,B.le,λh=>?_,λh v O=>?_)
   ·have e:fh S (.start i t)=(S,-1,):=by
      show h9 ?_;unfold vk;rw[cU,decide_eq_false_iff_not,decide_eq_false_iff_not,B.Kt];lia
    rw[e] at k;show k H m r n st ms as D B cq (.inl rfl) (.inl rfl)
   ·have e:fh S (.start i t)=({S with starts:=λx=>if x=i.toNat then t !=0 else S.starts x},0,):=by
      show h8 ?_;unfold vk;rw[cU,decide_eq_false_iff_not,decide_eq_false_iff_not,B.Kt];lia
    rw[e] at k;show k _ m r _ _ _ _ (abM D) (B.start () O) (dj cq ⋯) (.inl rfl) (.inl rfl)
abbrev rsF(ar sp:aW)(N W:Nat)(sd lv gp tl:aW):List (bV×V):=[("arcs",.ref ar,),("steps",.ref sp,),("outlooks",.int (N:Nat),),("wishes",.int (W:Nat),),("standing",.ref sd,),("live",.ref lv,),("groups",.ref gp,),("trail",.ref tl,)]
abbrev Ol(H:Hp)(d:aW)(e:Nat×Nat):Prop:=H d=some (.tup [.int (e.1:Nat),.int (e.2:Nat)])
abbrev Ki(H:Hp)(l:aW)(xs:List Nat):Prop:=H l=some (.lst (nats xs))
abbrev oE{β:Type}(R:Hp->aW->β->Prop)(H:Hp)(l:aW)(xs:List β):Prop:=∃ds:List aW,H l=some (.lst (ds.map V.ref))/\Paired (R H) ds xs
meta abbrev xn:Hp->aW->List (Nat×Nat)->Prop:=oE Ol
abbrev Sd{β:Type}(R:Hp->aW->β->Prop):Prop:=∀H H' a b,bK H H'->R H a b->R H' a b
def Ol.mono:Sd Ol:=λH H' a b s h=>s _ _ h
def Ki.mono:Sd Ki:=λH H' a b s h=>s _ _ h
def oE.mono(m:Sd R):Sd (oE R):=λH H' a b s (ds,h1,h2)=>(ds,s _ _ h1,L2.Paired.jh h2 λd e h=>m _ _ _ _ s h)
def xn.mono:Sd xn:=oE.mono Ol.mono
structure RsS(C:aW)(H0:Hp)(p dx ar sp sd lv gp tl:aW)(N W:Nat)(arcs:List (List Nat))(steps:List (List (List (Nat×Nat)))):Prop where
 obj:H0 p=some (.ins C dx (rsF ar sp N W sd lv gp tl))
 agb:oE Ki H0 ar arcs
 ada:oE (oE xn) H0 sp steps
 pos:0 < N
 size:↑arcs*N<=100000
 N9:∀a∈arcs,∀c∈a,c < ↑steps
 wid:∀x∈steps,↑x=N
 few:∀k,↑(fV arcs steps N k)<=100000
structure Ap(H0:Hp)(sd lv gp tl:aW):Prop where
 n1:H0 sd=none
 n2:H0 lv=none
 n3:H0 gp=none
 n4:H0 tl=none
 d12:sd≠lv
 d13:sd≠gp
 d14:sd≠tl
 d23:lv≠gp
 d24:lv≠tl
 d34:gp≠tl
meta abbrev Tra:=List (aW×Nat×List (Nat×Nat))
abbrev Qx(H:Hp)(b:aW)(x:aW×Nat×List (Nat×Nat)):Prop:=H b=some (.tup [.int (x.2.1:Nat),.ref x.1])
structure zz(H0 H:Hp)(sd lv gp tl:aW)(sts:List Int)(aa:List Nat)(gs:List G3)(ae:Tra):Prop where
 same:bK H0 H
 ap:Ap H0 sd lv gp tl
 Tu:H sd=some (.lst (sts.map V.int))
 Ts:H lv=some (.lst (nats aa))
 Xx:oE EW H gp gs
 tlA:oE Qx H tl ae
 es:∀x∈ae,xn H x.1 x.2.2
 nd:(ae.map (·.1)).Nodup
 fr:∀x∈ae,H0 x.1=none/\x.1≠sd/\x.1≠lv/\x.1≠gp/\x.1≠tl
def EW.mono:Sd EW:=λH H' a b s h=>s _ _ h
def Qx.mono:Sd Qx:=λH H' a b s h=>s _ _ h
def jm(j:H q=some (.lst xs))(g:H b=some (.tup vs)):upd H q o b=some (.tup vs):=by rw[bc (eV g j (by intro z;cases z))];show g
def zS(j:H q=some (.lst xs))(h:xn H l es)(g:l≠q):xn (upd H q o) l es:=let(ds,h1,h2):=h
 (ds,by rw[bc g];show h1,L2.Paired.jh h2 λd e h=>jm j h)
def Mg(j:H q=some (.lst xs))(h:oE EW H l gs)(g:l≠q):oE EW (upd H q o) l gs:=let(ds,h1,h2):=h
 (ds,by rw[bc g];show h1,L2.Paired.jh h2 λd e h=>jm j h)
def P7(j:H q=some (.lst xs))(h:oE Qx H l gs)(g:l≠q):oE Qx (upd H q o) l gs:=let(ds,h1,h2):=h
 (ds,by rw[bc g];show h1,L2.Paired.jh h2 λd e h=>jm j h)
section
variable{H0 H:Hp}{sd lv gp tl:aW}{sts:List Int}{aa:List Nat}{gs:List G3}{ae:Tra}
def zz.mono(D:zz H0 H sd lv gp tl sts aa gs ae)(s:bK H H'):zz H0 H' sd lv gp tl sts aa gs ae:=
 (bK.trans D.same s,D.ap,s _ _ D.Tu,s _ _ D.Ts,oE.mono EW.mono _ _ _ _ s D.Xx,oE.mono Qx.mono _ _ _ _ s D.tlA,λx hx=>xn.mono _ _ _ _ s (D.es x hx),D.nd,D.fr)
def zz.agk(D:zz H0 H sd lv gp tl sts aa gs ae)(g:List Int):zz H0 (upd H sd (.lst (g.map V.int))) sd lv gp tl g aa gs ae:=
 (bp D.same D.ap.n1,D.ap,aV,by rw[bc (d5 D.ap.d12)];show D.Ts,Mg D.Tu D.Xx (d5 D.ap.d13),P7 D.Tu D.tlA (d5 D.ap.d14),λx hx=>zS D.Tu (D.es x hx) (D.fr x hx).2.1,D.nd,D.fr)
def zz.aga(D:zz H0 H sd lv gp tl sts aa gs ae)(g:List Nat):zz H0 (upd H lv (.lst (nats g))) sd lv gp tl sts g gs ae:=
 (bp D.same D.ap.n2,D.ap,by rw[bc D.ap.d12];show D.Tu,aV,Mg D.Ts D.Xx (d5 D.ap.d23),P7 D.Ts D.tlA (d5 D.ap.d24),λx hx=>zS D.Ts (D.es x hx) (D.fr x hx).2.2.1,D.nd,D.fr)
def zz.setG(D:zz H0 H sd lv gp tl sts aa gs ae)(h:Paired (EW H) bs gs'):zz H0 (upd H gp (.lst (bs.map V.ref))) sd lv gp tl sts aa gs' ae:=
 let(_,g,_):=D.Xx
 (bp D.same D.ap.n3,D.ap,by rw[bc D.ap.d13];show D.Tu,by rw[bc D.ap.d23];show D.Ts,(bs,aV,L2.Paired.jh h λd e h=>jm g h),P7 g D.tlA (d5 D.ap.d34),λx hx=>zS g (D.es x hx) (D.fr x hx).2.2.2.1,D.nd,D.fr)
def zz.ZS(D:zz H0 H sd lv gp tl sts aa gs ae)(h:Paired (Qx H) bs tra')(j:∀x∈tra',xn H x.1 x.2.2)(z:(tra'.map (·.1)).Nodup)(g:∀x∈tra',H0 x.1=none/\x.1≠sd/\x.1≠lv/\x.1≠gp/\x.1≠tl):zz H0 (upd H tl (.lst (bs.map V.ref))) sd lv gp tl sts aa gs tra':=
 let(_,B,_):=D.tlA
 (bp D.same D.ap.n4,D.ap,by rw[bc D.ap.d14];show D.Tu,by rw[bc D.ap.d24];show D.Ts,Mg B D.Xx D.ap.d34,(bs,aV,L2.Paired.jh h λd e h=>jm B h),λx hx=>zS B (j x hx) (g x hx).2.2.2.2,z,g)
end
abbrev Yi(C:aW):Sp:=λvs H Q _=>X7 λ(p dx ar sp:aW) (N W:Nat) (arcs:List (List Nat))=>vs=[.ref p,.ref ar,.ref sp,.int (N:Nat),.int (W:Nat)]/\H p=some (.ins C dx [])/\oE Ki H ar arcs/\↑arcs*N<=100000/\↑arcs<=100000/\
 ∀H' sd lv gp tl,bK (er [p] H) (er [sd,lv,gp,tl] H')->H' p=some (.ins C dx (rsF ar sp N W sd lv gp tl))->H sd=none->H lv=none->H gp=none->H tl=none->p∉[sd,lv,gp,tl]->zz (er [sd,lv,gp,tl] H') H' sd lv gp tl (bq (↑arcs*N) 0) [] [] []->Q .vI H'
def XZ(m:Nat):(bq ((m:Nat):Int).toNat [V.int 0]).flatten=(bq m (0:Int)).map V.int:=by
 rw[bP]
 induction m with
 |zero=>rfl
 |succ m g=>rw[fI,j6,g,fI];rfl
def uu(T:Tx P w K mg a):gu P w K mg base pS 1 a.oj a.mR n9 (Yi a.bB):=by
 show T.Cm.ok ug (λvs H Q E h=>?_) (λdc A outer s H vs Q E hr h=>?_)
 ·nofun
 ·let(p,dx,ar,sp,N,W,arcs,rfl,hp,(ds,aH,c2),hsz,aD,k):=h;have dd:=ug.nd
  show(_,(aU (fF (pv 0) (pv 1) rfl)
   (aU (fF (pv 0) (pv 2) rfl)
   (aU (fF (pv 0) (pv 3) rfl)
   (aU (fF (pv 0) (pv 4) rfl)
   (aU (fF (pv 0) (cY P9 (gS (aR (fb (by rfl) T.M9) br)) (cY Ms (ig ee (by rfl) T.r_ dO (aR (pv 1) br)) (pv 3))) rfl)
   (aU (fF (pv 0) (gS br) rfl)
   (aU (fF (pv 0) (gS br) rfl)
   (bh (fF (pv 0) (gS br) rfl))))))))),?_)
  have hc:=T.da;dsimp! [hp,hc,T.xN];show(by decide,?_);have p1:upd H p (.ins a.bB dx (bC "arcs" (.ref ar) [])) p=some (.ins a.bB dx (bC "arcs" (.ref ar) [])):=aV;have s1:bK (er [p] H) (upd H p (.ins a.bB dx (bC "arcs" (.ref ar) []))):=dj cq ⋯;generalize upd H p (.ins a.bB dx (bC "arcs" (.ref ar) []))=H1 at p1 s1 ⊢
  simp_all! [p1,hc,T.wO]
  show(by change 1 < 1000;decide,?_);have p2:upd H1 p (.ins a.bB dx (bC "steps" (.ref sp) (bC "arcs" (.ref ar) []))) p=some (.ins a.bB dx (bC "steps" (.ref sp) (bC "arcs" (.ref ar) []))):=aV;have s2:bK (er [p] H) (upd H1 p (.ins a.bB dx (bC "steps" (.ref sp) (bC "arcs" (.ref ar) [])))):=dj s1 ⋯;generalize upd H1 p (.ins a.bB dx (bC "steps" (.ref sp) (bC "arcs" (.ref ar) [])))=H2 at p2 s2 ⊢
  simp_all! [p2,hc,T.ud]
  show(by change 2 < 1000;decide,?_);have p3:upd H2 p (.ins a.bB dx (bC "outlooks" (.int (N:Nat)) (bC "steps" (.ref sp) (bC "arcs" (.ref ar) [])))) p=some (.ins a.bB dx (bC "outlooks" (.int (N:Nat)) (bC "steps" (.ref sp) (bC "arcs" (.ref ar) [])))):=aV;have s3:bK (er [p] H) (upd H2 p (.ins a.bB dx (bC "outlooks" (.int (N:Nat)) (bC "steps" (.ref sp) (bC "arcs" (.ref ar) []))))):=dj s2 ⋯;generalize upd H2 p (.ins a.bB dx (bC "outlooks" (.int (N:Nat)) (bC "steps" (.ref sp) (bC "arcs" (.ref ar) []))))=H3 at p3 s3 ⊢
  simp_all! [p3,hc,T.vH]
  show(by change 3 < 1000;decide,?_);have p4:upd H3 p (.ins a.bB dx (bC "wishes" (.int (W:Nat)) (bC "outlooks" (.int (N:Nat)) (bC "steps" (.ref sp) (bC "arcs" (.ref ar) []))))) p=some (.ins a.bB dx (bC "wishes" (.int (W:Nat)) (bC "outlooks" (.int (N:Nat)) (bC "steps" (.ref sp) (bC "arcs" (.ref ar) []))))):=aV;have s4:bK (er [p] H) (upd H3 p (.ins a.bB dx (bC "wishes" (.int (W:Nat)) (bC "outlooks" (.int (N:Nat)) (bC "steps" (.ref sp) (bC "arcs" (.ref ar) [])))))):=dj s3 ⋯;generalize upd H3 p (.ins a.bB dx (bC "wishes" (.int (W:Nat)) (bC "outlooks" (.int (N:Nat)) (bC "steps" (.ref sp) (bC "arcs" (.ref ar) [])))))=H4 at p4 s4 ⊢;subst hu';have c3:ar≠p:=eV aH hp (by intro z;cases z);have ct:H4 ar=some (.lst (ds.map V.ref)):=cb s4 (by simpa using c3) aH;have c4:↑ds=↑arcs:=bT c2;dsimp! [];show(by decide,λz hz=>?_);have b3:z≠p:=d5 (bb p4 hz)
  have c5:H z=none:=by
   have:=same_none s4 hz;unfold er at this;rw[h8 (by simpa using b3)] at this;show this
  simp![];have em:((↑arcs:Nat):Int)*((N:Nat):Int)=((↑arcs*N:Nat):Int):=(sV _ _).symm;show(_,.inl (dg.of (by rw[bc (bb ct hz)];show ct)),?_);rw[aQ,c4,em];show(.inl ((),()),_,aV,(),(),?_,λsd cy=>?_)
  ·rw[bP];simp only[a_,cW];show iI (by have:=df hsz;lia)
  rw[XZ];obtain⟨c6,bt⟩:sd≠z/\H4 sd=none:=by rw[gv] at cy;show NH cy
  have g:sd≠p:=d5 (bb p4 bt)
  have J:H sd=none:=by
   have:=same_none s4 bt;unfold er at this;rw[h8 (by simpa using g)] at this;show this
  have o5:upd (upd H4 z (.lst [V.int 0])) sd (.lst ((bq (↑arcs*N) (0:Int)).map V.int)) sd=some (.lst ((bq (↑arcs*N) (0:Int)).map V.int)):=aV;have p5:upd (upd H4 z (.lst [V.int 0])) sd (.lst ((bq (↑arcs*N) (0:Int)).map V.int)) p=H4 p:=by rw[bc g.symm,bc b3.symm]
  have s5:bK (er [p] H) (upd (upd H4 z (.lst [V.int 0])) sd (.lst ((bq (↑arcs*N) (0:Int)).map V.int))):=bp (bp s4 (by unfold er;rw[h8 (by simpa using b3)];show c5)) (by unfold er;rw[h8 (by simpa using g)];show J);generalize upd (upd H4 z (.lst [V.int 0])) sd (.lst ((bq (↑arcs*N) (0:Int)).map V.int))=H5 at o5 p5 s5 ⊢;rw[p4] at p5;show zV p5 (hc,T.iL,by change 4 < 1000;decide,?_);have p6:upd H5 p (.ins a.bB dx (bC "standing" (.ref sd) (bC "wishes" (.int (W:Nat)) (bC "outlooks" (.int (N:Nat)) (bC "steps" (.ref sp) (bC "arcs" (.ref ar) [])))))) p=some (.ins a.bB dx (bC "standing" (.ref sd) (bC "wishes" (.int (W:Nat)) (bC "outlooks" (.int (N:Nat)) (bC "steps" (.ref sp) (bC "arcs" (.ref ar) [])))))):=aV;have s6:bK (er [p] H) (upd H5 p (.ins a.bB dx (bC "standing" (.ref sd) (bC "wishes" (.int (W:Nat)) (bC "outlooks" (.int (N:Nat)) (bC "steps" (.ref sp) (bC "arcs" (.ref ar) []))))))):=dj s5 ⋯;have o6:upd H5 p (.ins a.bB dx (bC "standing" (.ref sd) (bC "wishes" (.int (W:Nat)) (bC "outlooks" (.int (N:Nat)) (bC "steps" (.ref sp) (bC "arcs" (.ref ar) [])))))) sd=some (.lst ((bq (↑arcs*N) (0:Int)).map V.int)):=by rw[bc g];show o5
  generalize upd H5 p (.ins a.bB dx (bC "standing" (.ref sd) (bC "wishes" (.int (W:Nat)) (bC "outlooks" (.int (N:Nat)) (bC "steps" (.ref sp) (bC "arcs" (.ref ar) []))))))=H6 at p6 s6 o6 ⊢
  simp_all! []
  show(by decide,λlv b4=>?_);have B:lv≠p:=d5 (bb p6 b4)
  have b5:H lv=none:=by
   have:=same_none s6 b4;unfold er at this;rw[h8 (by simpa using B)] at this;show this
  show zV (by rw[bc B.symm];show p6) (hc,T.qR,by change 5 < 1000;decide,?_);have p7:(upd (upd H6 lv (.lst [])) p (.ins a.bB dx (bC "live" (.ref lv) (bC "standing" (.ref sd) (bC "wishes" (.int (W:Nat)) (bC "outlooks" (.int (N:Nat)) (bC "steps" (.ref sp) (bC "arcs" (.ref ar) [])))))))) p=some (.ins a.bB dx (bC "live" (.ref lv) (bC "standing" (.ref sd) (bC "wishes" (.int (W:Nat)) (bC "outlooks" (.int (N:Nat)) (bC "steps" (.ref sp) (bC "arcs" (.ref ar) []))))))):=aV;have s7:bK (er [p] H) (upd (upd H6 lv (.lst [])) p (.ins a.bB dx (bC "live" (.ref lv) (bC "standing" (.ref sd) (bC "wishes" (.int (W:Nat)) (bC "outlooks" (.int (N:Nat)) (bC "steps" (.ref sp) (bC "arcs" (.ref ar) [])))))))):=dj (bp s6 (by unfold er;rw[h8 (by simpa using B)];show b5)) ⋯;have cA:(upd (upd H6 lv (.lst [])) p (.ins a.bB dx (bC "live" (.ref lv) (bC "standing" (.ref sd) (bC "wishes" (.int (W:Nat)) (bC "outlooks" (.int (N:Nat)) (bC "steps" (.ref sp) (bC "arcs" (.ref ar) [])))))))) lv=some (.lst []):=by rw[bc B,aV]
  have M:sd≠lv:=bb o6 b4;have o7:(upd (upd H6 lv (.lst [])) p (.ins a.bB dx (bC "live" (.ref lv) (bC "standing" (.ref sd) (bC "wishes" (.int (W:Nat)) (bC "outlooks" (.int (N:Nat)) (bC "steps" (.ref sp) (bC "arcs" (.ref ar) [])))))))) sd=some (.lst ((bq (↑arcs*N) (0:Int)).map V.int)):=by rw[bc g,bc M];show o6
  generalize upd (upd H6 lv (.lst [])) p (.ins a.bB dx (bC "live" (.ref lv) (bC "standing" (.ref sd) (bC "wishes" (.int (W:Nat)) (bC "outlooks" (.int (N:Nat)) (bC "steps" (.ref sp) (bC "arcs" (.ref ar) [])))))))=H7 at p7 s7 cA o7 ⊢;have bx:=cA
  simp_all! []
  show(by decide,λgp bk=>?_);have D:gp≠p:=d5 (bb p7 bk)
  have cc:H gp=none:=by
   have:=same_none s7 bk;unfold er at this;rw[h8 (by simpa using D)] at this;show this
  show zV (by rw[bc D.symm];show p7) (hc,T.lE,by change 6 < 1000;decide,?_);have p8:(upd (upd H7 gp (.lst [])) p (.ins a.bB dx (bC "groups" (.ref gp) (bC "live" (.ref lv) (bC "standing" (.ref sd) (bC "wishes" (.int (W:Nat)) (bC "outlooks" (.int (N:Nat)) (bC "steps" (.ref sp) (bC "arcs" (.ref ar) []))))))))) p=some (.ins a.bB dx (bC "groups" (.ref gp) (bC "live" (.ref lv) (bC "standing" (.ref sd) (bC "wishes" (.int (W:Nat)) (bC "outlooks" (.int (N:Nat)) (bC "steps" (.ref sp) (bC "arcs" (.ref ar) [])))))))):=aV;have s8:bK (er [p] H) (upd (upd H7 gp (.lst [])) p (.ins a.bB dx (bC "groups" (.ref gp) (bC "live" (.ref lv) (bC "standing" (.ref sd) (bC "wishes" (.int (W:Nat)) (bC "outlooks" (.int (N:Nat)) (bC "steps" (.ref sp) (bC "arcs" (.ref ar) []))))))))):=dj (bp s7 (by unfold er;rw[h8 (by simpa using D)];show cc)) ⋯;have cL:(upd (upd H7 gp (.lst [])) p (.ins a.bB dx (bC "groups" (.ref gp) (bC "live" (.ref lv) (bC "standing" (.ref sd) (bC "wishes" (.int (W:Nat)) (bC "outlooks" (.int (N:Nat)) (bC "steps" (.ref sp) (bC "arcs" (.ref ar) []))))))))) gp=some (.lst []):=by rw[bc D,aV]
  have O:sd≠gp:=bb o7 bk;have o8:(upd (upd H7 gp (.lst [])) p (.ins a.bB dx (bC "groups" (.ref gp) (bC "live" (.ref lv) (bC "standing" (.ref sd) (bC "wishes" (.int (W:Nat)) (bC "outlooks" (.int (N:Nat)) (bC "steps" (.ref sp) (bC "arcs" (.ref ar) []))))))))) sd=some (.lst ((bq (↑arcs*N) (0:Int)).map V.int)):=by rw[bc g,bc O];show o7
  have U:lv≠gp:=bb bx bk;have Y:(upd (upd H7 gp (.lst [])) p (.ins a.bB dx (bC "groups" (.ref gp) (bC "live" (.ref lv) (bC "standing" (.ref sd) (bC "wishes" (.int (W:Nat)) (bC "outlooks" (.int (N:Nat)) (bC "steps" (.ref sp) (bC "arcs" (.ref ar) []))))))))) lv=some (.lst []):=by rw[bc B,bc U];show bx
  generalize upd (upd H7 gp (.lst [])) p (.ins a.bB dx (bC "groups" (.ref gp) (bC "live" (.ref lv) (bC "standing" (.ref sd) (bC "wishes" (.int (W:Nat)) (bC "outlooks" (.int (N:Nat)) (bC "steps" (.ref sp) (bC "arcs" (.ref ar) []))))))))=H8 at p8 s8 cL o8 Y ⊢;have b0:=cL;subst hu';simp![];show(by decide,λtl Z=>?_);have ah:tl≠p:=d5 (bb p8 Z)
  have cm:H tl=none:=by
   have:=same_none s8 Z;unfold er at this;rw[h8 (by simpa using ah)] at this;show this
  show zV (by rw[bc ah.symm];show p8) (hc,T.l9,by change 7 < 1000;decide,?_);have p9:(upd (upd H8 tl (.lst [])) p (.ins a.bB dx (bC "trail" (.ref tl) (bC "groups" (.ref gp) (bC "live" (.ref lv) (bC "standing" (.ref sd) (bC "wishes" (.int (W:Nat)) (bC "outlooks" (.int (N:Nat)) (bC "steps" (.ref sp) (bC "arcs" (.ref ar) [])))))))))) p=some (.ins a.bB dx (bC "trail" (.ref tl) (bC "groups" (.ref gp) (bC "live" (.ref lv) (bC "standing" (.ref sd) (bC "wishes" (.int (W:Nat)) (bC "outlooks" (.int (N:Nat)) (bC "steps" (.ref sp) (bC "arcs" (.ref ar) []))))))))):=aV;have s9:bK (er [p] H) (upd (upd H8 tl (.lst [])) p (.ins a.bB dx (bC "trail" (.ref tl) (bC "groups" (.ref gp) (bC "live" (.ref lv) (bC "standing" (.ref sd) (bC "wishes" (.int (W:Nat)) (bC "outlooks" (.int (N:Nat)) (bC "steps" (.ref sp) (bC "arcs" (.ref ar) [])))))))))):=dj (bp s8 (by unfold er;rw[h8 (by simpa using ah)];show cm)) ⋯;have c0:(upd (upd H8 tl (.lst [])) p (.ins a.bB dx (bC "trail" (.ref tl) (bC "groups" (.ref gp) (bC "live" (.ref lv) (bC "standing" (.ref sd) (bC "wishes" (.int (W:Nat)) (bC "outlooks" (.int (N:Nat)) (bC "steps" (.ref sp) (bC "arcs" (.ref ar) [])))))))))) tl=some (.lst []):=by rw[bc ah,aV]
  have av:sd≠tl:=bb o8 Z;have o9:(upd (upd H8 tl (.lst [])) p (.ins a.bB dx (bC "trail" (.ref tl) (bC "groups" (.ref gp) (bC "live" (.ref lv) (bC "standing" (.ref sd) (bC "wishes" (.int (W:Nat)) (bC "outlooks" (.int (N:Nat)) (bC "steps" (.ref sp) (bC "arcs" (.ref ar) [])))))))))) sd=some (.lst ((bq (↑arcs*N) (0:Int)).map V.int)):=by rw[bc g,bc av];show o8
  have aA:lv≠tl:=bb Y Z;have b1:(upd (upd H8 tl (.lst [])) p (.ins a.bB dx (bC "trail" (.ref tl) (bC "groups" (.ref gp) (bC "live" (.ref lv) (bC "standing" (.ref sd) (bC "wishes" (.int (W:Nat)) (bC "outlooks" (.int (N:Nat)) (bC "steps" (.ref sp) (bC "arcs" (.ref ar) [])))))))))) lv=some (.lst []):=by rw[bc B,bc aA];show Y
  have aE:gp≠tl:=bb b0 Z;have b2:(upd (upd H8 tl (.lst [])) p (.ins a.bB dx (bC "trail" (.ref tl) (bC "groups" (.ref gp) (bC "live" (.ref lv) (bC "standing" (.ref sd) (bC "wishes" (.int (W:Nat)) (bC "outlooks" (.int (N:Nat)) (bC "steps" (.ref sp) (bC "arcs" (.ref ar) [])))))))))) gp=some (.lst []):=by rw[bc D,bc aE];show b0
  generalize upd (upd H8 tl (.lst [])) p (.ins a.bB dx (bC "trail" (.ref tl) (bC "groups" (.ref gp) (bC "live" (.ref lv) (bC "standing" (.ref sd) (bC "wishes" (.int (W:Nat)) (bC "outlooks" (.int (N:Nat)) (bC "steps" (.ref sp) (bC "arcs" (.ref ar) [])))))))))=H9 at p9 s9 c0 o9 b1 b2 ⊢;have c1:=c0;have bl:∀b,b=sd\/b=lv\/b=gp\/b=tl->er [sd,lv,gp,tl] H9 b=none:=λb hb=>by unfold er;rw[h9 (by simpa using hb)]
  show k H9 sd lv gp tl ?_ p9 J b5 cc cm ?_ (cq,(bl _ (.inl rfl),bl _ (.inr (.inl rfl)),bl _ (.inr (.inr (.inl rfl))),bl _ (.inr (.inr (.inr rfl))),M,O,av,U,aA,aE),o9,b1,([],b2,.nil),([],c1,.nil),(λx hx=>nomatch hx),nz,(λx hx=>nomatch hx))
  ·intro b u e;show dE.mpr (λhb=>?_,s9 b u e);have j:=(dE.mp e).2;simp only[bo,dD,or_false] at hb;rcases hb with rfl|rfl|rfl|rfl
   ·rw[J] at j;cases j
   ·rw[b5] at j;cases j
   ·rw[cc] at j;cases j
   ·rw[cm] at j;cases j
  ·simp only[bo,dD,or_false,not_or];show(g.symm,B.symm,D.symm,ah.symm)
def Z3:(rsF ar sp N W sd lv gp tl).lookup ("arcs" :bV)=some (.ref ar):=rfl
def W6:(rsF ar sp N W sd lv gp tl).lookup ("steps" :bV)=some (.ref sp):=rfl
def QI:(rsF ar sp N W sd lv gp tl).lookup ("outlooks" :bV)=some (.int (N:Nat)):=rfl
def TV:(rsF ar sp N W sd lv gp tl).lookup ("wishes" :bV)=some (.int (W:Nat)):=rfl
def yc:(rsF ar sp N W sd lv gp tl).lookup ("standing" :bV)=some (.ref sd):=rfl
def SE:(rsF ar sp N W sd lv gp tl).lookup ("live" :bV)=some (.ref lv):=rfl
def HJ:(rsF ar sp N W sd lv gp tl).lookup ("groups" :bV)=some (.ref gp):=rfl
def Ku:(rsF ar sp N W sd lv gp tl).lookup ("trail" :bV)=some (.ref tl):=rfl
def abQ(h1:H f=some (.lst (ds.map V.ref)))(h2:Paired (Ol H) ds es)(hT:H T=none):
  xn (upd (upd H T (.tup [.int (x:Nat),.int (y:Nat)])) f (.lst (ds.map V.ref++[.ref T]))) f (es++[(x,y,)]):=by
 have g:T≠f:=d5 (bb h1 hT);show(ds++[T],by rw[aV,bD];rfl,gQ (L2.Paired.jh h2 λd e h=>?_) ?_)
 ·unfold Ol at h ⊢;rw[bc (eV h h1 (by intro z;cases z)),bc (bb h hT)];show h
 ·unfold Ol;rw[bc g,aV]
abbrev aiA(C:aW):Sp:=λvs H Q _=>X14 λ(p dx ar sp sd lv gp tl:aW) (N W:Nat) (arcs:List (List Nat)) (steps:List (List (List (Nat×Nat)))) (H0:Hp) (k:Nat)=>vs=[.ref p,.int (k:Nat)]/\RsS C H0 p dx ar sp sd lv gp tl N W arcs steps/\bK H0 H/\k < ↑arcs*N/\
 ∀H' l,bK H H'->H l=none->xn H' l (fV arcs steps N k)->Q (.ref l) H'
abbrev M5(steps:List (List (List (Nat×Nat))))(N k:Nat)(other:Nat):List (Nat×Nat):=((steps.getD other []).getD (k % N) []).map λe=>(other*N+e.1,e.2,)
abbrev aha(H:Hp)(p f:aW)(k N:Nat)(as:List Nat)(steps:List (List (List (Nat×Nat))))(i:Nat)(σ:L2.St)(H':Hp):Prop:=X4 λg j z B=>σ=[some (.ref p),some (.int (k:Nat)),some (.int (k / N:Nat)),some (.int (k % N:Nat)),some (.ref f),g,j,z,B]/\bK H H'/\xn H' f ((as.take i).flatMap (M5 steps N k))
abbrev ahr(H:Hp)(p f:aW)(k N c:Nat)(pre:List (Nat×Nat))(es:List (Nat×Nat))(i:Nat)(σ:L2.St)(H':Hp):Prop:=∃g j,σ=[some (.ref p),some (.int (k:Nat)),some (.int (k / N:Nat)),some (.int (k % N:Nat)),some (.ref f),some (.int (c:Nat)),some (.int (c*N:Nat)),g,j]/\bK H H'/\xn H' f (pre++(es.take i).map λe=>(c*N+e.1,e.2,))
def zJ(T:Tx P w K mg a):gu P w K mg base pS 1 a.mD a.lM mJ (aiA a.bB):=by
 show T.AX.ok qE (λvs H Q E h=>?_) (λcL A outer s H vs Q E hr h=>?_)
 ·nofun
 ·let(p,dx,ar,sp,sd,lv,gp,tl,N,W,arcs,steps,H0,k,rfl,J,g,hk,q):=h;have c0:=qE.nd
  show(_,(aU (c9 2 (cY V9 (pv 1) (bN (pv 0) rfl)))
   (aU (c9 3 (cY X2 (pv 1) (bN (pv 0) rfl)))
   (aU (c9 4 (gS br))
   (aU (jO b8 rfl (jE (dQ cC (bN (pv 0) rfl) (pv 2) (λ_ _=>rfl))) (b6 5) (aU (c9 6 (cY Ms (pv 5) (bN (pv 0) rfl)))
   (bh (jO b8 rfl (jE (dQ cC (dQ cC (bN (pv 0) rfl) (pv 5) (λ_ _=>rfl)) (pv 3) (λ_ _=>rfl))) (jw (n:=2) rfl (ck (b6 7) (ck (b6 8) g8))) (bh (dP (lu bu bH bG d7 (pv 4) (aR (mx (aR (cY Ex (pv 6) (pv 7)) (aR (pv 8) br))) br))))))))
   (bh (cE (pv 4))))))),?_)
  have hp:=g _ _ J.obj;have hN:=J.pos;have av:k / N < ↑arcs:=by rw[Nat.div_lt_iff_lt_mul hN];show hk
  have cA:N<=100000:=by
   have:=J.size;have h1:1<=↑arcs:=fU (d6 _) av
   calc N=1*N:=by lia
    _<=↑arcs*N:=mq _ h1
    _<=100000:=this
  obtain⟨as,has⟩:∃as,arcs[k / N]? =some as:=(_,aS av);have M:arcs.getD (k / N) []=as:=eh has;have aA:as∈arcs:=bJ has;have fo:∀H',H' p=H p->∀Q:VK,nh K ("outlooks" :bV) (.ref p) H' Q=Q (.int (N:Nat)) H':=λH' e Q=>bS (by rw[e];show hp) T.da T.ud QI Q;have fa:∀H',H' p=H p->∀Q:VK,nh K ("arcs" :bV) (.ref p) H' Q=Q (.ref ar) H':=λH' e Q=>bS (by rw[e];show hp) T.da T.xN Z3 Q;have fs:∀H',H' p=H p->∀Q:VK,nh K ("steps" :bV) (.ref p) H' Q=Q (.ref sp) H':=λH' e Q=>bS (by rw[e];show hp) T.da T.wO W6 Q;have e1:((k:Nat):Int) / ((N:Nat):Int)=((k / N:Nat):Int):=(K2 k N).symm;have e2:((k:Nat):Int) % ((N:Nat):Int)=((k % N:Nat):Int):=(K1 k N).symm;let(c1,aH,aE):=J.agb;let(al,aD,B):=jK aE has;replace B:H0 al=some (.lst (nats as)):=B;let(c2,b3,bk):=J.ada;dsimp! [↓fo H rfl];show(((),()),?_);rw[e1]
  simp_all! [↓fo H rfl]
  show((),?_);rw[e2]
  simp_all! []
  show(by decide,λf hf=>?_);subst hu';show jM λu' hu'=>?_;have s1:bK H (upd H f (.lst [])):=bp (same_refl H) hf;simp![↓fa _ (bc (bb hp hf))];show(_,dg.of ((bK.trans g s1) _ _ aH),_,xm aD,(_,dg.of ((bK.trans g s1) _ _ B)),?_);show lr (xs:=nats as) (aha H p f k N as steps) (none,none,none,none,rfl,s1,([],aV,.nil)) (λi σ H' _ (_,_,_,_,_,s',_)=>dg.of (s' _ _ (g _ _ B))) ?_ ?_
  ·rintro i x σ H' hx ⟨v5,v6,v7,v8,rfl,s',D⟩;let(c,hc,rfl):=iT hx;have b4:c < ↑steps:=J.N9 as aA c (bJ hc);obtain⟨st,ag⟩:∃st,steps[c]? =some st:=(_,aS b4);have b5:↑st=N:=J.wid st (bJ ag);have cc:k % N < ↑st:=by rw[b5];show qm _ hN
   obtain⟨es,bl⟩:∃es,st[k % N]? =some es:=(_,aS cc);let(sl,cm,bt):=jK bk ag;obtain⟨c3,bx,b0⟩:oE xn H0 sl st:=bt;let(el,ct,b1):=jK b0 bl;obtain⟨cy,O,U⟩:xn H0 el es:=b1;have eF:M5 steps N k c=es.map λe=>(c*N+e.1,e.2,):=by unfold M5;rw[eh ag,eh bl]
   have Y:=bK.trans g s';have hi:=(aX.mp hc).1
   have hb:↑((as.take i).flatMap (M5 steps N k))+↑(M5 steps N k c)<=100000:=by
    have h1:↑(as.flatMap (M5 steps N k))<=100000:=by
     have:=J.few k;unfold fV at this;rw[M] at this;show this
    have e:as=as.take i++(c ::as.drop (i+1)):=by
     have h2:as[i]=c:=bQ ((aS hi).symm.trans hc);rw[←h2,←dN hi,vN]
    rw[e,xQ,JL,aY,aY] at h1;lia
   have e3:((c:Nat):Int)*((N:Nat):Int)=((c*N:Nat):Int):=(sV c N).symm;have ep:H' p=H p:=by rw[s' _ _ hp,hp]
   dsimp! [↓fo H' ep];show(.inr ((),()),?_);rw[e3];subst hu';simp![↓fs H' ep];show(_,dg.of (Y _ _ b3),_,xm cm,_,dg.of (Y _ _ bx),_,xm ct,(_,dg.of (Y _ _ O)),?_);show lr (xs:=cy.map V.ref) (ahr H p f k N c ((as.take i).flatMap (M5 steps N k)) es) (_,_,rfl,s',by simpa using D) (λj σ H2 _ (_,_,_,Z,_)=>dg.of (Z _ _ (g _ _ O))) ?_ ?_
   ·rintro j x σ H2 hx ⟨v7,v8,rfl,Z,⟨ds,z,b2⟩⟩;let(d,hd,rfl):=iT hx;let(e,he,ah):=eJ U hd;replace ah:H0 d=some (.tup [.int (e.1:Nat),.int (e.2:Nat)]):=ah;have e4:((c*N:Nat):Int)+((e.1:Nat):Int)=((c*N+e.1:Nat):Int):=(Du _ _).symm;simp![];show(_,qH.of ((bK.trans g Z) _ _ ah),rfl,?_);simp![];rw[e4];show(.inl (_,dg.of z),by decide,λT hT=>(_,by rw[bc (bb z hT)];show z,?_,?_))
    ·rw[aQ];have h1:=bT b2;rw[aY,aQ,cK] at h1;rw[eF,aQ] at hb;show df ()
    ·show(_,_,rfl,bp (bp Z (same_none Z hT)) hf,?_);rw[take_snoc he,bD,←bO];show abQ z b2 hT
   ·rintro σ H2 ⟨v7,v8,rfl,Z,z⟩;rw[aQ,bT U,dC] at z;show(_,_,_,_,rfl,Z,?_);rw[take_snoc hc,xQ,List.flatMap_singleton,eF];show z
  ·rintro σ H' ⟨v5,v6,v7,v8,rfl,s',D⟩;subst hu';simp![];rw[aQ,dC] at D;show q H' f s' hf ?_;unfold fV;rw[M];show D
abbrev abi(C:aW):Sp:=λvs H Q _=>X19 λ(p dx ar sp sd lv gp tl:aW) (N W:Nat) (arcs:List (List Nat)) (steps:List (List (List (Nat×Nat)))) (H0:Hp) (k g:Nat) (sts:List Int) (aa:List Nat) (gs:List G3) (ae:Tra)=>vs=[.ref p,.int (k:Nat),.int (g:Nat)]/\RsS C H0 p dx ar sp sd lv gp tl N W arcs steps/\zz H0 H sd lv gp tl sts aa gs ae/\
 k < ↑arcs*N/\k < ↑sts/\↑aa<=100000/\↑gs<=100000/\↑ae<=100000/\∀H' l,zz H0 H' sd lv gp tl (sts.set k ((↑aa+1:Nat):Int)) (aa++[k]) (gs++[(↑aa+1,0,g,)]) (ae++[(l,k,fV arcs steps N k,)])->Q .vI H'
def S1{xs:List Int}:(xs.map V.int).set i (.int z)=(xs.set i z).map V.int:=by rw[Ri]
def wF(T:Tx P w K mg a):gu P w K mg base pS 2 a.qJ a.pK rJ (abi a.bB):=by
 show T.FQ.ok wK (λvs H Q E h=>?_) (λb2 A outer s H vs Q E hr h=>?_)
 ·nofun
 ·let(p,dx,ar,sp,sd,lv,gp,tl,N,W,arcs,steps,H0,k,g,sts,aa,gs,ae,rfl,hS,hD,hk,bk,bl,bt,bx,q):=h;have b3:=wK.nd
  show(_,(aU (dP (lu bu bH bG d7 (bN (pv 0) rfl) (aR (pv 1) br)))
   (aU (jN (ig ee (by rfl) T.r_ dO (aR (bN (pv 0) rfl) br)) (D3 (bN (pv 0) rfl) (pv 1) set_list))
   (aU (dP (lu bu bH bG d7 (bN (pv 0) rfl) (aR (mx (aR (ig ee (by rfl) T.r_ dO (aR (bN (pv 0) rfl) br)) (aR bU (aR (pv 2) br)))) br)))
   (bh (dP (lu bu bH bG d7 (bN (pv 0) rfl) (aR (mx (aR (pv 1) (aR (dI (pv 0) T.da T.Az (zJ T) (hr.mono (by decide)) T.AO .nil cN (aR (pv 1) br)) br))) br))))))),?_)
  have fl:∀{sts aa gs ae H},zz H0 H sd lv gp tl sts aa gs ae->∀Q:VK,nh K ("live" :bV) (.ref p) H Q=Q (.ref lv) H:=λD Q=>bS (D.same _ _ hS.obj) T.da T.qR SE Q;have fd:∀{sts aa gs ae H},zz H0 H sd lv gp tl sts aa gs ae->∀Q:VK,nh K ("standing" :bV) (.ref p) H Q=Q (.ref sd) H:=λD Q=>bS (D.same _ _ hS.obj) T.da T.iL yc Q;have fg:∀{sts aa gs ae H},zz H0 H sd lv gp tl sts aa gs ae->∀Q:VK,nh K ("groups" :bV) (.ref p) H Q=Q (.ref gp) H:=λD Q=>bS (D.same _ _ hS.obj) T.da T.lE HJ Q;have ft:∀{sts aa gs ae H},zz H0 H sd lv gp tl sts aa gs ae->∀Q:VK,nh K ("trail" :bV) (.ref p) H Q=Q (.ref tl) H:=λD Q=>bS (D.same _ _ hS.obj) T.da T.l9 Ku Q;dsimp! [↓fl hD];show(.inl (_,dg.of hD.Ts),_,hD.Ts,by rw[aQ];show df bl,?_);have e1:nats aa++[V.int (k:Nat)]=nats (aa++[k]):=by unfold nats;rw[bD];rfl
  rw[e1];have B:=hD.aga (aa++[k]);generalize upd H lv (.lst (nats (aa++[k])))=H1 at B ⊢
  simp_all! [↓fl B,↓fd B]
  show(_,.inl (dg.of B.Ts),_,B.Tu,k,Hn (by rw[aQ];show bk),?_);have el:↑(nats (aa++[k]))=↑aa+1:=by rw[aQ,aY];rfl
  rw[el,S1];have J:=B.agk (sts.set k ((↑aa+1:Nat):Int));generalize upd H1 sd (.lst ((sts.set k ((↑aa+1:Nat):Int)).map V.int))=H2 at J ⊢;subst hu';let(gb,Z,U):=J.Xx;dsimp! [↓fl J,↓fg J];show(.inl (_,dg.of Z),_,.inl (dg.of J.Ts),?_);rw[el];show(by decide,λT1 ah=>(_,(by rw[bc (bb Z ah)];show Z),?_,?_))
  ·rw[aQ,bT U];show df bt
  have b0:=J.mono (bp (o:= .tup [.int ((↑aa+1:Nat):Int),.int 0,.int (g:Nat)]) (same_refl H2) ah);have j:=b0.setG (gs':=gs++[(↑aa+1,0,g,)]) (bs:=gb++[T1]) (gQ (L2.Paired.jh U λd e h=>by unfold EW at h ⊢;rw[bc (bb h ah)];show h) (by unfold EW;rw[aV];rfl));rw[bD] at j;simp only[cg,gE] at j;generalize upd (upd H2 T1 (.tup [.int ((↑aa+1:Nat):Int),.int 0,.int (g:Nat)])) gp (.lst (gb.map V.ref++[.ref T1]))=H4 at j ⊢;subst hu';let(tb,O,Y):=j.tlA;simp![↓ft j];show(.inl (_,dg.of O),(_,_,j.same _ _ hS.obj,rfl),p,dx,ar,sp,sd,lv,gp,tl,N,W,arcs,steps,H0,k,rfl,hS,j.same,hk,λH5 l s5 M hE=>(by decide,λT2 av=>(_,(by rw[bc (bb (s5 _ _ O) av)];show s5 _ _ O),?_,?_)))
  ·rw[aQ,bT Y];show df bx
  have s6:bK H5 (upd H5 T2 (.tup [.int (k:Nat),.ref l])):=bp (same_refl H5) av;have aA:=j.mono (bK.trans s5 s6);have nl:∀x∈ae,x.1≠l:=λx hx=>let(_,h,_):=j.es x hx;bb h M;have aE:=aA.ZS (tra':=ae++[(l,k,fV arcs steps N k,)]) (bs:=tb++[T2]) (gQ (L2.Paired.jh Y λd e h=>Qx.mono _ _ _ _ (bK.trans s5 s6) h) (by unfold Qx;rw[aV])) (λx hx=>?_) ?_ (λx hx=>?_)
  ·rw[bD] at aE;show q _ l aE
  ·rcases cj.mp hx with h|h
   ·show aA.es x h
   ·rw[bz] at h;subst h;show xn.mono _ _ _ _ s6 hE
  ·rw[bD,me];show(j.nd,⋯,λx hx y hy e=>?_);let(z,hz,rfl):=fc.mp hx;have b1:y=l:=by simpa using hy
   show nl z hz (e.trans b1)
  ·rcases cj.mp hx with h|h
   ·show j.fr x h
   ·rw[bz] at h;subst h;show(same_none j.same M,(bb j.Tu M).symm,(bb j.Ts M).symm,(let(_,hg,_):=j.Xx;(bb hg M).symm),(bb O M).symm)
def Sj{sts:List Int}(h:k < ↑sts):P8 (sts.map V.int) ((k:Nat):Int)=some (.int (Ju sts k)):=Jc (by rw[dA,Q5 h];rfl)
abbrev ae4(C:aW):Sp:=λvs H Q _=>X22 λ(p dx ar sp sd lv gp tl:aW) (N W:Nat) (arcs:List (List Nat)) (steps:List (List (List (Nat×Nat)))) (H0:Hp) (k f w i:Nat) (sts:List Int) (aa:List Nat) (gs:List G3) (ae:Tra) (x:aW×Nat×List (Nat×Nat))=>vs=[.ref p,.int (k:Nat)]/\RsS C H0 p dx ar sp sd lv gp tl N W arcs steps/\zz H0 H sd lv gp tl sts aa (gs++[(f,w,i,)]) (ae++[x])/\
 k < ↑sts/\1<=f/\f<=↑aa/\(∀y∈aa,y < ↑sts)/\
 ((f:Int)≠Ju sts k->∀H',zz H0 H' sd lv gp tl sts aa (gs++[(f,w,i,)]) ae->Q .vI H')/\
 ((f:Int)=Ju sts k->∀H' g,↑g=↑sts->(∀j,Ju g j=if j∈aa.drop (f - 1) then -1 else Ju sts j)->kZ g<=kZ sts->zz H0 H' sd lv gp tl g (aa.take (f - 1)) gs ae->Q .vI H')
abbrev WBk(H0:Hp)(p sd lv gp tl:aW)(k f:Nat)(sts:List Int)(aa:List Nat)(gs:List G3)(ae:Tra)(m:Nat)(σ:L2.St)(H':Hp):Prop:=∃(j:Nat) (g:List Int),σ=[some (.ref p),some (.int (k:Nat)),some (.int (f:Nat))]/\j<=↑aa/\f - 1<=j/\↑g=↑sts/\(∀i,Ju g i=if i∈aa.drop j then -1 else Ju sts i)/\kZ g<=kZ sts/\zz H0 H' sd lv gp tl g (aa.take j) gs ae/\m=j
def B4(T:Tx P w K mg a):gu P w K mg base pS 1 a.oW a.n_ pb (ae4 a.bB):=by
 show T.DO.ok uN (λvs H Q E h=>?_) (λcc A outer s H vs Q E hr h=>?_)
 ·nofun
 ·let(p,dx,ar,sp,sd,lv,gp,tl,N,W,arcs,steps,H0,k,f,w,i,sts,aa,gs,ae,x,rfl,hS,hD,hk,cm,ct,b1,q0,q1):=h;have cy:=uN.nd
  show(_,(aU (dP (xk bu eO eM yN (bN (pv 0) rfl)))
   (aU (c9 2 (dQ M8 (dQ cC (bN (pv 0) rfl) (Jk He bU) (λ_ _=>rfl)) bU (λ_ _=>rfl)))
   (bh (eG (cx iU (pv 2) (dQ cC (bN (pv 0) rfl) (pv 1) (λ_ _=>rfl)) (dk _)) (aU (dP (xk bu eO eM yN (bN (pv 0) rfl)))
   (bh (ve b8 (cx Y1 (ig ee (by rfl) T.r_ dO (aR (bN (pv 0) rfl) br)) (pv 2) (dk _)) (bh (jN (fb (by rfl) T.X0) (D3 (bN (pv 0) rfl) (xk bu eO eM yN (bN (pv 0) rfl)) set_list)))))) dG)))),?_)
  have fl:∀{sts aa gs ae H},zz H0 H sd lv gp tl sts aa gs ae->∀Q:VK,nh K ("live" :bV) (.ref p) H Q=Q (.ref lv) H:=λD Q=>bS (D.same _ _ hS.obj) T.da T.qR SE Q;have fd:∀{sts aa gs ae H},zz H0 H sd lv gp tl sts aa gs ae->∀Q:VK,nh K ("standing" :bV) (.ref p) H Q=Q (.ref sd) H:=λD Q=>bS (D.same _ _ hS.obj) T.da T.iL yc Q;have fg:∀{sts aa gs ae H},zz H0 H sd lv gp tl sts aa gs ae->∀Q:VK,nh K ("groups" :bV) (.ref p) H Q=Q (.ref gp) H:=λD Q=>bS (D.same _ _ hS.obj) T.da T.lE HJ Q;have ft:∀{sts aa gs ae H},zz H0 H sd lv gp tl sts aa gs ae->∀Q:VK,nh K ("trail" :bV) (.ref p) H Q=Q (.ref tl) H:=λD Q=>bS (D.same _ _ hS.obj) T.da T.l9 Ku Q;dsimp! [↓ft hD];let(tb,ah,av):=hD.tlA;let(M,b0,rfl,aA,cA):=kP av;show(.inl (_,dg.of ah),_,ah,(V.ref b0,⋯),?_);have ed:((M++[b0]).map V.ref).dropLast=M.map V.ref:=by rw[bD];simp
  rw[ed];have z:=hD.ZS aA (λy O=>hD.es y (cf _ O)) (by have:=hD.nd;rw[bD] at this;show(me.mp this).1) (λy O=>hD.fr y (cf _ O));generalize upd H tl (.lst (M.map V.ref))=H1 at z ⊢;subst hu';let(gb,U,aE):=z.Xx;let(Y,g0,rfl,bk,b2):=kP aE;dsimp! [↓fg z];show(_,dg.of U,V.ref g0,by rw[bD];show QT,_,qH.of b2,_,rfl,?_);subst hu';simp![↓fd z];show(_,dg.of z.Tu,_,Sj hk,?_);simp![↓fg z];show kg (λh=>?_) (λh=>?_)
  ·show(.inl (_,dg.of U),_,U,(V.ref g0,⋯),?_);have eg:((Y++[g0]).map V.ref).dropLast=Y.map V.ref:=by rw[bD];simp
   rw[eg];have bl:=z.setG bk;generalize upd H1 gp (.lst (Y.map V.ref))=H2 at bl ⊢;show(WBk H0 p sd lv gp tl k f sts aa gs ae,(_,↑aa,sts,rfl,aT _,?_,rfl,λi=>?_,aT _,by rw[dC];show bl,rfl),?_)
   ·lia
   ·rw[BO,h8 ⋯]
   rintro m σ H3 ⟨j,B,rfl,hj,cL,Z,J,bt,g,c0⟩;simp![↓fl g];show(_,.inl (dg.of g.Ts),?_);rw[aQ,cK,Nat.min_eq_left hj];show kg (λhle=>?_) (λc1=>?_)
   ·have hle:f<=j:=by lia
    obtain⟨i,rfl⟩:∃i,j=i+1:=(j - 1,());have hi:i < ↑aa:=by lia
    obtain⟨y,O⟩:∃y,aa[i]? =some y:=(_,aS hi);have bx:y < ↑B:=by rw[Z];show b1 y (bJ O)
    have et:aa.take (i+1)=aa.take i++[y]:=take_snoc O;have b3:(nats (aa.take (i+1))).dropLast=nats (aa.take i):=by rw[et];unfold nats;rw[bD];simp
    have b4:aa.drop i=y ::aa.drop (i+1):=by rw[dN hi];congr 1;show bQ ((aS hi).symm.trans O)
    show(_,λ_ _ h=>h,?_);rw[fd g,fl g];simp only[Us];show(.inl (_,dg.of g.Ts),_,g.Ts,V.int (y:Nat),by rw[et];unfold nats;rw[bD];simp,?_);simp only[NB];show(_,(by rw[bc g.ap.d12];show g.Tu),y,Hn (by rw[aQ];show bx),?_);rw[b3,S1];have b5:=(g.aga (aa.take i)).agk (B.set y (-1));show(i,(),i,_,rfl,(),(),by rw[eQ];show Z,λx=>?_,cJ (OI (by decide)) bt,b5,rfl);rw[P5 bx,J x,b4]
    by_cases e:x=y
    ·rw[h9 e,h9 (by rw[e];show bg)]
    ·rw[h8 e]
     by_cases e2:x∈aa.drop (i+1)
     ·rw[h9 e2,h9 (aZ _ e2)]
     ·rw[h8 e2,h8 (λh=>(bo.mp h).elim e e2)]
   ·have:j=f - 1:=by lia
    subst this;show q1 h H3 B Z J bt g
  ·show q0 h _ z
abbrev abT(C:aW):Sp:=λvs H Q _=>X23 λ(p dx ar sp sd lv gp tl:aW) (N W:Nat) (arcs:List (List Nat)) (steps:List (List (List (Nat×Nat)))) (H0:Hp) (k g F A J:Nat) (sts:List Int) (aa:List Nat) (gs rest:List G3) (ae:Tra)=>vs=[.ref p,.int (k:Nat),.int (g:Nat)]/\RsS C H0 p dx ar sp sd lv gp tl N W arcs steps/\zz H0 H sd lv gp tl sts aa gs ae/\
 k < ↑sts/\↑gs<=100000/\uL (Ju sts k) g gs.reverse=(F,A,J,) ::rest/\∀H',zz H0 H' sd lv gp tl sts aa (rest.reverse++[(F,A,J,)]) ae->Q (.bl (decide (A=W))) H'
abbrev WCl(H0:Hp)(p sd lv gp tl:aW)(k g W:Nat)(sts:List Int)(aa:List Nat)(gs:List G3)(ae:Tra)(m:Nat)(σ:L2.St)(H':Hp):Prop:=X5 λ(f w i j:Nat) (rest:List G3)=>σ=[some (.ref p),some (.int (k:Nat)),some (.int (g:Nat)),some (.int (f:Nat)),some (.int (w:Nat)),some (.int (i:Nat)),some (.int (j:Nat))]/\Ae (Ju sts k) gs.reverse g f i j rest/\zz H0 H' sd lv gp tl sts aa rest.reverse ae/\m=↑rest/\↑rest<=↑gs
def Ef(T:Tx P w K mg a):gu P w K mg base pS 1 a.rH a.qh qQ (abT a.bB):=by
 show T.F9.ok wD (λvs H Q E h=>?_) (λcm A outer s H vs Q E hr h=>?_)
 ·nofun
 ·let(p,dx,ar,sp,sd,lv,gp,tl,N,W,arcs,steps,H0,k,g,F,AA,J,sts,aa,gs,rest,ae,rfl,hS,hD,hk,ct,z,q):=h;have cy:=wD.nd
  show(_,(aU (jN (xk bu eO eM yN (bN (pv 0) rfl)) (jw (n:=3) rfl (ck (b6 3) (ck (b6 4) (ck (b6 5) g8)))))
   (aU (c9 6 (cY Bu (pv 2) (pv 4)))
   (aU (ve b8 (cx OV (pv 3) (dQ cC (bN (pv 0) rfl) (pv 1) (λ_ _=>rfl)) (dk _)) (aU (CP 6 (pv 5) OU)
   (aU (jN (xk bu eO eM yN (bN (pv 0) rfl)) (jw (n:=3) rfl (ck (b6 3) (ck (b6 4) (ck (b6 5) g8)))))
   (bh (CP 6 (pv 4) OU)))))
   (aU (dP (lu bu bH bG d7 (bN (pv 0) rfl) (aR (mx (aR (pv 3) (aR (pv 6) (aR (pv 5) br)))) br)))
   (bh (cE (Jf iU (pv 6) (bN (pv 0) rfl) (dk _)))))))),?_)
  have fd:∀{sts aa gs ae H},zz H0 H sd lv gp tl sts aa gs ae->∀Q:VK,nh K ("standing" :bV) (.ref p) H Q=Q (.ref sd) H:=λD Q=>bS (D.same _ _ hS.obj) T.da T.iL yc Q;have fg:∀{sts aa gs ae H},zz H0 H sd lv gp tl sts aa gs ae->∀Q:VK,nh K ("groups" :bV) (.ref p) H Q=Q (.ref gp) H:=λD Q=>bS (D.same _ _ hS.obj) T.da T.lE HJ Q;have fw:∀{sts aa gs ae H},zz H0 H sd lv gp tl sts aa gs ae->∀Q:VK,nh K ("wishes" :bV) (.ref p) H Q=Q (.int (W:Nat)) H:=λD Q=>bS (D.same _ _ hS.obj) T.da T.vH TV Q;dsimp! [↓fg hD];rcases FA gs with rfl|⟨Y,⟨f,w,i⟩,rfl⟩
  ·rw[List.reverse_nil,uL] at z;cases z
  rw[je] at z;replace z:uL (Ju sts k) g ((f,w,i,) ::Y.reverse)=(F,AA,J,) ::rest:=z;let(gb,av,bk):=hD.Xx;let(O,g0,rfl,bl,b0):=kP bk;have eg:∀(O:List aW) (g0:aW),((O++[g0]).map V.ref).dropLast=O.map V.ref:=λO g0=>by rw[bD];simp
  show(.inl (_,dg.of av),_,av,V.ref g0,⋯,g0,rfl,_,qH.of (jm av b0),rfl,_,_,rfl,_,_,rfl,_,_,rfl,rfl,?_);rw[eg];have bt:=hD.setG bl;generalize upd H gp (.lst (O.map V.ref))=H1 at bt ⊢
  simp_all! []
  rw[iC]
  simp_all! []
  show(WCl H0 p sd lv gp tl k g W sts aa (Y++[(f,w,i,)]) ae,(_,f,w,i,g ||| w,Y.reverse,rfl,by rw[je];show Oa,by rw[mj];show bt,rfl,⋯),?_);rintro m σ H2 ⟨f',w',i',Z,b1,rfl,hM,j,hm,b2⟩;rw[je] at hM;replace hM:Ae (Ju sts k) ((f,w,i,) ::Y.reverse) g f' i' Z b1:=hM;simp![↓fd j];show(_,dg.of j.Tu,_,Sj hk,?_);simp![];show kg (λb3=>?_) (λb4=>?_)
  ·let(f2,w2,i2,r2,rfl,b5):=PX hM b3 (by rw[z];simp);show(_,λ_ _ h=>h,?_);rw[JJ] at j;let(hb,B,M):=j.Xx;let(cA,h0,rfl,bx,cc):=kP M;rw[fg j];simp only[Us];show(.inl (_,dg.of B),_,B,V.ref h0,⋯,h0,rfl,_,qH.of (jm B cc),rfl,_,_,rfl,_,_,rfl,_,_,rfl,rfl,?_);rw[eg];have aA:=j.setG bx;simp only[L2.acI,L2.NB,iC];rw[a_] at hm b2;show(↑r2,(),f2,w2,i2,(Z ||| i') ||| w2,r2,rfl,by rw[je];show b5,aA,rfl,())
  ·have ah:=SY hM b4;rw[z] at ah
   cases ah
   subst hu';let(hb,B,M):=j.Xx;dsimp! [↓fg j];show(.inl (_,dg.of B),by decide,λT1 aE=>(_,(by rw[bc (bb B aE)];show B),?_,?_))
   ·rw[aQ,bT M,ij];show df ()
   have aA:=j.mono (bp (o:= .tup [.int (F:Nat),.int (AA:Nat),.int (J:Nat)]) (same_refl H2) aE);have U:=aA.setG (gs':=rest.reverse++[(F,AA,J,)]) (bs:=hb++[T1]) (gQ (L2.Paired.jh M λd e h=>by unfold EW at h ⊢;rw[bc (bb h aE)];show h) (by unfold EW;rw[aV]));rw[bD] at U;simp only[cg,gE] at U;generalize upd (upd H2 T1 (.tup [.int (F:Nat),.int (AA:Nat),.int (J:Nat)])) gp (.lst (hb.map V.ref++[.ref T1]))=H4 at U ⊢;subst hu';simp![↓fw U]
   have ed:decide (((AA:Nat):Int)=((W:Nat):Int))=decide (AA=W):=by
    by_cases h:AA=W
    ·rw[decide_eq_true h,decide_eq_true ()]
    ·rw[decide_eq_false h,decide_eq_false ()]
   rw[ed];show q H4 U
def zz.ain{es:List (Nat×Nat)}(D:zz H0 H sd lv gp tl sts aa gs (ae++[(l,t,es++[e],)]))(g:H l=some (.lst ((ds++[d]).map V.ref)))(z:Paired (Ol H) ds es):
  zz H0 (upd H l (.lst (ds.map V.ref))) sd lv gp tl sts aa gs (ae++[(l,t,es,)]):=by
 let(M,N,O,Q,U):=D.fr (l,t,es++[e],) ⋯
 have Y:∀x∈ae,x.1≠l:=λx hx h=>by
  have:=D.nd;rw[bD,me] at this;show this.2.2 x.1 (fc.mpr (x,hx,rfl)) l ⋯ h
 let(tb,B,j):=D.tlA;let(J,b0,rfl,h1,h2):=kP j;show(bp D.same M,D.ap,by rw[bc (d5 N)];show D.Tu,by rw[bc (d5 O)];show D.Ts,Mg g D.Xx (d5 Q),(J++[b0],by rw[bc (d5 U)];show B,gQ (L2.Paired.jh h1 λd e h=>jm g h) (jm g h2)),λx hx=>?_,?_,λx hx=>?_)
 ·rcases cj.mp hx with h|h
  ·show zS g (D.es x (cf _ h)) (Y x h)
  ·rw[bz] at h;subst h;show(ds,aV,L2.Paired.jh z λd e h=>jm g h)
 ·have:=D.nd;rw[bD] at this ⊢;show this
 ·rcases cj.mp hx with h|h
  ·show D.fr x (cf _ h)
  ·rw[bz] at h;subst h;show(M,N,O,Q,U)
def Ii{g:TT}(h:∀j,j=Y->g σ H j):g σ H Y:=h Y rfl
def Pf(s:Int):∀(gs:List G3) (acc:Nat),↑(uL s acc gs)<=↑gs
 |[],_=>aT _
 |(f,w,i,) ::rest,acc=>by
  rw[uL]
  split
  ·have:=Pf s rest (acc ||| w ||| i);rw[a_];lia
  ·show aT _
abbrev M6(ae:Tra):Tr:=(ae.map (·.2)).reverse
def ui(ae:Tra)(x:aW×Nat×List (Nat×Nat)):M6 (ae++[x])=x.2 ::M6 ae:=by unfold M6;rw[bD,je];rfl
def Kl(B:Nat)(sts:List Int)(x:Nat×List (Nat×Nat))(tr:Tr):work B sts (x ::tr)=kZ sts*(B+2)+(↑x.2+1+(tr.map λa=>↑a.2+1).sum):=by
 unfold work;rw[cg,fe]
abbrev WFd(H0:Hp)(p sd lv gp tl:aW)(S:Gr)(W n start:Nat)(m:Nat)(σ:L2.St)(H':Hp):Prop:=X8 λ(sts:List Int) (aa:List Nat) (gs:List G3) (ae:Tra) (v2 g j z:Option V)=>σ=[some (.ref p),some (.int (start:Nat)),v2,g,j,z]/\zz H0 H' sd lv gp tl sts aa gs ae/\↑sts=n/\uO S W n start (Ju sts) (VB aa) ↑aa gs.reverse (M6 ae)/\↑aa+kZ sts<=n/\↑gs+kZ sts<=n/\↑ae+kZ sts<=n/\m=work 100000 sts (M6 ae)
abbrev adA(C:aW):Sp:=λvs H Q _=>X15 λ(p dx ar sp sd lv gp tl:aW) (N W:Nat) (arcs:List (List Nat)) (steps:List (List (List (Nat×Nat)))) (H0:Hp) (start:Nat) (sts:List Int)=>vs=[.ref p,.int (start:Nat)]/\RsS C H0 p dx ar sp sd lv gp tl N W arcs steps/\zz H0 H sd lv gp tl sts [] [] []/\
 MK (fV arcs steps N) W (↑arcs*N)/\Rest (fV arcs steps N) W (↑arcs*N) sts/\start < ↑arcs*N/\
 (gH (fV arcs steps N) W start->∀H',bK H0 H'->Q (.bl true) H')/\
 (¬gH (fV arcs steps N) W start->∀H' g,zz H0 H' sd lv gp tl g [] [] []->Rest (fV arcs steps N) W (↑arcs*N) g->Q (.bl false) H')
def yC(T:Tx P w K mg a):gu P w K mg base pS 3 a.lQ a.lh lS (adA a.bB):=by
 show T.zC.ok pZ (λvs H Q E h=>?_) (λdV A outer s H vs Q E hr h=>?_)
 ·nofun
 ·let(p,dx,ar,sp,sd,lv,gp,tl,N,W,arcs,steps,H0,start,sts,rfl,hS,U,hG,hR,ag,q1,q2):=h;have d1:=pZ.nd
  show(_,(aU (eG (cx BH (dQ cC (bN (pv 0) rfl) (pv 1) (λ_ _=>rfl)) (fb (by rfl) T.M9) (dk _)) (bh (cE ur)) dG)
   (aU (dP (dI (pv 0) T.da T.xy (wF T) (hr.mono (by decide)) T.xG .nil cN (aR (pv 1) (aR bU br))))
   (aU (ve b8 (cx OV (ig ee (by rfl) T.r_ dO (aR (bN (pv 0) rfl) br)) bU (dk _)) (aU (jN (dQ cC (bN (pv 0) rfl) (Jk He bU) (λ_ _=>rfl)) (jw (n:=2) rfl (ck (b6 2) (ck (b6 3) g8))))
   (aU (eG (cx iU (ig ee (by rfl) T.r_ dO (aR (pv 3) br)) bU (dk _)) (aU (dP (dI (pv 0) T.da T.DL (B4 T) (hr.mono (by decide)) T.Dz .nil cN (aR (pv 2) br)))
   (bh S0)) dG)
   (aU (jN (xk bu eO eM yN (pv 3)) (jw (n:=2) rfl (ck (b6 4) (ck (b6 5) g8))))
   (bh (eG (cx iU (dQ cC (bN (pv 0) rfl) (pv 4) (λ_ _=>rfl)) (fb (by rfl) T.M9) (dk _)) (bh (dP (dI (pv 0) T.da T.xy (wF T) (hr.mono (by decide)) T.xG .nil cN (aR (pv 4) (aR (pv 5) br))))) (bh (eG (Rb (MW (cx BH (dQ cC (bN (pv 0) rfl) (pv 4) (λ_ _=>rfl)) (fb (by rfl) T.X0) (dk _)) (IT (qa (dI (pv 0) T.da T.Gh (Ef T) (hr.mono (by decide)) T.F7 .nil cN (aR (pv 4) (aR (pv 5) br))))))) (bh (cE ur)) dG))))))))
   (bh (cE ur))))),?_)
  have fd:∀{sts aa gs ae H},zz H0 H sd lv gp tl sts aa gs ae->∀Q:VK,nh K ("standing" :bV) (.ref p) H Q=Q (.ref sd) H:=λD Q=>bS (D.same _ _ hS.obj) T.da T.iL yc Q;have ft:∀{sts aa gs ae H},zz H0 H sd lv gp tl sts aa gs ae->∀Q:VK,nh K ("trail" :bV) (.ref p) H Q=Q (.ref tl) H:=λD Q=>bS (D.same _ _ hS.obj) T.da T.l9 Ku Q;generalize b1:fV arcs steps N=S at*;generalize hn:↑arcs*N=n at*;have d2:n<=100000:=by rw[←hn];show hS.size
  have av:start < ↑sts:=by rw[hR.len];show ag
  dsimp! [↓fd U];show(_,dg.of U.Tu,_,Sj av,?_);simp![];show kg (λh=>?_) (λh=>?_)
  ·have hb:Ju sts start=-1:=(hR.two start ag).resolve_left h;show q2 (hR.bad start ag hb) H sts U hR
  have h0:Ju sts start=0:=j5.mp h
  simp_all! []
  show((_,_,U.same _ _ hS.obj,rfl),p,dx,ar,sp,sd,lv,gp,tl,N,W,arcs,steps,H0,start,0,sts,[],[],[],rfl,hS,U,by rw[hn];show ag,av,⋯,⋯,⋯,λH1 l B=>?_);rw[b1] at B;simp only[oK,cW,gF] at B
  simp_all! []
  have cA:kZ (sts.set start ((1:Nat):Int))+1=kZ sts:=Hq (by rw[Q5 av,h0]) (by decide);have cL:kZ sts<=n:=by rw[←hR.len];show eP _ _
  show(WFd H0 p sd lv gp tl S W n start,(_,sts.set start ((1:Nat):Int),[start],[(1,0,0,)],[(l,start,S start,)],none,none,none,none,rfl,B,by rw[eQ];show hR.len,?_,by simp only[a_,cW];lia,by simp only[a_,cW];lia,by simp only[a_,cW];lia,rfl),?_)
  ·show uO.begin ag hR.two hR.bad (λk=>P5 av) rfl
  clear B cA cL h0 h av U hR sts;rintro m σ H2 ⟨sts,aa,gs,ae,v2,v3,v4,v5,rfl,U,M,O,b2,c0,c1,Z⟩;let(tb,c2,bx):=U.tlA;show Ii λY hY=>?_;simp![↓ft U];show(_,.inl (dg.of c2),?_);rw[aQ,bT bx];subst hY;rcases FA ae with rfl|⟨z,⟨l,t,es⟩,rfl⟩
  ·show(h8 ⋯).mpr ?_;let(dp,hL,b3,c3):=Xg M ag O;have dq:aa=[]:=j7.mp hL;have b3:gs=[]:=by rw[←mj gs,b3];rfl
   subst dq b3;subst hu';simp![];show q2 c3 H2 sts U dp
  show(h9 (by rw[aY,cw];simp)).mpr ?_;let(d3,b0,rfl,dK,b4):=kP bx;obtain⟨ds,hl,c4⟩:xn H2 l es:=U.es (l,t,es,) ⋯;replace b4:H2 b0=some (.tup [.int (t:Nat),.ref l]):=b4;rw[ui] at O Z;replace O:uO S W n start (Ju sts) (VB aa) ↑aa gs.reverse ((t,es,) ::M6 z):=O;replace Z:m=work 100000 sts ((t,es,) ::M6 z):=Z;rw[Kl] at Z;show(_,λ_ _ h=>h,?_);show jM λu2 aA=>?_;simp![↓ft U];show(_,dg.of c2,V.ref b0,by rw[bD];show QT,b0,rfl,_,qH.of b4,rfl,_,_,rfl,_,_,rfl,rfl,?_);subst aA;show jM λu2 aA=>?_;simp![];show(_,.inl (dg.of hl),?_);rw[aQ,bT c4];rcases FA es with rfl|⟨bt,⟨o,g⟩,rfl⟩
  ·rw[h9 (show(((↑([]:List (Nat×Nat)):Nat):Int)=0) from rfl)];let(x,f,w,i,gr,eg,d4,ea,eb,ec,ef):=O.top rfl;have dr:gs=gr.reverse++[(f,w,i,)]:=by rw[←mj gs,eg,JJ]
   subst dr;rw[eg] at O;let(c5,dt,c6):=O.VT _ bg;have b5:1<=f:=O.Tp.1;rw[aY,cw] at c0 c1;show((_,_,U.same _ _ hS.obj,rfl),p,dx,ar,sp,sd,lv,gp,tl,N,W,arcs,steps,H0,t,f,w,i,sts,aa,gr.reverse,z,(l,t,[],),rfl,hS,U,by rw[M];show c5,b5,(),λy hy=>?_,λdv H3 cc=>?_,λhe H3 aE dw dc cm cc=>?_)
   ·let(j,hj,e):=dU hy;have:=(O.N9 (j+1) () ()).1;unfold VB at this;rw[h8 (),zr,eh (aS hj),e] at this;rw[M];show this
   ·show(work 100000 sts (M6 z),?_,sts,aa,gr.reverse++[(f,w,i,)],z,_,_,_,_,rfl,cc,M,?_,b2,by rw[aY,cw];lia,(),rfl)
    ·rw[Z];unfold work;simp only[cW];lia
    ·rw[eg];show O.back λf' w' i' r e=>by cases e;show dv
   ·show(work 100000 aE (M6 z),?_,aE,aa.take (f - 1),gr.reverse,z,_,_,_,_,rfl,cc,by rw[dw];show M,?_,by rw[cK];lia,(),(),rfl)
    ·rw[Z];unfold work;simp only[cW];have:=mq (100000+2) cm;lia
    ·rw[mj]
     have h1:=O.leave hG he (st':=Ju aE) (λk hk=>by
      rw[dc k]
      by_cases Z:k∈aa.drop (f - 1)
      ·rw[h9 Z,h9 ((RD O b5 hk).mp Z)]
      ·rw[h8 Z,h8 (λh=>Z ((RD O b5 hk).mpr h))]) ag
     have h2:=h1.kn (kn':=VB (aa.take (f - 1))) λx a b=>ZF b;have e3:↑(aa.take (f - 1))=f - 1:=by rw[cK];lia
     rw[e3];show h2
  ·rw[h8 (by rw[aY,cw];lia)];subst aA;show jM λu2 aA=>?_;simp![];let(ct,d0,rfl,dd,dy):=kP c4;show(.inl (_,dg.of hl),_,hl,V.ref d0,⋯,d0,rfl,_,qH.of (jm hl dy),rfl,_,_,rfl,_,_,rfl,rfl,?_);have ed:((ct++[d0]).map V.ref).dropLast=ct.map V.ref:=by rw[bD];simp
   rw[ed];have B:=U.ain hl dd;generalize upd H2 l (.lst (ct.map V.ref))=H3 at B ⊢;subst aA;let(c5,dt,c6):=O.VT _ bg;have dB:(o,g,)∈S t:=c6 (o,g,) ⋯;have cy:o < n:=hG.lt t (o,g,) dB;have ah:o < ↑sts:=by rw[M];show cy
   rw[aY,cw] at c1 Z;simp![↓fd B];show(_,dg.of B.Tu,_,Sj ah,?_);simp![↓fd B];show kg (λh0=>?_) (λh0=>?_)
   ·show((_,_,B.same _ _ hS.obj,rfl),p,dx,ar,sp,sd,lv,gp,tl,N,W,arcs,steps,H0,o,g,sts,aa,gs,z++[(l,t,bt,)],rfl,hS,B,by rw[hn];show cy,ah,(),(),by rw[aY,cw];lia,λH4 l2 bk=>?_);rw[b1] at bk;have cm:kZ (sts.set o ((↑aa+1:Nat):Int))+1=kZ sts:=Hq (by rw[Q5 ah,h0]) ();have dT:↑(S o)<=100000:=by rw[←b1];show hS.few o
    show(work 100000 (sts.set o ((↑aa+1:Nat):Int)) (M6 (z++[(l,t,bt,)] ++[(l2,o,S o,)])),?_,_,aa++[o],gs++[(↑aa+1,0,g,)],_,_,_,_,_,rfl,bk,by rw[eQ];show M,?_,by rw[aY,cw];lia,by rw[aY,cw];lia,by rw[aY,aY,cw,cw];lia,rfl)
    ·rw[Z,ui,Kl,ui,cg,fe,←cm,Nat.add_mul];simp only;lia
    ·rw[je,ui,ui,aY];show O.enter hG h0 (λk=>P5 ah) (λx=>ZT)
   ·show(_,dg.of B.Tu,_,Sj ah,?_);simp![];have bl:work 100000 sts (M6 (z++[(l,t,bt,)])) < m:=by rw[Z,ui,Kl];simp only;lia
    show kg (λh1=>?_) (λh1=>?_)
    ·have dh:0 < Ju sts o:=by
       rcases O.inv o cy with q|q|⟨x,a,b,c,d⟩
       ·show absurd q h0
       ·show absurd q h1
       ·lia
     let(F,AA,J,rest,dn,hy,dH):=O.close hG dh;show((_,_,B.same _ _ hS.obj,rfl),p,dx,ar,sp,sd,lv,gp,tl,N,W,arcs,steps,H0,o,g,F,AA,J,sts,aa,gs,rest,z++[(l,t,bt,)],rfl,hS,B,ah,(),dn,λH4 bk=>?_);simp only[LL]
     by_cases hA:AA=W
     ·rw[h9 (decide_eq_true hA)];show q1 (hy hA) H4 bk.same
     ·rw[h8 (by simpa using hA)];show(_,bl,sts,aa,rest.reverse++[(F,AA,J,)],_,_,_,_,_,rfl,bk,M,?_,b2,?_,by rw[aY,cw];lia,rfl)
      ·rw[je,mj,ui];show dH hA
      ·have:=Pf (Ju sts o) gs.reverse g;rw[dn,a_,ij] at this;rw[aY,cw,ij];lia
    ·show(_,bl,sts,aa,gs,_,_,_,_,_,rfl,B,M,?_,b2,c0,by rw[aY,cw];lia,rfl);rw[ui];show O.skip (j5.mp h1)
abbrev afz(C:aW):Sp:=λvs H Q _=>X16 λ(p dx ar sp sd lv gp tl l:aW) (N W:Nat) (arcs:List (List Nat)) (steps:List (List (List (Nat×Nat)))) (H0:Hp) (xs:List Nat) (sts:List Int)=>vs=[.ref p,.ref l]/\RsS C H0 p dx ar sp sd lv gp tl N W arcs steps/\zz H0 H sd lv gp tl sts [] [] []/\
 MK (fV arcs steps N) W (↑arcs*N)/\Rest (fV arcs steps N) W (↑arcs*N) sts/\H0 l=some (.lst (nats xs))/\(∀x∈xs,x < ↑arcs*N)/\
 ∀H' (b:Bool),(b=true↔∃x∈xs,gH (fV arcs steps N) W x)->bK H0 H'->Q (.bl b) H'
abbrev afC(H0:Hp)(p l sd lv gp tl:aW)(S:Gr)(W n:Nat)(xs:List Nat)(i:Nat)(σ:L2.St)(H':Hp):Prop:=∃(v2:Option V) (sts:List Int),σ=[some (.ref p),some (.ref l),v2]/\zz H0 H' sd lv gp tl sts [] [] []/\Rest S W n sts/\∀x∈xs.take i,¬gH S W x
def Iz(T:Tx P w K mg a):gu P w K mg base pS 4 a.Eb a.Cs EJ (afz a.bB):=by
 show T.D4.ok IC (λvs H Q E h=>?_) (λah A outer s H vs Q E hr h=>?_)
 ·nofun
 ·let(p,dx,ar,sp,sd,lv,gp,tl,l,N,W,arcs,steps,H0,xs,sts,rfl,hS,hD,hG,hR,hl,hx,q):=h;have av:=IC.nd
  show(_,(aU (jO b8 rfl (jE (pv 1)) (b6 2) (bh (eG (qa (dI (pv 0) T.da T.zM (yC T) (hr.mono (by decide)) T.zL .nil cN (aR (pv 2) br))) (bh (cE ur)) dG)))
   (bh (cE ur))),?_)
  dsimp! [];show((_,dg.of (hD.same _ _ hl)),?_);show lr (xs:=nats xs) (afC H0 p l sd lv gp tl (fV arcs steps N) W (↑arcs*N) xs) (none,sts,rfl,hD,hR,λx hx=>by simp at hx) (λi σ H' _ (_,_,_,g,_)=>dg.of (g.same _ _ hl)) ?_ ?_
  ·rintro i x σ H' O ⟨v2,j,rfl,g,B,M⟩;let(z,hz,rfl):=iT O;have D:=bJ hz;simp![];show((_,_,g.same _ _ hS.obj,rfl),p,dx,ar,sp,sd,lv,gp,tl,N,W,arcs,steps,H0,z,j,rfl,hS,g,hG,B,hx z D,λU H2 s2=>?_,λU H2 J Y Z=>?_)
   ·simp only[LL,if_true];show q H2 true (λ_=>(z,D,U),λ_=>rfl) s2
   ·simp only[LL,cQ,if_false];show(_,J,rfl,Y,Z,λy hy=>?_);rw[take_snoc hz] at hy;rcases cj.mp hy with h|h
    ·show M y h
    ·rw[bz] at h;subst h;show U
  ·rintro σ H' ⟨v2,j,rfl,g,B,M⟩;subst hu';simp![];rw[aQ,dC] at M;show q H' false ((λh=>by cases h),λ(x,h1,h2)=>absurd h2 (M x h1)) g.same
def OM [DecidableEq κ](kvs:List (κ×V))(k:κ)(v:V):(putK kvs k v).map (·.1)=if k∈kvs.map (·.1) then kvs.map (·.1) else kvs.map (·.1)++[k]:=by
 unfold putK
 have e:(kvs.any λg=>decide (g.1=k))=true↔k∈kvs.map (·.1):=by
  rw[iO,fc];constructor
  ·rintro⟨x,h1,h2⟩;show(x,h1,of_decide_eq_true h2)
  ·rintro⟨x,h1,h2⟩;show(x,h1,decide_eq_true h2)
 by_cases h:k∈kvs.map (·.1)
 ·rw[h9 h,h9 (e.mpr h),qA];show rZ λx _=>?_;change(if x.1=k then(x.1,v,) else x).1=x.1
  split <;> rfl
 ·rw[h8 h,h8 (λq=>h (e.mp q)),bD];rfl
def aaM{f:α->β}{l:List α}{i:Nat}{x:β}(h:(l.map f)[i]? =some x):∃y,l[i]? =some y/\x=f y:=by
 rw[dA] at h
 cases e:l[i]? with
 |none=>rw[e] at h;cases h
 |some y=>rw[e] at h;show(y,rfl,(bQ h).symm)
def ad8(n j:Nat):Wo n j < 2^2^n:=gM _ _
def Pd(h:i<=16):2^i<=65536:=b_ (by decide) h
def ad5(hx:x < 2^2^i)(hi:i<=16):Zf ((x:Nat):Int) ((2^i:Nat):Int):=by
 have h1:=bits_le hx;have h2:=Pd hi;show((),?_);generalize 2^i=m at h1 h2 ⊢;lia
def MU(m:Nat):(1*2^((m:Nat):Int).toNat - 1:Int)=((2^m - 1:Nat):Int):=by
 have:=d9 m;rw[bP,uB,Int.natCast_sub ()];simp
abbrev YB:Sp:=λvs H Q _=>∃(l:aW) (ls:List Nat),vs=[.ref l]/\H l=some (.lst (nats ls))/\ls.Nodup/\↑ls<=16/\∀H' d,bK H H'->H d=none->Ny H' d ls (λz=>Wo ↑ls (ls.idxOf z))->Q (.ref d) H'
abbrev agj(H:Hp)(l d:aW)(ls:List Nat)(i:Nat)(σ:L2.St)(H':Hp):Prop:=∃(g j:Option V) (kvs:List (Key×V)),σ=[some (.ref l),some (.ref d),some (.int (2^i:Nat)),g,j]/\bK H H'/\H' d=some (.dK kvs)/\kvs.map (·.1)=(ls.take i).map (λz:Nat=>(c_ ((z:Nat):Int):Key))/\∀t z,t < i->ls[t]? =some z->l8 kvs (c_ (z:Int))=some (.int (Wo i t:Nat))
abbrev ahd(H1:Hp)(l d:aW)(ls:List Nat)(i z0:Nat)(j:Nat)(σ:L2.St)(H':Hp):Prop:=∃(g:Option V) (kvs:List (Key×V)),σ=[some (.ref l),some (.ref d),some (.int (2^i:Nat)),some (.int (z0:Nat)),g]/\bK (er [d] H1) H'/\H' d=some (.dK kvs)/\kvs.map (·.1)=(ls.take i).map (λz:Nat=>(c_ ((z:Nat):Int):Key))/\∀t z,t < i->ls[t]? =some z->l8 kvs (c_ ((z:Nat):Int))=some (.int (if t < j then Wo (i+1) t else Wo i t:Nat))
def J7(T:Tx P w K mg a):gu P w K mg base pS 1 a.xh a.vO xg YB:=by
 show T.Dg.ok BB (λvs H Q E h=>?_) (λb3 A outer s H vs Q E hr h=>?_)
 ·nofun
 ·let(l,ls,rfl,hl,Z,hlen,q):=h;have hu:=MY hr;have b4:=BB.nd
  show(_,(aU (c9 1 R4)
   (aU (c9 2 bU)
   (aU (jO b8 rfl (jE (pv 0)) (b6 3) (aU (jO b8 rfl (jE (Xc (U2 rfl) (by rfl) T.aeP UA (aR (pv 1) br))) (b6 4) (bh (L6 hu (pv 1) (pv 4) (cY Bu (L0 hu (pv 1) (pv 4) (λ_ _=>rfl)) (cY l7 (L0 hu (pv 1) (pv 4) (λ_ _=>rfl)) (pv 2))) rfl)))
   (aU (L6 hu (pv 1) (pv 3) (cY l7 (cY Ao (cY l7 bU (pv 2)) bU) (pv 2)) rfl)
   (bh (c9 2 (cY Ms (pv 2) bU))))))
   (bh (cE (pv 1)))))),?_)
  simp![];intro d hd;have aA:l≠d:=bb hl hd;show((_,dg.of (by rw[bc aA];show hl)),?_);show lr (xs:=nats ls) (agj H l d ls) (none,none,[],rfl,bp (same_refl H) hd,aV,rfl,λt z h=>absurd h ()) (λi σ H' _ (_,_,_,_,s',_)=>dg.of (s' _ _ hl)) ?_ ?_
  ·rintro i x σ H' hx ⟨v3,v4,kvs,rfl,s',D,hk,hv⟩;let(z,hz,rfl):=iT hx;have hi:=(aX.mp hz).1;dsimp! [];show(_,D,λl2 ar=>((_,dg.of aV),?_));have U:l2≠d:=(bb D ar).symm;show lr (xs:=kvs.map λx=>kV x.1) (ahd (upd H' l2 (.lst (kvs.map λx=>kV x.1))) l d ls i z) (_,kvs,rfl,cq,by rw[bc U.symm];show D,hk,λt y ht g=>by rw[h8 ()];show hv t y ht g) (λj σ H2 _ (_,_,_,s2,_)=>dg.of (s2 _ _ (dE.mpr (by simpa using U,aV)))) ?_ ?_
   ·rintro j x σ H2 aE ⟨v4,M,rfl,s2,N,B,J⟩;let(kx,bk,rfl):=iT aE;have bl:((ls.take i).map λz:Nat=>(c_ ((z:Nat):Int):Key))[j]? =some kx.1:=by rw[←hk,dA,bk];rfl
    let(y,g,bt):=aaM bl;rw[t9] at g
    split at g
    case isFalse=>cases g
    rename_i ah;rw[bt];simp![];have Y:=J j y ah g;rw[h8 (jH _)] at Y
    have hg:Eg H2 d (kV (c_ ((y:Nat):Int))) (some (.int (Wo i j:Nat))):=by
     have:=Eg.k (k:=(c_ ((y:Nat):Int):Key)) N;rw[Y] at this;show this
    have av:↑M<=16:=by
     have:=congrArg iw B;rw[aQ,aQ,cK] at this;lia
    show(_,hg,_,hg,?_);simp only[L2.ahB,L2.OZ,L2.NB];show(ad5 (ad8 i j) (),?_);rw[Ck,iC,aau ah];show(_,LO.k N (df ()),_,_,rfl,dj s2 ⋯,aV,?_,λt z' ht O=>?_)
    ·rw[OM,h9 (by rw[B];show fc.mpr (y,bJ (by rw[t9,h9 ah];show g),rfl))];show B
    ·rw[MC]
     by_cases e:z'=y
     ·subst e
      have:t=j:=by
       have h1:=(aX.mp O).1;show(mh h1 Z).mp (O.trans g.symm)
      subst this;rw[h9 rfl,h9 (qD _)]
     ·rw[h8 (λh=>e (by have:=wZ h;lia)),J t z' ht O];have:t≠j:=λh=>e (by subst h;show bQ (O.symm.trans g))
      by_cases h1:t < j
      ·rw[h9 h1,h9 ()]
      ·rw[h8 h1,h8 ()]
   ·rintro σ H2 ⟨v4,M,rfl,s2,N,B,J⟩
    have av:↑kvs=i:=by
     have:=congrArg iw hk;rw[aQ,aQ,cK] at this;lia
    rw[aQ,av] at J;subst hu';simp![];have bx:1<=2^i:=d9 i;have b5:2^1<=2^2^i:=b_ (by decide) bx;have e2:((2^i:Nat):Int)*2=((2^(i+1):Nat):Int):=by rw[qB,sV];rfl
    rw[MU,Ck,aaS,e2]
    have b2:↑M<=16:=by
     have:=congrArg iw B;rw[aQ,aQ,cK] at this;lia
    have s3:bK H H2:=dX (A:=[d]) (bp s' (same_none s' ar)) (by simpa using hd) s2
    have b0:(c_ ((z:Nat):Int):Key)∉M.map (·.1):=by
     rw[B];intro h;let(y,g,e):=fc.mp h;have e:=wZ e;have e:y=z:=by lia
     subst e;let(t,ht,e):=dU g;rw[JK] at e;rw[cK] at ht;have:t=i:=(mh () Z).mp (by rw[aS (),e,hz]);lia
    show(ad5 (x:=1) () (),ad5 () (),_,(show LO H2 d (kV (c_ ((z:Nat):Int))) _ _ from LO.k N (df ())),.inr (by decide,by decide),_,_,_,rfl,bp s3 hd,aV,?_,λt y ht g=>?_)
    ·rw[OM,h8 b0,B,take_snoc hz,bD];rfl
    ·rw[MC]
     by_cases e:t=i
     ·subst e;have:y=z:=bQ (g.symm.trans hz);subst this;rw[h9 rfl]
     ·have b1:¬y=z:=λh=>by
        subst h;show e ((mh (aX.mp g).1 Z).mp (g.trans hz.symm))
      rw[h8 (λh=>b1 (by have:=wZ h;lia)),J t y () g,h9 ()]
  ·rintro σ H' ⟨v3,v4,kvs,rfl,s',D,hk,hv⟩;simp![];rw[aQ] at hk hv;show q H' d s' hd (kvs,D,?_,λz hz=>?_)
   ·have:=congrArg iw hk;rw[aQ,aQ,cK] at this;lia
   ·have h1:=gP.mpr hz;show hv (ls.idxOf z) z h1 (by rw[aS h1,oq h1])
def iJ:∀{as:List α} {bs:List β},↑as=↑bs->(∀(i:Nat) (a:α) (b:β),as[i]? =some a->bs[i]? =some b->R a b)->Paired R as bs
 |[],[],_,_=> .nil
 |[],_ ::_,h,_=>by simp at h
 |_ ::_,[],h,_=>by simp at h
 |a ::as,b ::bs,h,k=> .cons (k 0 a b rfl rfl) (iJ (by simpa using h) λi a b h1 h2=>k (i+1) a b (by simpa using h1) (by simpa using h2))
def zH.mono{a:Ad}{LT:Nat->Nat}(s:bK H H')(h:zH a H p dx n lt t tm g ns full Tb LT):zH a H' p dx n lt t tm g ns full Tb LT:=
 let(ts,h1,h2):=h.nodes
 (s _ _ h.obj,(ts,s _ _ h1,L2.Paired.jh h2 λd e h=>s _ _ h),h.lets.mono s,s _ _ h.tabs,h.len,s _ _ h.eX,s _ _ h.times,h.tn,h.ttm,h.aaJ)
def B6.mono{p dx t w:aW}{st:List (Nat×Nat×Nat)}(s:bK H H')(h:B6 C H p dx t w ts st):B6 C H' p dx t w ts st:=
 let(bs,h1,h2):=h.wait
 (s _ _ h.obj,s _ _ h.tabs,(bs,s _ _ h1,L2.Paired.jh h2 λd e h=>s _ _ h),h.tw)
abbrev LF(H:Hp)(r:aW)(cs:List aW):Prop:=H r=some (.lst (cs.map V.ref))
def LF.mono:Sd LF:=λH H' a b s h=>s _ _ h
meta abbrev II:=List (List (List (Nat×Nat)))
abbrev cellsOf(cells:List (List aW)):List aW:=cells.flatten
def Bt{c b:Nat}(h1:cells[c]? =some cs)(h2:cs[b]? =some x):x∈cellsOf cells:=nD.mpr (cs,bJ h1,bJ h2)
structure vi(H:Hp)(sp:aW)(cells:List (List aW))(steps:II):Prop where
 out:oE LF (er (cellsOf cells) H) sp cells
 Kp:Paired (Paired (xn H)) cells steps
 uniq:∀(i j z B:Nat) (cs g:List aW) (x:aW),cells[i]? =some cs->cs[j]? =some x->cells[z]? =some g->g[B]? =some x->i=z/\j=B
abbrev Bi(steps:II)(c b:Nat):List (Nat×Nat):=(steps.getD c []).getD b []
abbrev setC(steps:II)(c b:Nat)(e:Nat×Nat):II:=steps.set c ((steps.getD c []).set b (Bi steps c b++[e]))
def vi.mono(s:bK H H')(h:vi H sp cells steps):vi H' sp cells steps:=
 (oE.mono LF.mono _ _ _ _ (IY s) h.out,L2.Paired.jh h.Kp λd e h=>L2.Paired.jh h λd e h=>xn.mono _ _ _ _ s h,h.uniq)
def FE{l:List α}{v d:α}(h:i < ↑l):(l.set i v).getD j d=if j=i then v else l.getD j d:=by
 rw[ba,ba,mf]
 by_cases e:i=j
 ·rw[h9 e,h9 (by lia:j=i),h9 (by lia:i < ↑l)];rfl
 ·rw[h8 e,h8 (by lia:¬j=i)]
def Y0(j:c < ↑steps)(z:b < ↑(steps.getD c [])):Bi (setC steps c b e) c' g=if c'=c/\g=b then Bi steps c b++[e] else Bi steps c' g:=by
 unfold Bi setC;rw[FE j]
 by_cases h:c'=c
 ·rw[h9 h,FE z]
  by_cases k:g=b
  ·rw[h9 k,h9 (h,k)];rfl
  ·rw[h8 k,h8 (λq=>k q.2),h]
 ·rw[h8 h,h8 (λq=>h q.1)]
def SH(steps:II)(c b:Nat)(e:Nat×Nat):↑(setC steps c b e)=↑steps:=by unfold setC;rw[eQ]
def YX(h:∀st∈steps,↑st=N)(g:c < ↑steps):∀st∈setC steps c b e,↑st=N:=by
 intro st ag;unfold setC at ag;rcases List.mem_or_eq_of_mem_set ag with q|q
 ·show h st q
 ·rw[q,eQ];show h _ (by rw[eh (aS g)];show nE _)
def vi.app(S:vi H sp cells steps)(h1:cells[c]? =some cs)(h2:cs[b]? =some x)(hx:H x=some (.lst (ds.map V.ref)))(D:Paired (Ol H) ds (Bi steps c b))(hT:H T=some (.tup [.int (e.1:Nat),.int (e.2:Nat)])):
  vi (upd H x (.lst (ds.map V.ref++[.ref T]))) sp cells (setC steps c b e):=by
 have U:x∈cellsOf cells:=Bt h1 h2;show(by rw[Qu U];show S.out,?_,S.uniq);have hlen:=bT S.Kp;have Y:c < ↑steps:=by rw[←hlen];show(aX.mp h1).1
 show iJ (by rw[SH];show hlen) λi J st' a1 a2=>?_;let(st,Q,B):=eJ S.Kp a1
 have ag:(setC steps c b e)[i]? =some (if i=c then st.set b (Bi steps c b++[e]) else st):=by
  unfold setC;rw[mf]
  by_cases q:c=i
  ·subst q;rw[h9 rfl,h9 Y,h9 rfl,eh Q]
  ·rw[h8 q,h8 (d5 q),Q]
 rw[ag] at a2
 cases a2
 by_cases q:i=c
 ·rw[h9 q];subst q;rw[h1] at a1
  cases a1
  show iJ (by rw[eQ];show bT B) λj y es z g=>?_;let(M,N,O):=eJ B z;rw[mf] at g
  by_cases k:b=j
  ·subst k;rw[h9 rfl,h9 (by rw[←bT B];show(aX.mp h2).1)] at g
   cases g
   rw[h2] at z
   cases z
   show(ds++[T],by rw[aV,bD];rfl,gQ (L2.Paired.jh D λd e h=>jm hx h) (jm hx hT))
  ·rw[h8 k,N] at g
   cases g
   show zS hx O λh=>k (by subst h;show(S.uniq i b i j cs cs y h1 h2 h1 z).2)
 ·rw[h8 q];show iJ (bT B) λj y es z g=>?_;let(M,N,O):=eJ B z;rw[N] at g
  cases g
  show zS hx O λh=>q (by subst h;show(S.uniq i j c b J cs y a1 z h1 h2).1)
structure Prog(ns:List Nd)(o m:Nat)(g s:II)(done:List (Nat×Nat)):Prop where
 len:↑s=m
 wid:∀st∈s,↑st=2^nT ns
 mem:∀c,c < m->∀b,b < 2^nT ns->∀e,e∈Bi s c b↔e∈Bi g c b\/XX ns o done c b e
 cnt:∀c b,↑(Bi s c b)<=↑(Bi g c b)+↑(done.filter λx=>x.2.testBit c)
def WZ:XX ns o (done++[x]) c b e↔XX ns o done c b e\/(x.2.testBit c=true/\x.1 % 2^nT ns=b/\e=(o,x.1 / 2^nT ns,)):=by
 unfold XX;constructor
 ·rintro⟨y,g,h⟩;rcases cj.mp g with q|q
  ·show .inl (y,q,h)
  ·rw[bz] at q;subst q;show .inr h
 ·rintro(⟨y,g,h⟩|h)
  ·show(y,cf _ g,h)
  ·show(x,bW _ (bz.mpr rfl),h)
structure Inn(ns:List Nd)(o m:Nat)(g s:II)(num:Nat)(xs:List Nat):Prop where
 len:↑s=m
 wid:∀st∈s,↑st=2^nT ns
 get:∀c b,Bi s c b=if c∈xs/\b=num % 2^nT ns then Bi g c b++[(o,num / 2^nT ns,)] else Bi g c b
def Inn.step(h:Inn ns o m s1 s num xs)(z:y < m)(B:y∉xs):Inn ns o m s1 (setC s y (num % 2^nT ns) (o,num / 2^nT ns,)) num (xs++[y]):=by
 have D:num % 2^nT ns < 2^nT ns:=qm _ (d9 _);have g:y < ↑s:=by rw[h.len];show z
 have J:↑(s.getD y [])=2^nT ns:=h.wid _ (by rw[eh (aS g)];show nE _);show(by rw[SH];show h.len,YX h.wid g,λc b=>?_);rw[Y0 g (by rw[J];show D)]
 by_cases q:c=y/\b=num % 2^nT ns
 ·rw[h9 q,h9 (by rw[q.1];simp,q.2),h.get,h8 (λk=>B k.1),q.1,q.2]
 ·rw[h8 q,h.get]
  by_cases k:c∈xs/\b=num % 2^nT ns
  ·rw[h9 k,h9 (cf _ k.1,k.2)]
  ·rw[h8 k,h8];rintro⟨k1,j⟩;rcases cj.mp k1 with k1|k1
   ·show k (k1,j)
   ·show q (bz.mp k1,j)
def Prog.step(h:Prog ns o m s0 s1 done)(g:Co cs xs)(k:Inn ns o m s1 s num xs):Prog ns o m s0 s (done++[(num,cs,)]):=by
 show(k.len,k.wid,λc B b j e=>?_,λc b=>?_)
 ·rw[WZ,k.get];have z:=h.mem c B b j e
  by_cases q:c∈xs/\b=num % 2^nT ns
  ·rw[h9 q,cj,z,bz];constructor
   ·rintro((a|a)|a)
    ·show .inl a
    ·show .inr (.inl a)
    ·show .inr (.inr ((g.1 c).mp q.1,q.2.symm,a))
   ·rintro(a|a|a)
    ·show .inl (.inl a)
    ·show .inl (.inr a)
    ·show .inr a.2.2
  ·rw[h8 q,z];constructor
   ·rintro(a|a)
    ·show .inl a
    ·show .inr (.inl a)
   ·rintro(a|a|a)
    ·show .inl a
    ·show .inr a
    ·show absurd ((g.1 c).mpr a.1,a.2.1.symm) q
 ·rw[k.get,hJ,aY];have:=h.cnt c b
  by_cases q:c∈xs/\b=num % 2^nT ns
  ·rw[h9 q,aY,cw,cP,h9 ((g.1 c).mp q.1)];simp only[sS,a_,cW];lia
  ·rw[h8 q];lia
def vi.some{H:Hp}{sp:aW}{cells:List (List aW)}{steps:II}(S:vi H sp cells steps){x:aW}(hx:x∈cellsOf cells):∃ds:List aW,H x=some (.lst (ds.map V.ref)):=by
 let(cs,h1,h2):=nD.mp hx;let(i,hi,g):=dU h1;let(j,z,B):=dU h2;let(st,_,D):=eJ S.Kp (by rw[aS hi,g]);let(es,_,J):=eJ D (by rw[aS z,B]);let(ds,h,_):=J;show(ds,h)
def B6.upd{p dx t w x:aW}{st:List (Nat×Nat×Nat)}(h:B6 C H p dx t w ts st)(hx:H x=qj (.lst ds))(n1:t≠x)(n2:w≠x):B6 C (L2.upd H x o) p dx t w ts st:=
 let(bs,h1,h2):=h.wait
 (by rw[bc (eV h.obj hx (by intro z;cases z))];show h.obj,by rw[bc n1];show h.tabs,(bs,by rw[bc n2];show h1,L2.Paired.jh h2 λd e h=>jm hx h),h.tw)
def RF(s:bK (er A H) H'):bK (er A H) (er A H'):=λb u e=>dE.mpr ((dE.mp e).1,s b u e)
def vi.frame{sp w:aW}(S:vi H sp cells steps)(s:bK (er [w] H) H')(M:∀x∈cellsOf cells,x≠w)(N:H w=qj (.lst l))(O:oE LF (er (cellsOf cells) H') sp cells):vi H' sp cells steps:=by
 show(O,iJ (bT S.Kp) λi cs st h1 h2=>?_,S.uniq);let(st',k1,B):=eJ S.Kp h1;rw[h2] at k1
 cases k1
 show iJ (bT B) λj x es D Q=>?_;let(U,J,Y):=eJ B D;rw[Q] at J
 cases J
 let(ds,hx,g):=Y;show(ds,cb s (by simpa using M x (Bt h1 D)) hx,L2.Paired.jh g λd e h=>cb s ?_ h);have:d≠w:=eV h N (by intro z;cases z);simpa using this
def Sq{xs:List Nat}(g:xs.Nodup)(h:xs[i]? =qj y):y∉xs.take i:=λj=>by
 let(t,z,e):=dU j;rw[JK] at e;rw[cK] at z;have:t=i:=(mh () g).mp (by rw[aS (),e,h]);lia
abbrev afK(a:Ad):Sp:=λvs H Q _=>X15 λ(p dx n lt t tm j sp:aW) (ns:List Nd) (m:Nat) (Tb:List Nat) (LT:Nat->Nat) (o:Nat) (cells:List (List aW)) (steps:II)=>vs=[.ref sp,.ref p,.int (o:Nat)]/\zH a (er (cellsOf cells) H) p dx n lt t tm j ns (2^m - 1) Tb LT/\Ok ns/\nT ns<=6/\1<=m/\m<=64/\vi H sp cells steps/\↑steps=m/\(∀st∈steps,↑st=2^nT ns)/\(∀c b,↑(Bi steps c b)<=1000)/\
 ∀H' g,bK (er (cellsOf cells) H) H'->vi H' sp cells g->Prog ns o m steps g (gh (vA ns Tb++vC ns (2^m - 1) Tb) 0 0 (2^m - 1))->Q .vI H'
abbrev WAs(C:aW)(H:Hp)(sp p g dp j z:aW)(o m:Nat)(ns:List Nd)(ts:List Nat)(cells:List (List aW))(steps:II)(all:List (Nat×Nat))(k:Nat)(σ:L2.St)(H':Hp):Prop:=X8 λ(part:V) (done:List (Nat×Nat)) (st:List (Nat×Nat×Nat)) (s':II) (B D J M:Option V)=>
 σ=[some (.ref sp),some (.ref p),some (.int (o:Nat)),some (.ref g),some part,B,D,J,M]/\bK (er (cellsOf cells) H) H'/\B6 C H' g dp j z ts st/\vi H' sp cells s'/\Prog ns o m steps s' done/\
 ((part= .vI/\all=done)\/∃b num cs,part= .ref b/\H' b=some (.tup [.int (num:Nat),.int (cs:Nat)])/\all=done++(num,cs,) ::nk ts st/\k=↑(nk ts st)+1)
abbrev agQ(C:aW)(H:Hp)(sp p g dp j z B:aW)(b T:aW)(o m num cs:Nat)(ns:List Nd)(ts:List Nat)(st:List (Nat×Nat×Nat))(cells:List (List aW))(D:II)(xs:List Nat)(i:Nat)(σ:L2.St)(H':Hp):Prop:=∃(s':II) (J:Option V),
 σ=[some (.ref sp),some (.ref p),some (.int (o:Nat)),some (.ref g),some (.ref b),some (.int (num:Nat)),some (.int (cs:Nat)),some (.ref T),J]/\bK (er (cellsOf cells) H) H'/\B6 C H' g dp j z ts st/\vi H' sp cells s'/\Inn ns o m D s' num (xs.take i)/\H' B=some (.lst (nats xs))/\H' T=some (.tup [.int (o:Nat),.int (num / 2^nT ns:Nat)])
def Hh(T:Tx P w K mg a):gu P w K mg base pS 3 a.uZ a.tX u5 (afK a):=by
 show T.Ab.ok yF (λvs H Q E h=>?_) (λe6 A outer s H vs Q E hr h=>?_)
 ·nofun
 ·let(p,dx,n,lt,t,tm,aA,sp,ns,m,Tb,LT,o,cells,steps,rfl,hO,gV,ei,ej,dd,b5,ek,el,en,q):=h;have e7:=yF.nd
  show(_,(aU (c9 3 (x_ T.Io (vE T) (hr.mono (by decide)) rfl T.Ln T.wH .nil cN (aR (cY YV (oz (pv 1) T.bI T.nG (nc T) (hr.mono (by decide)) T.nH .nil cN) (oz (pv 1) T.bI T.mV (mO T) (hr.mono (by decide)) T.nr .nil cN)) (aR (bN (pv 1) rfl) br))))
   (aU (c9 4 (oz (pv 3) T.kq T.lF (kG T) (hr.mono (by decide)) T.lG .nil cN))
   (bh (ve b8 (cx Vu (pv 4) UG (dk _)) (aU (jN (pv 4) (jw (n:=2) rfl (ck (b6 5) (ck (b6 6) g8))))
   (aU (c9 7 (mx (aR (pv 2) (aR (cY V9 (pv 5) (bN (pv 1) rfl)) br))))
   (aU (jO b8 rfl (jE (fJ (wx T) (hr.mono (by decide)) rfl T.xY T.uP.kp T.yh .nil cN (aR (pv 6) br))) (b6 8) (bh (dP (lu bu bH bG d7 (dQ cC (dQ cC (pv 0) (pv 8) (λ_ _=>rfl)) (cY X2 (pv 5) (bN (pv 1) rfl)) (λ_ _=>rfl)) (aR (pv 7) br)))))
   (bh (c9 4 (oz (pv 3) T.kq T.lF (kG T) (hr.mono (by decide)) T.lG .nil cN)))))))))),?_)
  have cc:=hO.mono cq;have hp:=cc.obj;have fo:∀H',H' p=some (.ins a.bA dx (M7 n lt (2^m - 1) t tm aA ns))->∀Q:VK,nh K ("outlooks" :bV) (.ref p) H' Q=Q (.int (2^nT ns:Nat)) H':=λH' e Q=>bS e T.bI T.jk rfl Q;have ff:∀H',H' p=some (.ins a.bA dx (M7 n lt (2^m - 1) t tm aA ns))->∀Q:VK,nh K ("full" :bV) (.ref p) H' Q=Q (.int (2^m - 1:Nat)) H':=λH' e Q=>bS e T.bI T.jo rfl Q;dsimp! [];show((_,_,hp,rfl),p,dx,n,lt,t,tm,aA,ns,_,Tb,LT,rfl,cc,gV,(),λH1 f1 s1 e8 dh=>((_,_,s1 _ _ hp,rfl),p,dx,n,lt,t,tm,aA,ns,_,Tb,LT,rfl,cc.mono s1,gV,(),λH2 f2 s2 fa dn=>(_,s2 _ _ dh,_,dn,?_,λc0 eo=>?_)))
  ·rw[aQ,aQ,Bx,Eu];show iI (df ())
  have ep:nats (vA ns Tb)++nats (vC ns (2^m - 1) Tb)=nats (vA ns Tb++vC ns (2^m - 1) Tb):=by unfold nats;rw[bD]
  have dq:↑(vA ns Tb++vC ns (2^m - 1) Tb)=2*nT ns:=by rw[aY,Bx,Eu];lia
  rw[ep];generalize vA ns Tb++vC ns (2^m - 1) Tb=ts at dq q ⊢;have dr:bK H H2:=bK.trans s1 s2;have bk:=same_none dr eo;have N:bK H (upd H2 c0 (.lst (nats ts))):=bp dr bk;rw[ff _ (N _ _ hp)];intro pp dp cm ct et;have bl:=same_none N cm;have bt:=same_none N ct;have eu:c0≠pp:=bb aV cm;have dt:c0≠dp:=bb aV ct;show(pp,dp,c0,ts,_,rfl,aV,by rw[bc eu,bc dt,aV],λH4 ww dv cA s4=>(rfl,?_));have O:bK H (upd (upd (upd H2 c0 (.lst (nats ts))) dp (.own pp)) pp (.ins a.gj dp [])):=bp (bp N bt) bl;have J:=same_none O dv;have dw:bK H H4:=dX (A:=[pp]) O (by simpa using bl) s4;clear s4 dv ct cm et N O bt dt;generalize U:gh ts 0 0 (2^m - 1)=all at q;have dy:nk ts [(0,0,2^m - 1,)]=all:=by rw[←U];simp[nk]
  have ef:↑all<=4096:=by
   have h1:=(we ts 0 0 (2^m - 1)).1;rw[U,dq] at h1;have h2:2^(2*nT ns)<=2^12:=b_ (by decide) ();lia
  simp_all! []
  show((_,_,cA.obj,rfl),pp,dp,c0,ww,ts,_,rfl,cA,(),by rw[dy];lia,(λh=>by cases h),λH5 b st' num cs s5 dB ew hb g=>?_);rw[dy] at g;have cL:bK H H5:=dX (A:=[ww]) dw (by simpa using J) s5;subst hu';simp![];show(WAs a.gj H sp p pp dp c0 ww o m ns ts cells steps all,(_,.ref b,[],st',steps,none,none,none,none,rfl,bK.trans cq cL,dB,b5.mono cL,(ek,el,λc _ b _ e=>(.inl,λh=>h.elim id λ(_,h,_)=>nomatch h),λc b=>ic _ _),.inr (b,num,cs,rfl,hb,g,rfl)),?_)
  have hA:∀x∈cellsOf cells,∃y,H x=some y:=by
   intro x hx;let(ds,h):=b5.some hx;show(_,h)
  have e3:2^nT ns<=64:=by
   have h2:2^nT ns<=2^6:=b_ (by decide) ei;lia
  have fg:1<=2^nT ns:=d9 _;clear g hb ew s5 cL dB st' b num cs cA dw;rintro k σ H6 ⟨part,done,st,s',v5,v6,v7,v8,rfl,sA,hC,c1,Z,c2⟩;show Ii λY hY=>?_;simp![];subst hY;rcases c2 with⟨rfl,rfl⟩|⟨b,num,cs,rfl,hb,j,hk⟩
  ·show(h8 ⋯).mpr ?_;show q H6 s' sA c1 Z
  show(h9 ⋯).mpr ?_;show(_,λ_ _ h=>h,?_);let(e4,dH):=Bl ej (n':=num) (c':=cs) (by rw[U,j];simp)
  have ey:cs < 2^m:=zP _ λi hi=>by
   cases e:cs.testBit i with
   |false=>rfl
   |true=>have:=((dH i).mp e).1;lia
  have dK:cs < 2^64:=bF ey (b_ (by decide) dd);show jM λu2 ah=>?_;simp![];show(_,qH.of hb,rfl,_,_,rfl,_,_,rfl,rfl,?_);subst ah;show jM λu2 ah=>?_;simp![↓fo H6 (sA _ _ hO.obj)];show(((),()),by decide,λT1 ez=>?_);have e1:((num:Nat):Int) / ((2^nT ns:Nat):Int)=((num / 2^nT ns:Nat):Int):=(K2 _ _).symm;have e2:((num:Nat):Int) % ((2^nT ns:Nat):Int)=((num % 2^nT ns:Nat):Int):=(K1 _ _).symm;rw[e1];have s7:bK H6 (upd H6 T1 (.tup [.int (o:Nat),.int (num / 2^nT ns:Nat)])):=bp (same_refl H6) ez;have dT:upd H6 T1 (.tup [.int (o:Nat),.int (num / 2^nT ns:Nat)]) T1=some (.tup [.int (o:Nat),.int (num / 2^nT ns:Nat)]):=aV;generalize upd H6 T1 (.tup [.int (o:Nat),.int (num / 2^nT ns:Nat)])=H7 at s7 dT ⊢;subst ah;show jM λu2 ah=>?_;simp![];show(cs,rfl,dK,λH8 lx xs s8 eA bx z=>?_);simp only[Us];show((_,dg.of bx),?_);have c3:=bK.trans s7 s8
  have dV:∀x∈cellsOf cells,lx≠x:=λx hx=>by
   let(ds,h):=(c1.mono s7).some hx;show(bb h eA).symm
  show lr (xs:=nats xs) (agQ a.gj H sp p pp dp c0 ww lx b T1 o m num cs ns ts st cells s' xs) (s',_,rfl,bK.trans sA c3,hC.mono c3,c1.mono c3,(Z.len,Z.wid,λc b=>by rw[E_,h8 ⋯]),bx,s8 _ _ dT) (λi σ H9 _ (_,_,_,_,_,_,_,h,_)=>dg.of h) ?_ ?_
  ·rintro i x σ H9 hx ⟨s9,v9,rfl,ar,M,B,D,b0,c4⟩;let(y,hy,rfl):=iT hx;simp![↓fo H9 (ar _ _ hO.obj)];rw[e2];have eB:y < m:=((dH y).mp ((z.1 y).mp (bJ hy))).1;let(rows,d0,c5):=B.out;have eC:↑cells=m:=by rw[bT B.Kp,D.len]
   obtain⟨cy,aE⟩:∃cy,cells[y]? =some cy:=(_,aS ());let(sy,d1,b1):=eJ B.Kp aE;have eD:↑sy=2^nT ns:=D.wid sy (bJ d1);have eF:num % 2^nT ns < 2^nT ns:=qm _ (d9 _);obtain⟨x,hx⟩:∃x,cy[num % 2^nT ns]? =some x:=(_,aS (by rw[bT b1,eD];show eF));let(es,eH,(ds,av,d2)):=eJ b1 hx;have eg:Bi s9 y (num % 2^nT ns)=es:=by unfold Bi;rw[eh d1,eh eH]
   let(r,eK,c6):=jK c5 aE;replace c6:er (cellsOf cells) H9 r=some (.lst (cy.map V.ref)):=c6;have dc:=Bt aE hx;let(fl,d3):=hA x dc;have d4:=Sq z.2 hy;show(_,dg.of (cq _ _ d0),_,xm eK,(),_,dg.of (cq _ _ c6),V.ref x,xm hx,.inl (_,dg.of av),_,av,?_,?_)
   ·rw[aQ,bT d2,←eg,D.get,h8 (λh=>d4 h.1)];have h1:=Z.cnt y (num % 2^nT ns);have h2:=en y (num % 2^nT ns);have h3:=eP (λx:Nat×Nat=>x.2.testBit y) done;have h4:=congrArg iw j;rw[aY] at h4;show df ()
   ·show(setC s9 y (num % 2^nT ns) (o,num / 2^nT ns,),_,rfl,dj ar dc,M.upd av (bb d3 bk).symm (bb d3 J).symm,B.app aE hx av (by rw[eg];show d2) c4,?_,by rw[bc (dV x dc)];show b0,jm av c4);rw[take_snoc hy];show D.step eB d4
  ·rintro σ H9 ⟨s9,v9,rfl,ar,M,B,D,b0,c4⟩;rw[aQ,dC] at D;subst ah;simp![];have b3:=Z.step z D;have h4:=congrArg iw j;rw[aY,a_] at h4;show((_,_,M.obj,rfl),pp,dp,c0,ww,ts,st,rfl,M,(),(),λh=>?_,λeN b2 ea eb eR ec ed e5 eT g=>?_)
   ·subst h;show(0,(),.vI,done++[(num,cs,)],[],s9,_,_,_,_,rfl,ar,M,B,b3,.inl (rfl,j))
   ·have eW:er (cellsOf cells) H ww=none:=by
      unfold er
      split
      ·rfl
      ·show J
    have b4:bK (er (cellsOf cells) H) eN:=dX (A:=[ww]) ar (by simpa using eW) ec;let(wb,e0,_):=M.wait;show(↑(nk ts ea)+1,by rw[hk,g,a_];lia,.ref b2,done++[(num,cs,)],ea,s9,_,_,_,_,rfl,b4,ed,B.frame ec (λx hx=>?_) e0 (oE.mono LF.mono _ _ _ _ (RF b4) b5.out),b3,.inr (b2,eb,eR,rfl,eT,?_,rfl))
    ·let(_,h):=hA x hx;show bb h J
    ·rw[j,g,bO];rfl
structure Gj(H:Hp)(sp:aW)(cells:List aW)(steps:List (List (Nat×Nat))):Prop where
 out:er cells H sp=some (.lst (cells.map V.ref))
 Kp:Paired (xn H) cells steps
 nd:cells.Nodup
def Gj.mono(s:bK H H')(h:Gj H sp cells steps):Gj H' sp cells steps:=
 (IY s _ _ h.out,L2.Paired.jh h.Kp λd e h=>xn.mono _ _ _ _ s h,h.nd)
def Gj.some{H:Hp}{sp:aW}{cells:List aW}{steps:List (List (Nat×Nat))}(S:Gj H sp cells steps){x:aW}(hx:x∈cells):∃ds:List aW,H x=some (.lst (ds.map V.ref)):=by
 let(j,g,z):=dU hx;let(es,_,B):=eJ S.Kp (by rw[aS g,z]);let(ds,h,_):=B;show(ds,h)
def Gj.frame{sp w:aW}(S:Gj H sp cells steps)(s:bK (er [w] H) H')(J:∀x∈cells,x≠w)(M:H w=qj (.lst l))(N:er cells H' sp=qj (.lst (cells.map V.ref))):Gj H' sp cells steps:=by
 show(N,iJ (bT S.Kp) λj x es B O=>?_,S.nd);let(Q,D,U):=eJ S.Kp B;rw[O] at D
 cases D
 let(ds,hx,g):=U;show(ds,cb s (by simpa using J x (bJ B)) hx,L2.Paired.jh g λd e h=>cb s ?_ h);have:d≠w:=eV h M (by intro z;cases z);simpa using this
abbrev setB(steps:List (List (Nat×Nat)))(b:Nat)(e:Nat×Nat):List (List (Nat×Nat)):=steps.set b (steps.getD b [] ++[e])
def Gj.app(S:Gj H sp cells steps)(h2:cells[b]? =qj x)(hx:H x=qj (.lst (ds.map V.ref)))(B:Paired (Ol H) ds (steps.getD b []))(hT:H T=qj (.tup [.int (e.1:Nat),.int (e.2:Nat)])):
  Gj (upd H x (.lst (ds.map V.ref++[.ref T]))) sp cells (setB steps b e):=by
 have D:x∈cells:=bJ h2;show(by rw[Qu D];show S.out,?_,S.nd);have hlen:=bT S.Kp;have J:b < ↑steps:=by rw[←hlen];show(aX.mp h2).1
 show iJ (by unfold setB;rw[eQ];show hlen) λj y es z g=>?_;let(M,N,O):=eJ S.Kp z;unfold setB at g;rw[mf] at g
 by_cases k:b=j
 ·subst k;rw[h9 rfl,h9 J] at g
  cases g
  rw[h2] at z
  cases z
  show(ds++[T],by rw[aV,bD];rfl,gQ (L2.Paired.jh B λd e h=>jm hx h) (jm hx hT))
 ·rw[h8 k,N] at g
  cases g
  show zS hx O λh=>k ?_;subst h;show(mh (aX.mp h2).1 S.nd).mp (h2.trans z.symm)
structure RV(ns:List Nd)(G:List Nat)(o:Nat)(g s:List (List (Nat×Nat)))(done:List (Nat×Nat)):Prop where
 len:↑s=2^nT ns
 mem:∀b,b < 2^nT ns->∀e,e∈s.getD b []↔e∈g.getD b []\/YT ns G o done b e
 cnt:∀b,↑(s.getD b [])<=↑(g.getD b [])+↑done
def RV.step(h:RV ns G o s0 s done)(J:b < 2^nT ns):RV ns G o s0 (setB s b (o,Xu ns G o b cs,)) (done++[(b,cs,)]):=by
 have j:b < ↑s:=by rw[h.len];show J
 show(by unfold setB;rw[eQ];show h.len,λg z e=>?_,λg=>?_)
 ·have D:=h.mem g z e
  have M:YT ns G o (done++[(b,cs,)]) g e↔YT ns G o done g e\/(b=g/\e=(o,Xu ns G o b cs,)):=by
   unfold YT;constructor
   ·rintro⟨y,B,k⟩;rcases cj.mp B with q|q
    ·show .inl (y,q,k)
    ·rw[bz] at q;subst q;show .inr k
   ·rintro(⟨y,B,k⟩|k)
    ·show(y,cf _ B,k)
    ·show((b,cs,),bW _ (bz.mpr rfl),k)
  unfold setB;rw[M,FE j]
  by_cases q:g=b
  ·rw[h9 q,cj,bz,←q,D,or_assoc];show or_congr_right (or_congr_right (λa=>(rfl,a),λa=>a.2))
  ·rw[h8 q,D];show or_congr_right (.inl,λa=>a.elim id λa=>absurd a.1.symm q)
 ·have:=h.cnt g;unfold setB;rw[FE j,aY,cw]
  by_cases q:g=b
  ·rw[h9 q,aY,cw,←q];lia
  ·rw[h8 q];lia
abbrev gI(ns:List Nd)(G:List Nat)(cs:Nat)(xs:List Nat):Nat:=bitsOf (λk=>(fY ns).testBit k && !(decide (k∈xs) && decide (cs &&& G.getD k 0=0))) (nT ns)
def adK(ns:List Nd)(G:List Nat)(cs:Nat):gI ns G cs []=fY ns:=by
 show D8 (n:=nT ns) (gM _ _) (gM _ _) λk g=>?_;unfold gI;rw[dW _ _ _ g];simp
def ado(h:Co (Iq ns b o) xs):gI ns G cs xs=Xu ns G o b cs:=by
 show fk λk g=>?_
 have:decide (k∈xs)=(Iq ns b o).testBit k:=by
  cases e:(Iq ns b o).testBit k with
  |true=>show decide_eq_true ((h.1 k).mpr e)
  |false=>show decide_eq_false λq=>by rw[(h.1 k).mp q] at e;cases e
 rw[this]
def ab4(D:y < nT ns)(J:(fY ns).testBit y=true)(M:y∉xs):gI ns G cs (xs++[y])=if cs &&& G.getD y 0=0 then gI ns G cs xs^^^2^y else gI ns G cs xs:=by
 apply cp;intro k;have N:(gI ns G cs (xs++[y])).testBit k=(decide (k < nT ns) && ((fY ns).testBit k && !(decide (k∈xs++[y]) && decide (cs &&& G.getD k 0=0)))):=cS _ _ _;have j:(gI ns G cs xs).testBit k=(decide (k < nT ns) && ((fY ns).testBit k && !(decide (k∈xs) && decide (cs &&& G.getD k 0=0)))):=cS _ _ _;rw[N]
 by_cases q:k=y
 ·subst q;have B:decide (k∈xs++[k])=true:=decide_eq_true ⋯;have g:decide (k∈xs)=false:=decide_eq_false M
  by_cases z:cs &&& G.getD k 0=0
  ·rw[h9 z,d_,j,mM,B,g,J,decide_eq_true D,decide_eq_true z];rfl
  ·rw[h8 z,j,B,g,J,decide_eq_true D,decide_eq_false z];rfl
 ·have B:decide (k∈xs++[y])=decide (k∈xs):=by
    by_cases a:k∈xs
    ·rw[decide_eq_true a,decide_eq_true (cf _ a)]
    ·rw[decide_eq_false a,decide_eq_false];intro b;rcases cj.mp b with b|b
     ·show a b
     ·show q (bz.mp b)
  rw[B]
  by_cases z:cs &&& G.getD y 0=0
  ·rw[h9 z,d_,j,ik,decide_eq_false (show ¬y=k from λh=>q h.symm),Bool.xor_false]
  ·rw[h8 z,j]
abbrev acb(a:Ad):Sp:=λvs H Q _=>X15 λ(p dx n lt t tm j sp:aW) (ns:List Nd) (m:Nat) (Tb:List Nat) (LT:Nat->Nat) (o:Nat) (cells:List aW) (steps:List (List (Nat×Nat)))=>vs=[.ref sp,.ref p,.int (o:Nat)]/\zH a (er cells H) p dx n lt t tm j ns (2^m - 1) Tb LT/\Ok ns/\nT ns<=6/\1<=m/\Gj H sp cells steps/\↑steps=2^nT ns/\(∀b,↑(steps.getD b [])<=10000)/\
 ∀H' g,bK (er cells H) H'->Gj H' sp cells g->RV ns (vC ns (2^m - 1) Tb) o steps g (gh (vA ns Tb) 0 0 (2^m - 1))->Q .vI H'
abbrev WAc(C:aW)(H:Hp)(sp p g j dp z B:aW)(o:Nat)(ns:List Nd)(G ts:List Nat)(cells:List aW)(steps:List (List (Nat×Nat)))(all:List (Nat×Nat))(k:Nat)(σ:L2.St)(H':Hp):Prop:=X8 λ(part:V) (done:List (Nat×Nat)) (st:List (Nat×Nat×Nat)) (s':List (List (Nat×Nat))) (D J M N:Option V)=>
 σ=[some (.ref sp),some (.ref p),some (.int (o:Nat)),some (.ref g),some (.ref j),some part,D,J,M,N]/\bK (er cells H) H'/\H' g=some (.lst (nats G))/\B6 C H' j dp z B ts st/\Gj H' sp cells s'/\RV ns G o steps s' done/\
 ((part= .vI/\all=done)\/∃b num cs,part= .ref b/\H' b=some (.tup [.int (num:Nat),.int (cs:Nat)])/\all=done++(num,cs,) ::nk ts st/\k=↑(nk ts st)+1)
abbrev agR(g:Hp)(sp p j z b D:aW)(o num cs:Nat)(ns:List Nd)(G xs:List Nat)(i:Nat)(σ:L2.St)(H':Hp):Prop:=∃(B:Option V),σ=[some (.ref sp),some (.ref p),some (.int (o:Nat)),some (.ref j),some (.ref z),some (.ref b),some (.int (num:Nat)),some (.int (cs:Nat)),some (.int (gI ns G cs (xs.take i):Nat)),B]/\H'=g
def FZ(T:Tx P w K mg a):gu P w K mg base pS 3 a.tq a.qK tU (acb a):=by
 show T.zb.ok xA (λvs H Q E h=>?_) (λeN A outer s H vs Q E hr h=>?_)
 ·nofun
 ·let(p,dx,n,lt,t,tm,aE,sp,ns,m,Tb,LT,o,cells,steps,rfl,hO,gV,dn,ei,cy,ej,ek,q):=h;have eR:=xA.nd
  show(_,(aU (c9 3 (oz (pv 1) T.bI T.mV (mO T) (hr.mono (by decide)) T.nr .nil cN))
   (aU (c9 4 (x_ T.Io (vE T) (hr.mono (by decide)) rfl T.Ln T.wH .nil cN (aR (oz (pv 1) T.bI T.nG (nc T) (hr.mono (by decide)) T.nH .nil cN) (aR (bN (pv 1) rfl) br))))
   (aU (c9 5 (oz (pv 4) T.kq T.lF (kG T) (hr.mono (by decide)) T.lG .nil cN))
   (bh (ve b8 (cx Vu (pv 5) UG (dk _)) (aU (jN (pv 5) (jw (n:=2) rfl (ck (b6 6) (ck (b6 7) g8))))
   (aU (c9 8 (bN (pv 1) rfl))
   (aU (jO b8 rfl (jE (fJ (wx T) (hr.mono (by decide)) rfl T.xY T.uP.kp T.yh .nil cN (aR (dI (pv 1) T.bI T.Bq (A_ T) (hr.mono (by decide)) T.BL .nil cN (aR (pv 6) (aR (pv 2) br))) br))) (b6 9) (bh (eG (cx iU (cY nQ (pv 7) (dQ cC (pv 3) (pv 9) (λ_ _=>rfl))) bU (dk _)) (bh (CP 8 (cY l7 bU (pv 9)) adi)) dG)))
   (aU (dP (lu bu bH bG d7 (dQ cC (pv 0) (pv 6) (λ_ _=>rfl)) (aR (mx (aR (pv 2) (aR (pv 8) br))) br)))
   (bh (c9 5 (oz (pv 4) T.kq T.lF (kG T) (hr.mono (by decide)) T.lG .nil cN)))))))))))),?_)
  have cA:=hO.mono cq;have hp:=cA.obj;have fw:∀H',H' p=some (.ins a.bA dx (M7 n lt (2^m - 1) t tm aE ns))->∀Q:VK,nh K ("wishes" :bV) (.ref p) H' Q=Q (.int (fY ns:Nat)) H':=λH' e Q=>bS e T.bI T.jV rfl Q;have ff:∀H',H' p=some (.ins a.bA dx (M7 n lt (2^m - 1) t tm aE ns))->∀Q:VK,nh K ("full" :bV) (.ref p) H' Q=Q (.int (2^m - 1:Nat)) H':=λH' e Q=>bS e T.bI T.jo rfl Q;dsimp! [];show((_,_,hp,rfl),p,dx,n,lt,t,tm,aE,ns,_,Tb,LT,rfl,cA,gV,(),λH1 gl s1 dq cL=>?_)
  simp_all! []
  show((_,_,s1 _ _ hp,rfl),p,dx,n,lt,t,tm,aE,ns,_,Tb,LT,rfl,cA.mono s1,gV,(),λH2 c0 s2 el J=>?_);have c1:↑(vA ns Tb)=nT ns:=Bx _ _;generalize vA ns Tb=ts at c1 q J ⊢;have dr:↑(vC ns (2^m - 1) Tb)=nT ns:=Eu _ _ _;generalize vC ns (2^m - 1) Tb=G at dr q cL ⊢;have N:bK H H2:=bK.trans s1 s2;have dt:=same_none s1 el;show(ff _ (N _ _ hp) _).mpr ?_;intro pp dp O bk en;have eF:=same_none N O;have dv:=same_none N bk;show(pp,dp,c0,ts,_,rfl,aV,by rw[bc (bb J O),bc (bb J bk)];show J,λH4 ww dw c2 s4=>(rfl,?_));have U:bK H2 (upd (upd H2 dp (.own pp)) pp (.ins a.gj dp [])):=bp (bp (same_refl H2) bk) O;have b1:=same_none U dw;have M:=same_none N b1;have Z:bK H2 H4:=dX (A:=[pp]) U (by simpa using O) s4;have dy:bK H H4:=bK.trans N Z;have b3:H4 gl=some (.lst (nats G)):=Z _ _ (s2 _ _ cL);have b4:gl≠ww:=bb (s2 _ _ cL) b1;clear s4 dw bk O en U dv;generalize ah:gh ts 0 0 (2^m - 1)=all at q;have dB:nk ts [(0,0,2^m - 1,)]=all:=by rw[←ah];simp[nk]
  have ef:↑all<=64:=by
   have h1:=(we ts 0 0 (2^m - 1)).1;rw[ah,c1] at h1;have h2:2^nT ns<=2^6:=b_ (by decide) dn;lia
  simp_all! []
  show((_,_,c2.obj,rfl),pp,dp,c0,ww,ts,_,rfl,c2,(),by rw[dB];lia,(λh=>by cases h),λH5 b st' num cs s5 dH eo hb g=>?_);rw[dB] at g;have c3:bK H H5:=dX (A:=[ww]) dy (by simpa using M) s5;subst hu';simp![];show(WAc a.gj H sp p gl pp dp c0 ww o ns G ts cells steps all,(_,.ref b,[],st',steps,none,none,none,none,rfl,bK.trans cq c3,cb s5 (by simpa using b4) b3,dH,cy.mono c3,(ej,λb _ e=>(.inl,λh=>h.elim id λ(_,h,_)=>nomatch h),λb=>ic _ _),.inr (b,num,cs,rfl,hb,g,rfl)),?_)
  have hA:∀x∈cells,∃y,H x=some y:=by
   intro x hx;let(ds,h):=cy.some hx;show(_,h)
  have eH:2^nT ns<=64:=by
   have h2:2^nT ns<=2^6:=b_ (by decide) dn;lia
  clear g hb eo s5 c3 dH st' b num cs c2 dy b3 Z;rintro k σ H6 ⟨part,done,st,s',v6,v7,v8,v9,rfl,sA,b5,hC,dK,bl,c4⟩;show Ii λY hY=>?_;simp![];subst hY;rcases c4 with⟨rfl,rfl⟩|⟨b,num,cs,rfl,hb,j,hk⟩
  ·show(h8 ⋯).mpr ?_;show q H6 s' sA dK bl
  show(h9 ⋯).mpr ?_;show(_,λ_ _ h=>h,?_);let(dT,ep):=Bl ei (n':=num) (c':=cs) (by rw[ah,j];simp)
  have dV:num < 2^nT ns:=by
   let(y,hy):=iA dT;rw[((ep y).mp hy).2,←c1];show gM _ _
  show jM λu2 B=>?_;simp![];show(_,qH.of hb,rfl,_,_,rfl,_,_,rfl,rfl,?_);subst B;show jM λu2 B=>?_;simp![↓fw H6 (sA _ _ hO.obj)];subst B;show jM λu2 B=>?_;simp![];have bt:Iq ns num o < 2^64:=bF (aeu ns num o) (b_ (by decide) ());show((_,_,sA _ _ hO.obj,rfl),p,dx,_,ns,num,o,rfl,sA _ _ hO.obj,rfl,rfl,Iq ns num o,rfl,bt,λH7 lx xs s7 eT cc D=>?_);simp only[Us];show((_,dg.of cc),?_);show lr (xs:=nats xs) (agR H7 sp p gl pp b lx o num cs ns G xs) (_,by rw[E_,adK],rfl) (λi σ H9 _ (_,_,e)=>by rw[e];show dg.of cc) ?_ ?_
  ·rintro i x σ H9 hx ⟨v9,rfl,he⟩;subst he;let(y,hy,rfl):=iT hx;let(d0,et):=Ye ((D.1 y).mp (bJ hy));have eu:=Sq D.2 hy;have ar:=ab4 (G:=G) (cs:=cs) d0 et eu;rw[←take_snoc hy] at ar
   have e1:(1:Int)*2^((y:Nat):Int).toNat=((2^y:Nat):Int):=by
    have:=Ck 1 y;rw[Ls] at this;show this
   simp![];show(_,dg.of (s7 _ _ b5),_,hZ (by rw[dr];show d0),?_);simp![];rw[ly,e1,nL];show kg (λh=>?_) (λh=>?_)
   ·have h:cs &&& G.getD y 0=0:=by lia
    rw[h9 h] at ar;show(((),?_),some (.int (y:Nat)),?_,rfl)
    ·change(cD 1:Int)+_<=_;rw[show cD 1=1 from rfl];lia
    ·rw[ar]
   ·have h:¬cs &&& G.getD y 0=0:=λz=>h (by rw[z];rfl);rw[h8 h] at ar;show(_,by rw[ar],rfl)
  ·rintro σ H9 ⟨v9,rfl,he⟩;subst he;rw[aQ,dC,ado D];subst B;dsimp only;show jM λu2 B=>?_;have bx:=dK.mono s7;have ew:↑cells=2^nT ns:=by rw[bT bx.Kp,bl.len]
   obtain⟨x,hx⟩:∃x,cells[num]? =some x:=(_,aS ());let(es,ey,(ds,b0,d1)):=eJ bx.Kp hx;have d2:=bJ hx;let(eW,c5):=hA x d2;have eg:s'.getD num []=es:=eh ey;simp![];have h4:=congrArg iw j;rw[aY,a_] at h4;show(_,dg.of (cq _ _ bx.out),V.ref x,xm hx,.inl (_,dg.of b0),by decide,λT1 d3=>(_,by rw[bc (bb b0 d3)];show b0,?_,?_))
   ·rw[aQ,bT d1,←eg];have h1:=bl.cnt num;have h2:=ek num;show df ()
   have s8:bK H9 (upd H9 T1 (.tup [.int (o:Nat),.int (Xu ns G o num cs:Nat)])):=bp (same_refl H9) d3;have d4:upd H9 T1 (.tup [.int (o:Nat),.int (Xu ns G o num cs:Nat)]) T1=some (.tup [.int (o:Nat),.int (Xu ns G o num cs:Nat)]):=aV;generalize upd H9 T1 (.tup [.int (o:Nat),.int (Xu ns G o num cs:Nat)])=H8 at s8 d4 ⊢;have c6:=bK.trans s7 s8;have ea:=s8 _ _ b0;have dc:=(bx.mono s8).app (e:=(o,Xu ns G o num cs,)) hx ea (by rw[eg];show L2.Paired.jh d1 λd e h=>s8 _ _ h) d4;have av:=(hC.mono c6).upd (o:= .lst (ds.map V.ref++[.ref T1])) ea (bb c5 dt).symm (bb c5 M).symm;have dd:bK (er cells H) (upd H8 x (.lst (ds.map V.ref++[.ref T1]))):=dj (bK.trans sA c6) d2;have aA:upd H8 x (.lst (ds.map V.ref++[.ref T1])) gl=some (.lst (nats G)):=by rw[bc (bb c5 dq).symm];show c6 _ _ b5
   have cm:=bl.step (cs:=cs) dV;generalize upd H8 x (.lst (ds.map V.ref++[.ref T1]))=e0 at dc av dd aA ⊢;subst B;simp![];show((_,_,av.obj,rfl),pp,dp,c0,ww,ts,st,rfl,av,(),(),λh=>?_,λez b2 eb ec eA dh ed eK eB g=>?_)
   ·subst h;show(0,(),.vI,done++[(num,cs,)],[],_,_,_,_,_,rfl,dd,aA,av,dc,cm,.inl (rfl,j))
   ·have eC:er cells H ww=none:=by
      unfold er
      split
      ·rfl
      ·show M
    have ct:bK (er cells H) ez:=dX (A:=[ww]) dd (by simpa using eC) dh;let(wb,eD,_):=av.wait;show(↑(nk ts eb)+1,by rw[hk,g,a_];lia,.ref b2,done++[(num,cs,)],eb,_,_,_,_,_,rfl,ct,cb dh (by simpa using b4) aA,ed,dc.frame dh (λx hx=>?_) eD (RF ct _ _ cy.out),cm,.inr (b2,ec,eA,rfl,eB,?_,rfl))
    ·let(_,h):=hA x hx;show bb h M
    ·rw[j,g,bO];rfl
abbrev abm(cells:List (List aW)):Prop:=∀(i j z B:Nat) (cs g:List aW) (x:aW),cells[i]? =some cs->cs[j]? =some x->cells[z]? =some g->g[B]? =some x->i=z/\j=B
def VF(h:(l++[y])[i]? =some x):(l[i]? =some x/\i < ↑l)\/(i=↑l/\x=y):=by
 by_cases q:i < ↑l
 ·rw[eU q] at h;show .inl (h,q)
 ·rw[cX ()] at h
  have:i - ↑l=0:=by
   have:=(aX.mp h).1;simp at this;lia
  rw[this] at h;show .inr ((),by simpa using h.symm)
def abm.snoc(h:abm cells)(J:bs.Nodup)(hd:∀c∈bs,c∉cellsOf cells):abm (cells++[bs]):=by
 intro i j M N cs z x h1 h2 O g;rcases VF h1 with⟨a1,a2⟩|⟨a1,a2⟩ <;> rcases VF O with⟨B,D⟩|⟨B,D⟩
 ·show h i j M N cs z x a1 h2 B g
 ·subst D;show absurd (Bt a1 h2) (hd x (bJ g))
 ·subst a2;show absurd (Bt B g) (hd x (bJ h2))
 ·subst a2 D;show((),(mh (aX.mp h2).1 J).mp (h2.trans g.symm))
structure O1(g:Hp)(D:aW)(N i:Nat)(rows:List aW)(cells:List (List aW))(H':Hp):Prop where
 same:bK g H'
 out:H' D=some (.lst (rows.map V.ref))
 row:Paired (LF H') rows cells
 len:↑cells=i
 rD:∀r∈rows,r≠D/\g r=none
 Kp:∀cs∈cells,↑cs=N/\∀c∈cs,g c=none/\H' c=some (.lst [])/\c≠D/\c∉rows
 uniq:abm cells
def O1.step(h:O1 H3 D N i rows cells H')(s:bK H' H2)(Z:H3 D=none)(j:H' l=none)(hl:H2 l=some (.lst (bs.map V.ref)))(hlen:↑bs=N)(hb:∀b∈bs,H' b=none/\b≠l/\H2 b=some (.lst []))(hn:bs.Nodup):
  O1 H3 D N (i+1) (rows++[l]) (cells++[bs]) (upd H2 D (.lst (rows.map V.ref++[.ref l]))):=by
 have B:l≠D:=(bb h.out j).symm
 have J:∀r∈rows,∃y,H' r=some y:=λr hr=>by
  let(k,hk,e):=dU hr;let(cs,_,q):=eJ h.row (by rw[aS hk,e]);show(_,q)
 show(bp (bK.trans h.same s) Z,by rw[aV,bD];rfl,?_,by rw[aY,h.len];rfl,λr hr=>?_,λcs ah=>?_,h.uniq.snoc hn λc M g=>?_)
 ·show gQ (iJ (bT h.row) λk r cs h1 h2=>?_) (by unfold LF;rw[bc B];show hl);let(ar,k1,z):=eJ h.row h1;rw[h2] at k1
  cases k1
  unfold LF at z ⊢;rw[bc (h.rD r (bJ h1)).1];show s _ _ z
 ·rcases cj.mp hr with q|q
  ·show h.rD r q
  ·rw[bz] at q;subst q;show(B,same_none h.same j)
 ·rcases cj.mp ah with q|q
  ·let(k1,z):=h.Kp cs q;show(k1,λc M=>?_);let(O,U,Y,m4):=z c M;show(O,by rw[bc Y];show s _ _ U,Y,λg=>?_);rcases cj.mp g with g|g
   ·show m4 g
   ·rw[bz] at g;subst g;rw[U] at j;cases j
  ·rw[bz] at q;subst q;show(hlen,λc M=>?_);let(O,U,Y):=hb c M;have Q:c≠D:=(bb h.out O).symm;show(same_none h.same O,by rw[bc Q];show Y,Q,λg=>?_);rcases cj.mp g with g|g
   ·let(y,hy):=J c g;rw[O] at hy;cases hy
   ·rw[bz] at g;show U g
 ·let(cs,k1,z):=nD.mp g;have:=((h.Kp cs k1).2 c z).2.1;rw[(hb c M).1] at this;cases this
def O1.steps(h:O1 H3 D N i rows cells H'):vi H' D cells (bq i (bq N [])):=by
 have B:D∉cellsOf cells:=λJ=>by
  let(cs,k1,g):=nD.mp J;show((h.Kp cs k1).2 D g).2.2.1 rfl
 show((rows,dE.mpr (B,h.out),iJ (bT h.row) λk r cs h1 h2=>?_),iJ (by rw[h.len,fz]) λk cs st h1 h2=>?_,h.uniq)
 ·let(Q,k1,g):=eJ h.row h1;rw[h2] at k1
  cases k1
  show dE.mpr (λJ=>?_,g);let(M,U,Y):=nD.mp J;show((h.Kp M U).2 r Y).2.2.2 (bJ h1)
 ·have ag:st=bq N []:=by
    rw[dY] at h2
    split at h2
    ·show(bQ h2).symm
    ·cases h2
  subst ag;let(k1,g):=h.Kp cs (bJ h1);show iJ (by rw[k1,fz]) λj c es Z z=>?_
  have O:es=[]:=by
   rw[dY] at z
   split at z
   ·show(bQ z).symm
   ·cases z
  subst O;show([],(g c (bJ Z)).2.1,.nil)
def V_(n N c b:Nat):Bi (bq n (bq N ([]:List (Nat×Nat)))) c b=[]:=by
 unfold Bi
 have e:(bq n (bq N ([]:List (Nat×Nat)))).getD c []=if c < n then bq N [] else []:=by
  rw[ba,dY];split <;> rfl
 rw[e]
 split
 ·rw[ba,dY];split <;> rfl
 ·simp
def ae2(ns:List Nd)(Lc:Nat->Nat->Bool)(n:Nat):EG ns Lc n 0 (bq n (bq (2^nT ns) [])):=λc g b j e=>by
 have:(((bq n (bq (2^nT ns) ([]:List (Nat×Nat)))).getD c []).getD b [])=[]:=V_ _ _ _ _;rw[this];show((λh=>by cases h),λh=>absurd h.1 ())
def vi.ls(S:vi H sp cells steps):oE (oE xn) H sp steps:=by
 let(rows,h1,h2):=S.out;show(rows,cq _ _ h1,iJ ((bT h2).trans (bT S.Kp)) λi r st k1 g=>?_);let(cs,j,z):=eJ h2 k1;let(st',n1,n2):=eJ S.Kp j;rw[g] at n1
 cases n1
 show(cs,cq _ _ z,n2)
def zH.er{a:Ad}{LT:Nat->Nat}(g:zH a B p dx n lt t tm j ns full M LT)(h:zH a H p dx n lt t tm j ns full Tb LT)(s:bK (Pt.er [t] B) H)(N:∀x∈A,B x=none):zH a (Pt.er A H) p dx n lt t tm j ns full Tb LT:=by
 have k:∀b y,B b=some y->b∉A:=λb y e O=>by rw[N b O] at e;cases e
 let(ts,h1,h2):=g.nodes;let(kvs,l1,l2,l3):=g.lets;have D:lt≠t:=eV l1 g.tabs (by intro z;cases z);show(dE.mpr (k _ _ g.obj,h.obj),(ts,dE.mpr (k _ _ h1,cb s (by simpa using (d5 g.tn)) h1),L2.Paired.jh h2 λd e q=>?_),(kvs,dE.mpr (k _ _ l1,cb s (by simpa using D) l1),l2,l3),dE.mpr (k _ _ g.tabs,h.tabs),h.len,dE.mpr (k _ _ g.eX,h.eX),dE.mpr (k _ _ g.times,h.times),h.tn,h.ttm,h.aaJ);unfold E7 at q ⊢;have J:d≠t:=eV q g.tabs (by intro z;cases z);show dE.mpr (k _ _ q,cb s (by simpa using J) q)
def zH.ZS{a:Ad}{LT:Nat->Nat}(h:zH a H p dx n lt t tm B ns full Tb LT)(s:bK (Pt.er [t] H) H')(D:H' t=some (.lst (nats j)))(J:↑j=↑ns):zH a H' p dx n lt t tm B ns full j LT:=by
 let(ts,h1,h2):=h.nodes;let(kvs,l1,l2,l3):=h.lets;have g:∀b y,H b=some y->b≠t->H' b=some y:=λb y e n=>cb s (by simpa using n) e;show(g _ _ h.obj (eV h.obj h.tabs (by intro z;cases z)),(ts,g _ _ h1 (d5 h.tn),L2.Paired.jh h2 λd e q=>g _ _ q (eV q h.tabs (by intro z;cases z))),(kvs,g _ _ l1 (eV l1 h.tabs (by intro z;cases z)),l2,l3),D,J,g _ _ h.eX (d5 h.ttm),g _ _ h.times (d5 h.aaJ),h.tn,h.ttm,h.aaJ)
meta abbrev LcM(ms:List Nat):Nat->Nat->Bool:=λc l=>(ms.getD c 0).testBit l
abbrev afA(a:Ad):Sp:=λvs H Q _=>X16 λ(ps g j z q nn d h:aW) (n st:Nat) (ms as:List Nat) (ns:List Nd) (ab:Nat) (S:i9) (f:wo)=>vs=[.ref ps,.ref q,.int (ab:Nat)]/\wY a.bY H ps g j z n st ms as/\yi S n st ms as/\oR a.cF H q nn d h ns/\Ok ns/\↑ns<=10000/\nT ns<=6/\ab < ↑ns/\(∀w,gT w (cv ns ab) 0↔gT w f 0)/\
 ∀H',bK H H'->Q (.int (if ze S f=true then 1 else 0)) H'
def BA(l:List Nat)(z:Nat):nats l++[V.int (z:Nat)]=nats (l++[z]):=by unfold nats;rw[bD];rfl
def abX(h:↑ms=n)(l:Nat):xI ms l=bitsOf (λc=>LcM ms c l) n:=by rw[←h];rfl
def ON(ok:Ok ns)(h:↑ms=n)(o:Nat):Plain ns (2^n - 1) (xI ms) (tabAt ns (LcM ms) n o):=λp nd g j=>by
 rw[abX h];show O8 ok g j
def oR.mono(f:oR C H p n d h ns)(s:bK H H'):oR C H' p n d h ns:=
 let(dx,h1):=f.obj;let(ts,h2,g):=f.nodes
 ((dx,s _ _ h1),(ts,s _ _ h2,L2.Paired.jh g λd e h=>s _ _ h),s _ _ f.places,s _ _ f.ahead,f.ne)
abbrev agE(a:Ad)(J:Hp)(ps q p D j nn lt t tm z dx:aW)(n ab B:Nat)(ms:List Nat)(ns:List Nd)(cells:List (List aW))(o:Nat)(σ:L2.St)(H':Hp):Prop:=X8 λ(M N O v10 v11:Option V) (Tb:List Nat) (steps:II) (g:List Nat)=>
 σ=[some (.ref ps),some (.ref q),some (.int (ab:Nat)),some (.int (2^n - 1:Nat)),some (.ref p),some (.ref D),M,some (.ref j),N,O,v10,v11]/\bK (er (t ::j ::cellsOf cells) J) H'/\H' j=some (.lst (nats g))/\zH a H' p dx nn lt t tm z ns (2^n - 1) Tb (xI ms)/\(∀p,p < ↑ns->f_ ns p=false->Tb.getD p 0=tabAt ns (LcM ms) n 0 p)/\
 vi H' D cells steps/\↑steps=n/\(∀x∈steps,↑x=2^nT ns)/\EG ns (LcM ms) n o steps/\(∀c b,↑(Bi steps c b)<=o)/\
 (∀x,x∈g↔∃s o',o' < o/\s < n/\B.testBit s=true/\ev ns (LcM ms s) (oP ns o') ab=false/\x=s*2^nT ns+o')/\↑g<=64*o
abbrev afn(z:Hp)(ps q p D j:aW)(n ab o N:Nat)(g xs:List Nat)(B v10 v11:Option V)(i:Nat)(σ:L2.St)(H':Hp):Prop:=∃J:Option V,σ=[some (.ref ps),some (.ref q),some (.int (ab:Nat)),some (.int (2^n - 1:Nat)),some (.ref p),some (.ref D),J,some (.ref j),some (.int (o:Nat)),B,v10,v11]/\bK (er [j] z) H'/\H' j=some (.lst (nats (g++(xs.take i).map λs=>s*N+o)))
structure V2(B:Hp)(z:aW)(as:List Nat)(i:Nat)(g:List aW)(arcs:List (List Nat))(H':Hp):Prop where
 same:bK B H'
 out:H' z=some (.lst (g.map V.ref))
 row:Paired (Ki H') g arcs
 len:↑arcs=i
 ne:∀r∈g,r≠z
 bits:∀j,j < i->Co (as.getD j 0) (arcs.getD j [])
def V2.step(h:V2 J B as i M arcs H')(s:bK H' H2)(O:J B=none)(D:H' l=none)(Q:H2 l=some (.lst (nats xs)))(U:as[i]? =some z)(Y:Co z xs):V2 J B as (i+1) (M++[l]) (arcs++[xs]) (upd H2 B (.lst (M.map V.ref++[.ref l]))):=by
 have g:l≠B:=(bb h.out D).symm;show(bp (bK.trans h.same s) O,by rw[aV,bD];rfl,gQ (iJ (bT h.row) λk r ys h1 h2=>?_) (by unfold Ki;rw[bc g];show Q),by rw[aY,h.len];rfl,λr Z=>?_,λj hj=>?_)
 ·let(ah,k1,N):=eJ h.row h1;rw[h2] at k1
  cases k1
  unfold Ki at N ⊢;rw[bc (h.ne r (bJ h1))];show s _ _ N
 ·rcases cj.mp Z with q|q
  ·show h.ne r q
  ·rw[bz] at q;subst q;show g
 ·rw[ba (l:=arcs++[xs])]
  by_cases e:j < i
  ·rw[eU (by rw[h.len];show e),←ba];show h.bits j e
  ·have e:j=i:=by lia
   subst e;rw[cX (by rw[h.len];show aT _),h.len,vo,eh U];show Y
def EE(T:Tx2 P w K mg a):gu P w K mg base pS 5 a.rC a.qc rL (afA a):=by
 show T.xH.ok l6 (λvs H Q E h=>?_) (λgD A outer s H vs Q E U h=>?_)
 ·nofun
 ·let(ps,e3,mm,rr,q,nn,d,h,n,st,ms,as,ns,ab,S,f,rfl,e4,hR,hF,gV,gI,d2,af,hf,qq):=h;have gO:=l6.nd
  show(_,(aU (c9 3 (cY Ao (cY l7 bU (bN (pv 0) rfl)) bU))
   (aU (c9 4 (x_ T.BI (qG T) (U.mono (by decide)) rfl T.C_ T.sj .nil cN (aR (pv 1) (aR (fJ (Em T.toTx) (U.mono (by decide)) rfl T.GH T.AY.kp T.GC .nil cN (aR (oz (pv 1) T.cR T.sY (qM T.toTx) (U.mono (by decide)) T.tW .nil cN) (aR (bN (pv 0) rfl) br))) (aR (pv 3) br)))))
   (aU (Ih (i:=5) (own:=[("state",6,)]) rfl l6.nd rfl rfl (Mc rfl rfl rfl (by decide+kernel)) (BK (by rfl) T.Cq (aR (bN (pv 0) rfl) br)) (sg (by rfl)) (λ_ _ _ _ _=>(b6 6)) (λ_ _ _ _ _=>Ft) (λ_ _ _ _ _=>(fJ (ER T.toTx) (U.mono (by decide)) rfl T.GG T.AF.kp T.GF .nil cN (aR (V5 (K:=K) rfl (pv 4) rfl) br))))
   (aU (c9 7 (gS br))
   (aU (jO b8 rfl (BK (by rfl) T.Cq (aR (bN (pv 4) rfl) br)) (b6 8) (aU (dP (dI (pv 4) T.bI T.wV (vG T.toTx) (U.mono (by decide)) T.wJ .nil cN (aR (pv 8) br)))
   (aU (jO b8 rfl (jE (fJ (wx T.toTx) (U.mono (by decide)) rfl T.xY T.uP.kp T.yh .nil cN (aR (cY nQ (bN (pv 0) rfl) (cY E4 (pv 3) (dQ cC (bN (pv 4) rfl) (pv 2) (λ_ _=>rfl)))) br))) (b6 6) (bh (dP (lu bu bH bG d7 (pv 7) (aR (cY Ex (cY Ms (pv 6) (bN (pv 4) rfl)) (pv 8)) br)))))
   (bh (dP (fJ (Hh T.toTx) (U.mono (by decide)) rfl T.Ip T.Ab.kp T.Js .nil cN (aR (pv 5) (aR (pv 4) (aR (pv 8) br)))))))))
   (aU (Ih (i:=9) (own:=[("bits",10,)]) rfl l6.nd rfl rfl (Mc rfl rfl rfl (by decide+kernel)) (jE (bN (pv 0) rfl)) (sg (by rfl)) (λ_ _ _ _ _=>(b6 10)) (λ_ _ _ _ _=>Ft) (λ_ _ _ _ _=>(fJ (wx T.toTx) (U.mono (by decide)) rfl T.xY T.uP.kp T.yh .nil cN (aR (pv 10) br))))
   (aU (c9 11 (x_ T.ET (uu T.toTx) (U.mono (by decide)) rfl T.Gv T.vg .nil cN (aR (pv 9) (aR (pv 5) (aR (bN (pv 4) rfl) (aR (bN (pv 4) rfl) br))))))
   (bh (cE (IF (qa (fJ (Iz T.toTx) (U.mono (by decide)) rfl T.Lg T.D4.kp T.Le .nil cN (aR (pv 11) (aR (pv 7) br)))) bU bU)))))))))),?_)
  let(J,e5,d3,g0,d4,aD):=id e4;have ea:=hR.pos;have aA:=hR.le;have eb:∀H',H' ps=H ps->∀Q:VK,nh K ("size" :bV) (.ref ps) H' Q=Q (.int (n:Nat)) H':=λH' e Q=>bS (by rw[e];show J) T.cG T.mP EA Q;have e6:∀H',H' ps=H ps->∀Q:VK,nh K ("marks" :bV) (.ref ps) H' Q=Q (.ref mm) H':=λH' e Q=>bS (by rw[e];show J) T.cG T.jJ J2 Q;have far:∀H',H' ps=H ps->∀Q:VK,nh K ("arcs" :bV) (.ref ps) H' Q=Q (.ref rr) H':=λH' e Q=>bS (by rw[e];show J) T.cG T.jc Jv Q;have fst:∀H',H' ps=H ps->∀Q:VK,nh K ("starts" :bV) (.ref ps) H' Q=Q (.int (st:Nat)) H':=λH' e Q=>bS (by rw[e];show J) T.cG T.iB G4 Q;dsimp! [↓eb H rfl];rw[MU];show(((),by change(cD 1:Int)+_<=_;rw[show cD 1=1 from rfl];lia),?_)
  simp_all! []
  let((dq,hq),_):=id hF;have gC:=R6 ns;show((_,_,hq,rfl),q,nn,d,h,ns,rfl,hF,(),λH1 ll s1 e7 c0=>?_);show(e6 H1 (by rw[s1 _ _ J,J]) _).mpr ?_;show(ll,mm,ka ns,ms,rfl,c0,dg.of (s1 _ _ e5),(),Hi gV,(),λH2 lt s2 e8 ec=>?_);intro p dx hp ed ef;have bt:=bK.trans s1 s2;have sM:bK H2 (upd (upd H2 dx (.own p)) p (.ins a.bA dx [])):=bp (bp (same_refl H2) ed) hp;show(p,dx,q,lt,nn,d,h,ns,_,xI ms,tabAt ns (LcM ms) n 0,rfl,aV,hF.mono (bK.trans bt sM),gV,(),(),ec.mono sM,ON gV d4 0,λH3 t tm ar Tb O fa s3 eg=>(rfl,?_));have ff:=same_none bt hp;have s4:bK H H3:=dX (A:=[p]) (bK.trans bt sM) (by simpa using ff) s3;have ei:H t=none:=same_none (bK.trans bt sM) eg;clear s3 eg sM ef ed hp ec e8 s2 bt s1 c0 e7;subst hu';have fo:∀H',H' p=some (.ins a.bA dx (M7 nn lt (2^n - 1) t tm ar ns))->∀Q:VK,nh K ("outlooks" :bV) (.ref p) H' Q=Q (.int (2^nT ns:Nat)) H':=λH' e Q=>bS e T.bI T.jk rfl Q;have fw:∀H',H' p=some (.ins a.bA dx (M7 nn lt (2^n - 1) t tm ar ns))->∀Q:VK,nh K ("wishes" :bV) (.ref p) H' Q=Q (.int (fY ns:Nat)) H':=λH' e Q=>bS e T.bI T.jV rfl Q;have ft:∀H',H' p=some (.ins a.bA dx (M7 nn lt (2^n - 1) t tm ar ns))->∀Q:VK,nh K ("tables" :bV) (.ref p) H' Q=Q (.ref t) H':=λH' e Q=>bS e T.bI T.fE rfl Q;dsimp! [↓eb H3 (by rw[s4 _ _ J,J])]
  have ej:2^nT ns<=64:=by
   have h2:2^nT ns<=2^6:=b_ (by decide) d2;lia
  have fg:1<=2^nT ns:=d9 _;show((),(),?_);rw[bP];intro D hD;show Sh (λi H'=>∃rows cells,O1 H3 D (2^nT ns) i rows cells H') ([],[],bp (same_refl H3) hD,aV,.nil,rfl,(λr U=>nomatch U),(λr U=>nomatch U),λi j i' j' cs fl x h=>by simp at h) ?_ ?_
  ·rintro i H' hi ⟨rows,cells,I⟩;simp![↓fo H' (I.same _ _ O.obj)];have dd:=bT I.row;rw[I.len] at dd;show(2^nT ns,rfl,(),λfp l bs s' dh hl hlen hb fq=>(_,s' _ _ I.out,by rw[aQ];show df (),rows++[l],cells++[bs],I.step s' hD dh hl hlen hb fq))
  rintro H4 ⟨rows,cells,I⟩;have dn:=I.steps;have dp:=I.out;have fv:∀r∈rows,H3 r=none:=λr U=>(I.rD r U).2;have dt:=I.same
  have dv:∀x∈cellsOf cells,H3 x=none:=λx hx=>by
   let(cs,k1,k2):=nD.mp hx;show((I.Kp cs k1).2 x k2).1
  have ek:∀x∈cellsOf cells,∃y,H4 x=some y:=λx hx=>by
   let(ds,h):=dn.some hx;show(_,h)
  clear I
  simp_all! []
  show(by decide,λB bx=>?_);have b0:bK H4 (upd H4 B (.lst [])):=bp (same_refl H4) bx;have c1:upd H4 B (.lst []) B=some (.lst []):=aV;generalize upd H4 B (.lst [])=H5 at b0 c1 ⊢
  have c2:B∉cellsOf cells:=λY=>by
   let(y,hy):=ek B Y;rw[bx] at hy;cases hy
  have b1:=bK.trans dt b0;have g4:=bK.trans s4 b1
  simp_all! [↓fo H5 (b1 _ _ O.obj)]
  have fx:t∉cellsOf cells:=λY=>by
   have:=dv t Y;rw[O.tabs] at this;cases this
  have el:t≠B:=bb (dt _ _ O.tabs) bx;have c3:H3 B=none:=same_none dt bx
  have b2:∀b y,H3 b=some y->b≠t->er (t ::B ::cellsOf cells) H5 b=some y:=λb y e n=>by
   show dE.mpr (λY=>?_,b1 _ _ e);rcases bo.mp Y with z|Y
   ·show n z
   ·rcases bo.mp Y with z|Y
    ·rw[z,c3] at e;cases e
    ·rw[dv b Y] at e;cases e
  have en:bK (er [t] H3) (er (t ::B ::cellsOf cells) H5):=λb y e=>b2 b y (dE.mp e).2 (by simpa using (dE.mp e).1);have tA:er (t ::B ::cellsOf cells) H5 t=none:=by unfold er;rw[h9 ⋯]
  have fy:er (t ::B ::cellsOf cells) H5 B=none:=by unfold er;rw[h9 ⋯]
  have cA:∀x∈cellsOf cells,er (t ::B ::cellsOf cells) H5 x=none:=λx hx=>by unfold er;rw[h9 (aZ _ (aZ _ hx))]
  have eo:er (t ::B ::cellsOf cells) H5 ps=some (.ins a.bY e3 (Mj mm rr n st)):=b2 _ _ (s4 _ _ J) (eV (s4 _ _ J) O.tabs (by intro z;cases z))
  have dw:oE LF (er (t ::B ::cellsOf cells) H5) D cells:=by
   let(rws,k1,k2):=dn.out
   have up:∀b y,er (cellsOf cells) H4 b=some y->H3 b=none->er (t ::B ::cellsOf cells) H5 b=some y:=λb y e n=>by
    let(e1,e2):=dE.mp e;show dE.mpr (λY=>?_,b0 _ _ e2);rcases bo.mp Y with z|Y
    ·rw[z,O.tabs] at n;cases n
    ·rcases bo.mp Y with z|Y
     ·rw[z,bx] at e2;cases e2
     ·show e1 Y
   have erw:rws=rows:=by
    have e1:=(dE.mp k1).2;rw[dp] at e1;have e2:=HO.lst.inj (bQ e1);show(List.map_inj_right (λx y h=>by cases h;rfl)).mp e2.symm
   subst erw;show(rws,up _ _ k1 hD,iJ (bT k2) λi r cs h1 h2=>?_);let(fl,m1,m2):=eJ k2 h1;rw[h2] at m1
   cases m1
   show up _ _ m2 (fv r (bJ h1))
  have c4:∀Hk,bK (er (t ::B ::cellsOf cells) H5) Hk->oE LF (er (cellsOf cells) Hk) D cells:=λHk sk=>oE.mono LF.mono _ _ _ _ (λb y e=>dE.mpr ((λY=>by rw[cA b Y] at e;cases e),sk _ _ e)) dw;show((),(),?_);rw[bP];show J4 (agE a H5 ps q p D B nn lt t tm ar dx n ab st ms ns cells) (none,none,none,none,none,Tb,_,[],rfl,cq,c1,O.mono b1,fa,dn.mono b0,fz,λx hx=>by rw[List.eq_of_mem_replicate hx,fz],ae2 _ _ _,λc b=>by rw[V_];show d6 _,λx=>((λh=>by cases h),λ(_,_,h,_)=>absurd h ()),d6 _) ?_ ?_
  ·rintro o σ H' ho ⟨v6,v8,v9,v10,v11,fA,steps,Z,rfl,sA,ep,b3,et,fK,dy,dB,b4,b5,aE,eu⟩;rw[Rp];simp![];show((_,_,b3.obj,rfl),p,dx,nn,lt,t,tm,ar,ns,_,fA,xI ms,tabAt ns (LcM ms) n o,o,rfl,b3,gV,(),ON gV d4 o,(λp nd h hk=>RJ gV h hk),(λp hp ha=>by rw[et p hp ha];show Fg gV hp ha),λH6 av s6 ew ey dH=>?_);have dK:=dX (A:=[t]) sA (by simpa using tA) s6;have cc:=b3.ZS s6 ew ey;have dT:=fK.frame s6 (λx hx z=>fx (by rw[←z];show hx)) b3.tabs (c4 H6 dK);have N:H6 B=some (.lst (nats Z)):=cb s6 (by simpa using d5 el) ep;show(fst H6 (by rw[dK _ _ eo,J]) _).mpr ?_;show(ft H6 cc.obj _).mpr ?_;show(_,dg.of ew,_,hZ (by rw[ey];show af),?_);simp only[L2.OZ,L2.NB,nL,ly];have ez:st &&& ((2^n - 1)^^^av.getD ab 0) < 2^n:=fU LY hR.slt;show(st &&& ((2^n - 1)^^^av.getD ab 0),rfl,bF ez (b_ (by decide) aA),λH7 lx xs s7 fP c5 M=>?_);simp only[Us];show((_,dg.of c5),?_);have dV:lx≠B:=(bb N fP).symm;have bk:=cc.mono s7;have d0:=dT.mono s7;have eA:=bK.trans dK s7
   have fQ:∀y∈xs,y < n:=λy hy=>by
    apply bR;intro hh;have:=(M.1 y).mp hy;rw[c7 (bF ez (b_ (by decide) ()))] at this;cases this
   have g5:↑xs<=n:=D5 n xs M.2 fQ;show lr (xs:=nats xs) (afn H7 ps q p D B n ab o (2^nT ns) Z xs v9 v10 v11) (_,rfl,cq,by simpa using s7 _ _ N) (λi σ H8 _ (_,_,s8,_)=>dg.of (cb s8 (by simpa using dV) c5)) ?_ ?_
   ·rintro i x σ H8 hx ⟨f3,rfl,s8,ah⟩;let(y,hy,rfl):=iT hx;have hi:=(aX.mp hy).1;have f5:H8 p=some (.ins a.bA dx (M7 nn lt (2^n - 1) t tm ar ns)):=cb s8 (by simpa using eV bk.obj (s7 _ _ N) (by intro z;cases z)) bk.obj;simp![↓fo H8 f5];have e1:((y:Nat):Int)*((2^nT ns:Nat):Int)+((o:Nat):Int)=((y*2^nT ns+o:Nat):Int):=by rw[Du,sV]
    rw[e1];show(.inl (_,dg.of ah),.inr ((),()),_,ah,?_,_,rfl,dj s8 ⋯,?_)
    ·rw[aQ,aY,aQ,cK];show df ()
    ·rw[aV,BA,take_snoc hy,bD,←bO];rfl
   ·rintro σ H8 ⟨f3,rfl,s8,ah⟩;rw[aQ,dC] at ah;have d1:=dX (A:=[B]) eA (by simpa using fy) s8;have eB:=zH.er (A:=[B]) O bk (bK.trans en eA) (by simpa using c3);have gb:=eB.mono s8;have gg:=d0.frame s8 (λx hx z=>c2 (by rw[←z];show hx)) (s7 _ _ N) (c4 H8 d1);have c6:=zH.er (A:=cellsOf cells) O gb (bK.trans en d1) dv;simp![];show(p,dx,nn,lt,t,tm,ar,D,ns,n,av,xI ms,o,cells,steps,rfl,c6,gV,d2,ea,aA,gg,dy,dB,λc b=>by have:=b5 c b;lia,λH9 cm s9 gk ct=>?_);have gm:=dX (A:=cellsOf cells) d1 cA s9;show(_,_,_,_,_,av,cm,Z++xs.map (λs=>s*2^nT ns+o),rfl,gm,cb s9 c2 ah,c6.mono s9,?_,gk,ct.len,ct.wid,?_,?_,?_,?_)
    ·intro p hp ha;rw[dH p hp];show Fg gV hp ha
    ·show SM gV ea dH b4 ct.mem
    ·intro c b;have h1:=ct.cnt c b;have h2:=b5 c b;have h3:=E1 (vA ns av++vC ns (2^n - 1) av) 0 0 (2^n - 1) c;lia
    ·intro x
     have key:∀z,z∈xs↔z < n/\st.testBit z=true/\ev ns (LcM ms z) (oP ns o) ab=false:=λz=>by
      rw[M.1 z,di,d_,gY,dH ab af];unfold tabAt;rw[cS]
      by_cases hz:z < n
      ·rw[decide_eq_true hz]
       cases st.testBit z <;> cases ev ns (λl=>(ms.getD z 0).testBit l) (oP ns o) ab <;> simp[hz]
      ·rw[decide_eq_false hz];simp[hz]
     rw[cj,aE x,fc];constructor
     ·rintro(⟨z,o',h1,h2⟩|⟨z,hz,rfl⟩)
      ·show(z,o',(),h2)
      ·let(k1,k2,k3):=(key z).mp hz;show(z,o,(),k1,k2,k3,rfl)
     ·rintro⟨z,o',h1,h2,h3,h4,h5⟩
      by_cases e:o' < o
      ·show .inl (z,o',e,h2,h3,h4,h5)
      ·have e:o'=o:=by lia
       subst e;show .inr (z,(key z).mpr (h2,h3,h4),h5.symm)
    ·rw[aY,aQ];lia
  rintro σ H6 ⟨v6,v8,v9,v10,v11,av,steps,Z,rfl,sA,N,cc,_,dT,dy,dB,b4,b5,aE,eu⟩;subst hu';dsimp only;dsimp! [↓far H6 (by rw[sA _ _ eo,J])];have eC:er (t ::B ::cellsOf cells) H5 rr=some (.lst (nats as)):=b2 _ _ (s4 _ _ d3) (bb d3 ei);have gr:bK H H6:=λb y e=>sA _ _ (b2 b y (s4 _ _ e) (bb e ei));show((_,dg.of (sA _ _ eC)),?_);intro AD eD;show Fi (xs:=nats as) (λi H'=>∃rs arcs,V2 H6 AD as i rs arcs H') ([],[],bp (same_refl H6) eD,aV,.nil,rfl,(λr U=>nomatch U),λj hj=>absurd hj ()) (λi H' _ (_,_,I)=>dg.of (I.same _ _ (sA _ _ eC))) ?_ ?_
  ·rintro i x H' hx ⟨rs,arcs,I⟩;let(z,hz,rfl):=iT hx;have hi:=(aX.mp hz).1
   have eF:z < 2^64:=by
    have:=hR.alt i ();rw[eh hz] at this;show bF this (b_ (by decide) aA)
   have dd:=bT I.row;rw[I.len] at dd;simp![];show(z,rfl,eF,λfp l xs s' dh hl M=>(_,s' _ _ I.out,by rw[aQ];show df (),rs++[l],arcs++[xs],I.step s' eD dh hl hz M))
  rintro H7 ⟨rs,arcs,I⟩;rw[aQ] at I;have bl:↑arcs=n:=by rw[I.len,aD]
  have aH:∀i,i < n->Co (as.getD i 0) (arcs.getD i []):=λi hi=>I.bits i ();have eH:oE Ki H7 AD arcs:=(rs,I.out,I.row);have cy:=I.same;clear I;have bk:=cc.mono cy;have d0:=dT.mono cy;have eK:=cy _ _ N;have g6:n*2^nT ns<=4096:=cJ (Nat.mul_le_mul aA ej) (by decide)
  simp_all! [↓fo H7 bk.obj,↓fw H7 bk.obj]
  intro pr dr eN gx ef;have eR:bK H7 (upd (upd H7 dr (.own pr)) pr (.ins a.bB dr [])):=bp (bp (same_refl H7) gx) eN;have gy:bK H7 (er [pr] (upd (upd H7 dr (.own pr)) pr (.ins a.bB dr []))):=λb y e=>dE.mpr (by simpa using bb e eN,eR _ _ e);show(pr,dr,AD,D,2^nT ns,fY ns,arcs,rfl,aV,oE.mono Ki.mono _ _ _ _ eR eH,by rw[bl];lia,(),λH8 sd lv gp tl s8 eT hn hs ht hv gz gA=>(rfl,?_));have cL:=bK.trans gy s8;subst hu';simp![]
  have eW:∀k,↑(fV arcs steps (2^nT ns) k)<=100000:=λk=>by
   unfold fV;show cJ (Mw _ 64 _ λc _=>?_) ?_
   ·rw[aQ];have:↑((steps.getD c []).getD (k % 2^nT ns) [])<=2^nT ns:=b5 c (k % 2^nT ns);lia
   ·by_cases hk:k / 2^nT ns < n
    ·have h1:=aH _ hk;have h2:↑(arcs.getD (k / 2^nT ns) [])<=n:=D5 n _ h1.2 λx hx=>MG hR hk ((h1.1 x).mp hx);lia
    ·rw[ba,js ()];simp
  have gB:RsS a.bB (er [sd,lv,gp,tl] H8) pr dr AD D sd lv gp tl (2^nT ns) (fY ns) arcs steps:=
   (dE.mpr (gz,eT),oE.mono Ki.mono _ _ _ _ cL eH,oE.mono (oE.mono xn.mono) _ _ _ _ cL d0.ls,fg,by rw[bl];lia,λx hx c hc=>?_,dB,eW)
  ·show(pr,dr,AD,D,sd,lv,gp,tl,B,2^nT ns,fY ns,arcs,steps,_,Z,_,rfl,gB,gA,?_,SI,cL _ _ eK,λx hx=>?_,λH9 b hb s9=>?_)
   ·rw[bl];show R7 hR b4 bl aH
   ·let(z,o',h1,h2,_,_,rfl):=(aE x).mp hx;rw[bl]
    calc z*2^nT ns+o' < z*2^nT ns+2^nT ns:=by lia
     _=(z+1)*2^nT ns:=by rw[yq]
     _<=n*2^nT ns:=mq _ h2
   ·simp only[LL];have dc:=Wx hR gV af b4 bl aH hf aE;have sF:bK H H9:=bK.trans gr (bK.trans cy (bK.trans cL s9));have g:=qq H9 sF
    cases b with
    |true=>
     rw[dc.mp (hb.mp rfl)] at g;rw[h9 rfl];show g
    |false=>
     have hc:ze S f=true:=by
      cases e:ze S f with
      |true=>rfl
      |false=>show absurd (hb.mpr (dc.mpr e)) (by decide)
     rw[hc] at g;rw[h8 (by decide)];show g
  ·let(i,hi,e):=dU hx;have e0:i < n:=by lia
   have hg:arcs.getD i []=x:=by rw[eh (aS hi),e]
   have h1:=aH i e0;rw[hg] at h1;rw[dy];show MG hR e0 ((h1.1 c).mp hc)
def acA(h:j<=65536):Zf 1 ((j:Nat):Int):=((),by change(cD 1:Int)+_<=_;rw[show cD 1=1 from rfl];lia)
meta abbrev LTc(ls:List Nat):Nat->Nat:=λz=>Wo ↑ls (ls.idxOf z)
def Ss(ok:Ok ns)(ls:List Nat)(o:Nat):Plain ns (2^2^↑ls - 1) (LTc ls) (tabAt ns (Xv ls) (2^↑ls) o):=λp nd g j=>O8 ok g j
def Yn:tabAt ns Lc m o p≠2^m - 1↔∃c,c < m/\ev ns (Lc c) (oP ns o) p=false:=by
 unfold tabAt;rw[Bf];constructor
 ·intro h;apply bR;intro j
  show h (fk λc g=>by
   cases e:ev ns (Lc c) (oP ns o) p with
   |true=>rfl
   |false=>show absurd (c,g,e) j)
 ·rintro⟨c,g,e⟩ h;have:=congrArg (λz=>z.testBit c) h;simp only[dW _ _ _ g,e] at this
  cases this
abbrev af3(a:Ad):Sp:=λvs H Q _=>X9 λ(q nn d h:aW) (ns:List Nd) (l r:Nat) (f g:wo)=>vs=[.ref q,.int (l:Nat),.int (r:Nat)]/\oR a.cF H q nn d h ns/\Ok ns/\↑ns<=10000/\nT ns<=6/\l < ↑ns/\r < ↑ns/\(∀w,gT w (cv ns l) 0↔gT w f 0)/\(∀w,gT w (cv ns r) 0↔gT w g 0)/\
 ∀H',bK (er [nn,d,h] H) H'->Q (.int (if sG f g=true then 1 else 0)) H'
abbrev acX(a:Ad)(B:Hp)(q p D j J nn lt t tm z dx:aW)(l r ab:Nat)(ls:List Nat)(ns:List Nd)(cells:List aW)(o:Nat)(σ:L2.St)(H':Hp):Prop:=X5 λ(M v10:Option V) (Tb:List Nat) (steps:List (List (Nat×Nat))) (g:List Nat)=>
 σ=[some (.ref q),some (.int (l:Nat)),some (.int (r:Nat)),some (.int (ab:Nat)),some (.ref J),some (.int (2^2^↑ls - 1:Nat)),some (.ref p),some (.ref D),some (.ref j),M,v10]/\bK (er (t ::j ::cells) B) H'/\H' j=some (.lst (nats g))/\zH a H' p dx nn lt t tm z ns (2^2^↑ls - 1) Tb (LTc ls)/\(∀p,p < ↑ns->f_ ns p=false->Tb.getD p 0=tabAt ns (Xv ls) (2^↑ls) 0 p)/\
 Gj H' D cells steps/\↑steps=2^nT ns/\Bp ns (Xv ls) (2^↑ls) o steps/\(∀b,↑(steps.getD b [])<=64*o)/\
 (∀x,x∈g↔x < o/\∃c,c < 2^↑ls/\ev ns (Xv ls c) (oP ns x) ab=false)/\↑g<=o
def Oi(T:Tx2 P w K mg a):gu P w K mg base pS 5 a.Ct a.Aw Ce (af3 a):=by
 show T.IK.ok Gw (λvs H Q E h=>?_) (λgy A outer s H vs Q E hr h=>?_)
 ·nofun
 ·let(q,nn,d,h,ns,l,r,f,g,rfl,hF,gV,gz,gA,hl,dv,hf,hg,qq):=h;have gB:=Gw.nd
  show(_,(aU (c9 3 (dI (pv 0) T.cR T.g_ (gR T.toTx) (hr.mono (by decide)) T.g9 .nil cN (aR (iq (by rfl) T.aaq) (aR (pv 1) (aR (pv 2) br)))))
   (aU (c9 4 (oz (pv 0) T.cR T.sY (qM T.toTx) (hr.mono (by decide)) T.tW .nil cN))
   (aU (c9 5 (cY Ao (cY l7 bU (cY l7 bU (ig ee (by rfl) T.r_ dO (aR (pv 4) br)))) bU))
   (aU (c9 6 (x_ T.BI (qG T) (hr.mono (by decide)) rfl T.C_ T.sj .nil cN (aR (pv 0) (aR (fJ (J7 T.toTx) (hr.mono (by decide)) rfl T.Lw T.Dg.kp T.Lz .nil cN (aR (pv 4) br)) (aR (pv 5) br)))))
   (aU (c9 7 (fJ (ER T.toTx) (hr.mono (by decide)) rfl T.GG T.AF.kp T.GF .nil cN (aR (bN (pv 6) rfl) br)))
   (aU (c9 8 (gS br))
   (aU (jO b8 rfl (BK (by rfl) T.Cq (aR (bN (pv 6) rfl) br)) (b6 9) (aU (dP (dI (pv 6) T.bI T.wV (vG T.toTx) (hr.mono (by decide)) T.wJ .nil cN (aR (pv 9) br)))
   (aU (eG (cx BH (dQ cC (bN (pv 6) rfl) (pv 3) (λ_ _=>rfl)) (pv 5) (dk _)) (bh (dP (lu bu bH bG d7 (pv 8) (aR (pv 9) br)))) dG)
   (bh (dP (fJ (FZ T.toTx) (hr.mono (by decide)) rfl T.Hu T.zb.kp T.G0 .nil cN (aR (pv 7) (aR (pv 6) (aR (pv 9) br)))))))))
   (aU (c9 10 (x_ T.ET (uu T.toTx) (hr.mono (by decide)) rfl T.Gv T.vg .nil cN (aR (gS (aR (gS (aR bU br)) br)) (aR (gS (aR (pv 7) br)) (aR (bN (pv 6) rfl) (aR (bN (pv 6) rfl) br))))))
   (bh (cE (IF (qa (fJ (Iz T.toTx) (hr.mono (by decide)) rfl T.Lg T.D4.kp T.Le .nil cN (aR (pv 10) (aR (pv 8) br)))) bU bU))))))))))),?_)
  let((dq,hq),_):=id hF;dsimp! [];show((_,_,hq,rfl),q,nn,d,h,ns,.alike,l,r,rfl,hF,(),rfl,hl,dv,λH1 b4 s1=>?_);let(gr,af,eb):=Fq gV (n:=(.alike,l,r)) (λ_=>(hl,dv)) (λh=>by cases h) (λh=>by cases h);have dw:=Oy gV (n:=(.alike,l,r)) (λ_=>(hl,dv)) (λh=>by cases h) (λh=>by cases h);generalize (nY ns (.alike,l,r)).2=ab at af eb dw ⊢;generalize (nY ns (.alike,l,r)).1=B at gr af eb dw b4 ⊢;have J:=gr.ok;have gm:=gr.len;have c6:=VW gr;replace c6:nT B<=nT ns+0:=c6
  have eR:∀w,gT w (cv B ab) 0↔(gT w f 0↔gT w g 0):=λw=>by
   rw[dw];change(gT w (cv ns l) 0↔gT w (cv ns r) 0)↔_;rw[hf w,hg w]
  have dy:∀(p:Nat) (n:Nd),B[p]? =some n->n.k= .fS->n.l∈ka B:=λp n h1 h2=>SV h1 h2;have bx:(ka B).Nodup:=Rc J;have b0:=Hi J;have av:↑(ka B)<=16:=D5 16 _ bx b0
  simp_all! []
  let((gC,eT),_):=id b4;show((_,_,eT,rfl),q,nn,d,h,B,rfl,b4,(),λH2 ll s2 ec b5=>?_);generalize eW:ka B=ls at dy bx b0 av b5
  simp_all! []
  show(_,.inl (dg.of b5),?_);rw[aQ]
  have e1:(1:Int)*2^((↑ls:Nat):Int).toNat=((2^↑ls:Nat):Int):=by
   have:=Ck 1 ↑ls;rw[Ls] at this;show this
  have e0:=Pd av;rw[e1,MU];show(acA (),acA e0,?_)
  simp_all! []
  show(ll,ls,rfl,b5,bx,av,λHa lt sa e2 ed=>?_);intro p dx hp ef bk;have b1:bK H1 Ha:=bK.trans s2 sa;have sM:bK Ha (upd (upd Ha dx (.own p)) p (.ins a.bA dx [])):=bp (bp (same_refl Ha) ef) hp;show(p,dx,q,lt,nn,d,h,B,_,LTc ls,tabAt B (Xv ls) (2^↑ls) 0,rfl,aV,b4.mono (bK.trans b1 sM),J,(),(),by rw[eW];show ed.mono sM,Ss J ls 0,λH3 t tm aA Tb Z e3 s3 eg=>(rfl,?_));have e4:=same_none b1 hp;have s4:bK H1 H3:=dX (A:=[p]) (bK.trans b1 sM) (by simpa using e4) s3;have e5:H1 t=none:=same_none (bK.trans b1 sM) eg;clear s3 eg sM bk ef hp ed e2 sa b1 b5 ec s2;subst hu';have fo:∀H',H' p=some (.ins a.bA dx (M7 nn lt (2^2^↑ls - 1) t tm aA B))->∀Q:VK,nh K ("outlooks" :bV) (.ref p) H' Q=Q (.int (2^nT B:Nat)) H':=λH' e Q=>bS e T.bI T.jk rfl Q;have fw:∀H',H' p=some (.ins a.bA dx (M7 nn lt (2^2^↑ls - 1) t tm aA B))->∀Q:VK,nh K ("wishes" :bV) (.ref p) H' Q=Q (.int (fY B:Nat)) H':=λH' e Q=>bS e T.bI T.jV rfl Q;have ft:∀H',H' p=some (.ins a.bA dx (M7 nn lt (2^2^↑ls - 1) t tm aA B))->∀Q:VK,nh K ("tables" :bV) (.ref p) H' Q=Q (.ref t) H':=λH' e Q=>bS e T.bI T.fE rfl Q
  have gx:2^nT B<=64:=by
   have h2:2^nT B<=2^6:=b_ (by decide) ();lia
  have e6:1<=2^nT B:=d9 _;have ei:1<=2^↑ls:=d9 _;dsimp! [↓fo H3 Z.obj];show(2^nT B,rfl,(),λH4 D cells dB hD cc e7 bl e8=>?_)
  have fa:Gj H4 D cells (bq (2^nT B) []):=by
   show(dE.mpr (λU=>(bl D U).2.1 rfl,cc),iJ (by rw[e7,fz]) λj c es h3 h4=>?_,e8)
   have ff:es=[]:=by
    rw[dY] at h4
    split at h4
    ·show(bQ h4).symm
    ·cases h4
   subst ff;show([],(bl c (bJ h3)).2.2,.nil)
  have dH:∀x∈cells,H3 x=none:=λx hx=>(bl x hx).1
  simp_all! []
  show(by decide,λM b2=>?_);have cm:bK H4 (upd H4 M (.lst [])):=bp (same_refl H4) b2;have dc:upd H4 M (.lst []) M=some (.lst []):=aV;generalize upd H4 M (.lst [])=H5 at cm dc ⊢
  have dd:M∉cells:=λU=>by
   have:=(bl M U).2.2;rw[b2] at this;cases this
  have dK:=bK.trans dB cm
  have fg:t∉cells:=λU=>by
   have:=dH t U;rw[Z.tabs] at this;cases this
  have ej:t≠M:=bb (dB _ _ Z.tabs) b2;have dh:H3 M=none:=same_none dB b2
  have ek:∀b y,H3 b=some y->b≠t->er (t ::M ::cells) H5 b=some y:=λb y e n=>by
   show dE.mpr (λU=>?_,dK _ _ e);rcases bo.mp U with z|U
   ·show n z
   ·rcases bo.mp U with z|U
    ·rw[z,dh] at e;cases e
    ·rw[dH b U] at e;cases e
  have el:bK (er [t] H3) (er (t ::M ::cells) H5):=λb y e=>ek b y (dE.mp e).2 (by simpa using (dE.mp e).1);have tA:er (t ::M ::cells) H5 t=none:=by unfold er;rw[h9 ⋯]
  have fl:er (t ::M ::cells) H5 M=none:=by unfold er;rw[h9 ⋯]
  have cA:∀x∈cells,er (t ::M ::cells) H5 x=none:=λx hx=>by unfold er;rw[h9 (aZ _ (aZ _ hx))]
  have dT:er (t ::M ::cells) H5 D=some (.lst (cells.map V.ref)):=by
   show dE.mpr (λU=>?_,cm _ _ cc);rcases bo.mp U with z|U
   ·rw[z,Z.tabs] at hD;cases hD
   ·rcases bo.mp U with z|U
    ·rw[z,b2] at cc;cases cc
    ·show(bl D U).2.1 rfl
  have dn:∀Hk,bK (er (t ::M ::cells) H5) Hk->er cells Hk D=some (.lst (cells.map V.ref)):=λHk sk=>dE.mpr (λU=>(bl D U).2.1 rfl,sk _ _ dT)
  simp_all! [↓fo H5 (dK _ _ Z.obj)]
  show((),(),?_);rw[bP];show J4 (acX a H5 q p D M ll nn lt t tm aA dx l r ab ls B cells) (none,none,Tb,_,[],rfl,cq,dc,Z.mono dK,e3,fa.mono cm,fz,abw _ _ _,λb=>by rw[ba,dY];split <;> simp,λx=>((λh=>by cases h),λh=>absurd h.1 ()),d6 _) ?_ ?_
  ·rintro o σ H' ho ⟨v9,v10,fp,steps,ah,rfl,sA,en,ct,eo,fq,dV,cy,cL,ar,ep⟩;rw[Rp];show jM λu2 c0=>?_;simp![];show((_,_,ct.obj,rfl),p,dx,nn,lt,t,tm,aA,B,_,fp,LTc ls,tabAt B (Xv ls) (2^↑ls) o,o,rfl,ct,J,(),Ss J ls o,(λp nd h hk=>RJ J h hk),(λp hp ha=>by rw[eo p hp ha];show Fg J hp ha),λY bt s6 et eu d0=>?_);have d1:=dX (A:=[t]) sA (by simpa using tA) s6;have b3:=ct.ZS s6 et eu;have c1:=fq.frame s6 (λx hx z=>fg (by rw[←z];show hx)) ct.tabs (dn Y d1);have O:Y M=some (.lst (nats ah)):=cb s6 (by simpa using d5 ej) en
   have fin:∀(H8:Hp) (N:List Nat) (v10:Option V),bK (er [M] Y) H8->H8 M=some (.lst (nats N))->(∀x,x∈N↔x < o+1/\∃c,c < 2^↑ls/\ev B (Xv ls c) (oP B x) ab=false)->↑N<=o+1->
     acb a [V.ref D,V.ref p,V.int (o:Nat)] H8 (λx H1=>acX a H5 q p D M ll nn lt t tm aA dx l r ab ls B cells (o+1) [some (.ref q),some (.int (l:Nat)),some (.int (r:Nat)),some (.int (ab:Nat)),some (.ref ll),some (.int (2^2^↑ls - 1:Nat)),some (.ref p),some (.ref D),some (.ref M),some (.int (o:Nat)),v10] H1) E0:=by
    intro H8 N v10 s8 ew d2 d3;have d4:=dX (A:=[M]) d1 (by simpa using fl) s8;have ey:=zH.er (A:=[M]) Z b3 (bK.trans el d1) (by simpa using dh);have fv:=ey.mono s8;have fx:=c1.frame s8 (λx hx z=>dd (by rw[←z];show hx)) O (dn H8 d4);have dp:=zH.er (A:=cells) Z fv (bK.trans el d4) dH;show(p,dx,nn,lt,t,tm,aA,D,B,2^↑ls,bt,LTc ls,o,cells,steps,rfl,dp,J,(),ei,fx,dV,λb=>by have:=cL b;lia,λH9 c2 s9 fy ea=>?_);have fA:=dX (A:=cells) d4 cA s9;show(_,_,bt,c2,N,rfl,fA,cb s9 dd ew,dp.mono s9,?_,fy,ea.len,?_,?_,d2,d3)
    ·intro p hp ha;rw[d0 p hp];show Fg J hp ha
    ·show QR J ei d0 cy ea.mem
    ·intro b;have h1:=ea.cnt b;have h2:=cL b;have h3:=(we (vA B bt) 0 0 (2^2^↑ls - 1)).1;rw[Bx] at h3;lia
   subst c0;dsimp only;show jM λu2 c0=>?_;simp![↓ft Y b3.obj];show(_,dg.of et,_,hZ (by rw[eu];show af),?_);simp![];have key:bt.getD ab 0≠2^2^↑ls - 1↔∃c,c < 2^↑ls/\ev B (Xv ls c) (oP B o) ab=false:=by rw[d0 ab af];show Yn
   show kg (λbk=>?_) (λheq=>?_)
   ·have bk:bt.getD ab 0≠2^2^↑ls - 1:=λe=>bk (by rw[e]);show(.inl (_,dg.of O),_,O,by rw[aQ];show df (),?_);rw[BA];subst c0;simp![];show fin _ (ah++[o]) _ (dj cq ⋯) aV (λx=>?_) (by rw[aY,cw];lia);rw[cj,bz,ar x];constructor
    ·rintro(⟨h1,h2⟩|rfl)
     ·show((),h2)
     ·show((),key.mp bk)
    ·rintro⟨h1,h2⟩
     by_cases e:x < o
     ·show .inl (e,h2)
     ·show .inr ()
   ·subst c0;simp![];show fin Y ah _ cq O (λx=>?_) ();rw[ar x];constructor
    ·rintro⟨h1,h2⟩;show((),h2)
    ·rintro⟨h1,h2⟩
     by_cases e:x < o
     ·show(e,h2)
     ·have e:x=o:=by lia
      subst e;exfalso;have:=key.mpr h2;apply heq;intro h;show this ()
  rintro σ Y ⟨v9,v10,bt,steps,ah,rfl,sA,O,b3,_,c1,dV,cy,cL,ar,ep⟩;subst hu';dsimp only;dsimp! [];show(by decide,λz1 ez=>(by decide,λz2 eA=>(by decide,λz3 eB=>?_)));have sa:bK Y (upd Y z1 (.lst [.int 0])):=bp (same_refl Y) ez;have sb:bK (upd Y z1 (.lst [.int 0])) (upd (upd Y z1 (.lst [.int 0])) z2 (.lst [.ref z1])):=bp (same_refl _) eA;have sc:bK (upd (upd Y z1 (.lst [.int 0])) z2 (.lst [.ref z1])) (upd (upd (upd Y z1 (.lst [.int 0])) z2 (.lst [.ref z1])) z3 (.lst [.ref D])):=bp (same_refl _) eB;have k3:upd (upd (upd Y z1 (.lst [.int 0])) z2 (.lst [.ref z1])) z3 (.lst [.ref D]) z3=some (.lst [.ref D]):=aV;have k2:=sc _ _ (aV (H:=upd Y z1 (.lst [.int 0])) (a:=z2) (o:= .lst [.ref z1]));have k1:=sc _ _ (sb _ _ (aV (H:=Y) (a:=z1) (o:= .lst [.int 0])));have aE:=bK.trans sa (bK.trans sb sc);generalize upd (upd (upd Y z1 (.lst [.int 0])) z2 (.lst [.ref z1])) z3 (.lst [.ref D])=H7 at k1 k2 k3 aE ⊢;clear sa sb sc ez eA eB;show(fo H7 (aE _ _ b3.obj) _).mpr ?_;show(fw H7 (aE _ _ b3.obj) _).mpr ?_;have eC:=aE _ _ O;have eD:oE Ki H7 z2 [[0]]:=([z1],k2,.cons k1 .nil);have fK:oE (oE xn) H7 z3 [steps]:=([D],k3,.cons (cells,aE _ _ (cq _ _ c1.out),L2.Paired.jh c1.Kp λd e h=>xn.mono _ _ _ _ aE h) .nil);intro pr dr eF fP bk;have eH:bK H7 (upd (upd H7 dr (.own pr)) pr (.ins a.bB dr [])):=bp (bp (same_refl H7) fP) eF;have fQ:bK H7 (er [pr] (upd (upd H7 dr (.own pr)) pr (.ins a.bB dr []))):=λb y e=>dE.mpr (by simpa using bb e eF,eH _ _ e);have c3:↑([[0]]:List (List Nat))*2^nT B=2^nT B:=by change 1*2^nT B=_;rw[Ls]
  show(pr,dr,z2,z3,2^nT B,fY B,[[0]],rfl,aV,oE.mono Ki.mono _ _ _ _ eH eD,by rw[c3];lia,by decide,λH8 sd lv gp tl s8 eK gD gI gO g0 f3 f5=>(rfl,?_));have c4:=bK.trans fQ s8;subst hu';simp![]
  have eN:∀k,↑(fV [[0]] [steps] (2^nT B) k)<=100000:=λk=>by
   unfold fV;show cJ (Mw _ 4096 _ λc _=>?_) ?_
   ·rw[aQ]
    cases c with
    |zero=>
     have:↑(steps.getD (k % 2^nT B) [])<=64*2^nT B:=cL (k % 2^nT B);change↑(steps.getD (k % 2^nT B) [])<=4096;lia
    |succ c=>simp
   ·cases k / 2^nT B with
     |zero=>change 1*4096<=100000;decide
     |succ j=>simp
  have gb:RsS a.bB (er [sd,lv,gp,tl] H8) pr dr z2 z3 sd lv gp tl (2^nT B) (fY B) [[0]] [steps]:=
   (dE.mpr (f3,eK),oE.mono Ki.mono _ _ _ _ c4 eD,oE.mono (oE.mono xn.mono) _ _ _ _ c4 fK,e6,by rw[c3];lia,(λx hx c hc=>by
    rw[bz] at hx;subst hx;rw[bz] at hc;subst hc;show Lr),(λx hx=>by rw[bz] at hx;subst hx;show dV),eN)
  show(pr,dr,z2,z3,sd,lv,gp,tl,M,2^nT B,fY B,[[0]],[steps],_,ah,_,rfl,gb,f5,?_,SI,c4 _ _ eC,λx hx=>?_,λH9 b hb s9=>?_)
  ·rw[c3];show PR cy
  ·rw[c3];show((ar x).mp hx).1
  ·simp only[LL];let(props,c5):=Z2 b0;have dt:=Zz cy J af eR (props:=props) (λp n h1 h2 s hs=>c5 s n.l (dy p n h1 h2)) (λx=>let(c,hc,e):=abx ls x;(c,hc,λp n h1 h2=>e n.l (dy p n h1 h2))) ar;have gk:bK H1 Y:=λb y e=>sA _ _ (ek b y (s4 _ _ e) (bb e e5));have sF:bK (er [nn,d,h] H) H9:=bK.trans s1 (bK.trans gk (bK.trans aE (bK.trans c4 s9)));have gg:=qq H9 sF
   cases b with
   |true=>
    rw[dt.mp (hb.mp rfl)] at gg;rw[h9 rfl];show gg
   |false=>
    have hc:sG f g=true:=by
     cases e:sG f g with
     |true=>rfl
     |false=>show absurd (hb.mpr (dt.mpr e)) (by decide)
    rw[hc] at gg;rw[h8 (by decide)];show gg
def WT:bootBuiltins "max" =some (.builtin "max"):=by decide+kernel
abbrev aaw(H:Hp)(f:aW)(ts:List Nat):Prop:=H f=some (.lst (ts.map λc=>V.str (gG c)))
def ZH(c:Nat):N5 (.str (gG c)) [.str "X",.str "F",.str "G",.str "U",.str "R",.str "W"]=nj c:=by
 by_cases h1:c=45
 ·subst h1;decide+kernel
 by_cases h2:c=60
 ·subst h2;decide+kernel
 unfold gG;rw[h8 h1,h8 h2,QU c [88,70,71,85,82,87] (by decide+kernel)];unfold nj;simp only[iE,vm,kU,NL (a:=c)]
 cases(88==c) <;> cases(70==c) <;> cases(71==c) <;> cases(85==c) <;> cases(82==c) <;> cases(87==c) <;> rfl
def OS(ts:List Nat)(h:ts[j]? =some c):(ts.take (j+1)).filter nj=(ts.take j).filter nj++if nj c=true then [c] else []:=by
 rw[take_snoc h,hJ,cP,sS]
abbrev ahg(H:Hp)(D:aW)(g:List (List Nat))(i:Nat)(H':Hp):Prop:=bK H H'/\H' D=some (.lst ((g.take i).map λb=>V.int (↑b:Nat)))
abbrev ahs(H:Hp)(D:aW)(ts:List Nat)(i:Nat)(H':Hp):Prop:=bK H H'/\H' D=some (.lst (((ts.take i).filter nj).map λc=>V.str (gG c)))
abbrev ahm(H:Hp)(tl B:aW)(j:List (List Nat))(i:Nat)(σ:L2.St)(H':Hp):Prop:=X7 λ(v1 D J M N:Option V) (fs:List aW) (g:List (List Nat))=>σ=[some (.ref tl),v1,some (.ref B),some (.int ((g.map K9).sum:Nat)),D,J,M,N]/\bK H H'/\H' B=some (.lst (fs.map V.ref))/\Paired (aaw H') fs g/\(∀f∈fs,f≠B)/\↑g=i/\
 UW j [-10,-2000]=match UW (j.drop i) (([-10,-2000]:List Int).drop i) with
  | .error z=> .error z
  | .ok r=> .ok (g++r)
abbrev ah_(K:bj):Sp:=λvs H Q _=>∃(tl:aW) (B:List aW) (g:List (List Nat)),vs=[.ref tl]/\H tl=some (.lst (B.map V.ref))/\Paired (λr b=>dg K H r (nats b)) B g/\1<=↑g/\↑g<=2/\(∀b∈g,↑b<=1100/\∀x∈b,x < 256)/\
 ∀H' T D fs z j,bK H H'->H' T=some (.tup [.int z,.ref D])->H' D=some (.lst (fs.map V.ref))->Paired (aaw H') fs j->M_ g=(z,j,)->Q (.ref T) H'
def Of(T:Tx P w K mg a):gu P w K mg base pS 4 a.CG a.Ar BZ (ah_ K):=by
 show T.IE.ok wz (λvs H Q E h=>?_) (λdy A outer s H vs Q E hr h=>?_)
 ·nofun
 ·let(tl,rs,g,rfl,aE,b4,h1,h2,dq,q):=h;have dB:=wz.nd
  show(_,(aU (eG (cx OV (ig (Xl rfl) (by rfl) T.afu WT (aR (OT (own:=[("text",1,)]) rfl wz.nd (jE (pv 0)) (sg (by rfl)) (λ_ _ _ _ _=>(b6 1)) (λ_ _ _ _ _=>Ft) (λ_ _ _ _ _=>(ig (N6 (K:=K) rfl) (by rfl) T.r_ dO (aR (pv 1) br)))) br)) (fb (by rfl) T.Wy) (dk _)) (bh (cE (mx (aR (fb (by rfl) T.TK) (aR (gS br) br))))) dG)
   (aU (c9 2 (gS br))
   (aU (c9 3 bU)
   (aU (jO b8 rfl (Zm (by rfl) T.acN (aR (pv 0) (aR (iZ (v:= .ref a.BW) (by rfl) T.Q1 rfl) br))) (jw (n:=2) rfl (ck (b6 1) (ck (b6 4) g8))) (aU (jN (fJ (N_ T) (hr.mono (by decide)) rfl T.PY T.IG.kp T.PJ .nil cN (aR (pv 1) br)) (jw (n:=2) rfl (ck (b6 5) (ck (b6 6) g8))))
   (aU (eG (cx BH (pv 6) (fb (by rfl) T.Pj) (dk _)) (bh (cE (mx (aR (cY Ao (pv 4) (pv 6)) (aR (gS br) br))))) dG)
   (aU (dP (lu bu bH bG d7 (pv 2) (aR (pv 5) br)))
   (bh (CP 3 (ig ee (by rfl) T.r_ dO (aR (OT (own:=[("sign",7,)]) rfl wz.nd (jE (pv 5)) (sg (by rfl)) (λ_ _ _ _ _=>(b6 7)) (λ_ _ _ _ _=>(L4 (cx (Nw (K:=K) rfl) (pv 7) (iZ (v:= .ref a.Cc) (by rfl) T.Q9 rfl) (by rfl)))) (λ_ _ _ _ _=>(pv 7))) br)) ZP))))))
   (aU (eG (cx OV (pv 3) (fb (by rfl) T.QP) (dk _)) (bh (cE (mx (aR (fb (by rfl) T.KH) (aR (gS br) br))))) dG)
   (bh (cE (mx (aR (fb (by rfl) T.uY) (aR (pv 2) br)))))))))),?_)
  have b5:=bT b4
  have U:∀(H1:Hp) (z:Int),bK H H1->M_ g=(z,[],)->(0<=sizeLine/\∀p,H1 p=none->2<=sizeLine/\∀cc,upd H1 p (.lst []) cc=none->Q (.ref cc) (upd (upd H1 p (.lst [])) cc (.tup [.int z,.ref p]))):=λH1 z s h=>by
   show(by decide,λJ cm=>(by decide,λT hT=>?_));have sf:bK H1 (upd H1 J (.lst [])):=bp (same_refl H1) cm;show q _ T J [] z [] (bK.trans s (bK.trans sf (bp (same_refl _) hT))) aV ?_ .nil h;rw[bc (bb (aV (H:=H1) (a:=J) (o:= .lst [])) hT),aV];rfl
  show jM λu' hu'=>?_;show Ii λY hY=>?_;simp![];show((_,dg.of aE),?_);intro D hD;show Fi (xs:=rs.map V.ref) (ahg H D g) (bp (same_refl H) hD,aV) (λi H' _ h=>dg.of (h.1 _ _ aE)) ?_ ?_
  ·rintro i x H' hx ⟨s',dr⟩;let(r,ct,rfl):=iT hx;let(b,hb,cy):=eJ b4 ct;simp![];show(_,.inl (s'.seq cy),?_);rw[aQ];show(_,dr,by rw[aQ,cK];show df (),bp s' hD,?_);rw[aV,take_snoc hb,bD];rfl
  rintro H1 ⟨s1,c2⟩;rw[aQ,b5,dC] at c2;show(g.map λb=>((↑b:Nat):Int),dg.of (by rw[c2,qA];rfl),by rw[aQ];lia,λm hm c3=>?_)
  have Z:(g.any λb=>decide (1024 < ↑b))=decide ((1024:Int) < m):=by
   let(b,hb,rfl):=fc.mp hm
   by_cases h:1024 < ↑b
   ·rw[decide_eq_true (),iO];show(b,hb,decide_eq_true h)
   ·rw[decide_eq_false (),vt];intro c hc;have:=c3 _ (fc.mpr (c,hc,rfl));simp only[decide_eq_true_eq];lia
  subst hY
  by_cases hl:(g.any λb=>decide (1024 < ↑b))=true
  ·show(h9 (by rw[←Z];show hl)).mpr ?_;simp![];show U H1 (-1) s1 (by unfold M_;rw[h9 hl])
  show(h8 (by rw[←Z];show hl)).mpr ?_
  have ah:M_ g=match UW g [-10,-2000] with
   | .error z=>(z,[],)
   | .ok B=>if 6 < (B.map K9).sum then(-3,[],) else(0,B,):=by unfold M_;rw[h8 hl];(try cases UW g [-10,-2000] <;> rfl)
  simp![]
  simp_all! []
  show(by decide,λJ cm=>?_);have bl:=same_none s1 cm;have sf:bK H (upd H1 J (.lst [])):=bp s1 bl;have bt:upd H1 J (.lst []) J=some (.lst []):=aV;generalize upd H1 J (.lst [])=H2 at sf bt ⊢
  simp_all! []
  simp_all! [↓ad9]
  show((_,dg.of (sf _ _ aE)),(_,T.Ig _),?_);show aaA (xs:=rs.map V.ref) (ys:=[.int (-10),.int (-2000)]) (ahm H tl J g) (none,none,none,none,none,[],[],rfl,sf,bt,.nil,(λf hf=>nomatch hf),rfl,by simp only[zk];(try cases UW g [-10,-2000] <;> rfl)) (by rw[aQ,b5];show h2) (λi σ H' _ (_,_,_,_,_,_,_,_,s',_)=>(dg.of (s' _ _ aE),T.Ig _)) ?_ ?_
  ·rintro i x y σ H' Tt hx hy ⟨v1,v4,v5,v6,v7,fs,B,rfl,s',N,ar,cA,bx,av⟩ dt;let(r,ct,rfl):=iT hx;let(b,hb,cy):=eJ b4 ct;have hi:=(aX.mp hb).1
   obtain⟨cd,c4,rfl⟩:∃cd,([-10,-2000]:List Int)[i]? =some cd/\y=V.int cd:=by
    have:([-10,-2000]:List Int).map V.int=[V.int (-10),V.int (-2000)]:=rfl;rw[←this] at hy;show iT hy
   have c5:g.drop i=b ::g.drop (i+1):=by
    rw[dN hi];congr 1;show bQ ((aS hi).symm.trans hb)
   have c6:([-10,-2000]:List Int).drop i=cd ::([-10,-2000]:List Int).drop (i+1):=by
    have dc:=(aX.mp c4).1;rw[dN dc];congr 1;show bQ ((aS dc).symm.trans c4)
   have sT:bK H' (upd H' Tt (.tup [.ref r,.int cd])):=bp (same_refl H') dt;have bk:upd H' Tt (.tup [.ref r,.int cd]) Tt=some (.tup [.ref r,.int cd]):=aV;generalize upd H' Tt (.tup [.ref r,.int cd])=H3 at sT bk ⊢;have s3:=bK.trans s' sT;let(dv,cL):=dq b (bJ hb);simp![];show(_,qH.of bk,rfl,?_);simp![];show(r,b,rfl,s3.seq cy,dv,cL,λH4 t l z s4 dw ht O=>(t,rfl,_,qH.of ht,rfl,_,_,rfl,_,_,rfl,rfl,?_));simp only[L2.acp,L2.LL];have dd:=bK.trans s3 s4;unfold Jd at O
   cases M:iR (sD 0) (uo b) with
   |error e=>
    rw[M] at O;simp only at O;rw[h9 (by rw[iz,decide_eq_false_iff_not];lia)];simp only[L2.OZ,L2.NB];show U H4 (cd - z) dd ?_;rw[ah,av,c5,c6,UW,M];simp only[O]
   |ok ts=>
    rw[M] at O;let(rfl,dh):=O;rw[h8 ⋯];have b0:=s4 _ _ (sT _ _ N);have c0:l≠J:=(bb (sT _ _ N) dw).symm;show(.inl (_,dg.of b0),_,b0,by rw[aQ,bT ar];show df (),(_,dg.of (by rw[bc c0];show dh)),?_);have s5:bK H (upd H4 J (.lst (fs.map V.ref++[.ref l]))):=bp dd bl;have c1:upd H4 J (.lst (fs.map V.ref++[.ref l])) l=some (.lst (ts.map λc=>V.str (gG c))):=by rw[bc c0];show dh
    have b1:upd H4 J (.lst (fs.map V.ref++[.ref l])) J=some (.lst ((fs++[l]).map V.ref)):=by rw[aV,bD];rfl
    have b2:Paired (aaw (upd H4 J (.lst (fs.map V.ref++[.ref l])))) (fs++[l]) (B++[ts]):=by
     show gQ (iJ (bT ar) λk f us k1 k2=>?_) c1;let(dH,m1,m2):=eJ ar k1;rw[k2] at m1
     cases m1
     unfold aaw at m2 ⊢;rw[bc (cA f (bJ k1))];show s4 _ _ (sT _ _ m2)
    generalize upd H4 J (.lst (fs.map V.ref++[.ref l]))=H5 at s5 c1 b1 b2 ⊢;intro D2 dn;show Fi (xs:=ts.map λc=>V.str (gG c)) (ahs H5 D2 ts) (bp (same_refl H5) dn,aV) (λj H6 _ h=>dg.of (h.1 _ _ c1)) ?_ ?_
    ·rintro j x H6 hx ⟨s6,aA⟩;let(c,hc,rfl):=iT hx;simp![];show(_,.inr (T.P6 _),rfl,rfl,?_);rw[ZH];show kg (λh=>?_) (λh=>?_)
     ·show(_,aA,?_,bp s6 dn,?_)
      ·rw[aQ];have k1:=eP nj (ts.take j);rw[cK] at k1;have k2:=(L5 M).2.1;show df ()
      ·rw[aV,OS ts hc,h9 h,bD];rfl
     ·show(s6,?_);rw[OS ts hc,h8 h,fL];show aA
    ·rintro H6 ⟨s6,aA⟩;rw[aQ,dC] at aA;show(_,.inl (dg.of aA),?_);rw[aQ,←UO]
     have dp:(((B.map K9).sum:Nat):Int)+((K9 ts:Nat):Int)=((((B++[ts]).map K9).sum:Nat):Int):=by
      rw[bD,Dp];simp only[cg,gE,fe,i_,gW];rw[Du]
     rw[dp];show(_,_,_,_,_,fs++[l],B++[ts],rfl,bK.trans s5 s6,s6 _ _ b1,L2.Paired.jh b2 λd e h=>s6 _ _ h,λf hf=>?_,by rw[aY,bx];rfl,?_)
     ·rcases cj.mp hf with k|k
      ·show cA f k
      ·rw[bz] at k;subst k;show c0
     ·rw[av,c5,c6,UW,M];simp only
      cases UW (g.drop (i+1)) (([-10,-2000]:List Int).drop (i+1)) with
      |error z=>rfl
      |ok r=>simp only[bO,List.singleton_append,ia,oK]
  rintro σ H' ⟨v1,v4,v5,v6,v7,fs,B,rfl,s',N,ar,cA,bx,av⟩;rw[aQ,b5,BO] at av;subst hu';dsimp only;dsimp! []
  have b3:UW g [-10,-2000]= .ok B:=by
   rw[av]
   change(match UW [] (([-10,-2000]:List Int).drop ↑g) with
    | .error z=>CU z
    | .ok r=> .ok (B++r))=_
   rw[UW]
   ·simp
   ·intro b bs c cs h;cases h
  show kg (λh=>?_) (λh=>?_)
  ·show U H' (-3) s' (by rw[ah,b3];simp only;rw[h9 ()])
  ·subst hu';simp![];show(by decide,λT1 bk=>?_);have sT:bK H' (upd H' T1 (.tup [.int 0,.ref J])):=bp (same_refl H') bk;show q _ T1 J fs 0 B (bK.trans s' sT) aV (sT _ _ N) (L2.Paired.jh ar λd e h=>sT _ _ h) (by rw[ah,b3];simp only;rw[h8 ()])
meta abbrev LB(ts:List Nat):wo:=finish (gL ts ([],[],))
structure EC(g:List (List Nat))(ns:List Nd)(roots:List Nat):Prop where
 ok:Ok ns
 len:↑ns<=3*(g.map iw).sum
 nT:Pt.nT ns<=(g.map K9).sum
 rts:Paired (λr ts=>r < ↑ns/\cv ns r=core (LB ts)) roots g
def adu:EC [] [] []:=((nz,λp n h=>by simp at h,λp n h=>by simp at h,λp n h=>by simp at h),aT _,aT _,.nil)
def EC.step(B:EC j ns roots)(v:valid true 0 ts)(J:(yR ns ts).rd=[ab]):EC (j++[ts]) (yR ns ts).ns (roots++[ab]):=by
 let(r,z,_,M,N,g,_):=TH B.ok v;rw[J] at z
 cases z
 have h1:=g.len;have h2:=VW g;have O:=B.len;have Q:=B.nT;let(U,D):=g.ext;show(g.ok,?_,?_,gQ (L2.Paired.jh B.rts λr ts h=>(by rw[D,aY];lia,by rw[D,MV h.1];show h.2)) (M,N))
 ·rw[bD,Dp];simp only[cg,gE,fe,i_];lia
 ·rw[bD,Dp];simp only[cg,gE,fe,i_];lia
def Xk(h1:1<=↑j)(h2:↑j<=2)(h:M_ j=(z,B,)):↑B<=2/\∀ts∈B,valid true 0 ts/\↑ts<=1024:=by
 match j,h1,h2,h with
 |[b],_,_,h=>
  let(k1,J):=L_ h
  by_cases D:z=0
  ·let(ts,rfl,g,_):=J D;show(⋯,λus hu=>by rw[bz] at hu;subst hu;show(g.v,g.len))
  ·rw[(k1 D).1];show(⋯,λus hu=>nomatch hu)
 |[b,c],_,_,h=>
  let(k1,J):=Vs h
  by_cases D:z=0
  ·let(ts,us,rfl,g,g',_):=J D;show(⋯,λvs hu=>?_);rcases bo.mp hu with rfl|hu
   ·show(g.v,g.len)
   ·rw[bz] at hu;subst hu;show(g'.v,g'.len)
  ·rw[(k1 D).1];show(⋯,λus hu=>nomatch hu)
def oR.Zg(F:oR C H p n d h ns)(g:H D=some (.lst xs))(n1:n≠D)(n2:h≠D):oR C (upd H D o) p n d h ns:=by
 let((dx,J),(ts,M,j),hd,N,B):=F;show((dx,by rw[bc (eV J g (by intro z;cases z))];show J),(ts,by rw[bc n1];show M,L2.Paired.jh j λb e q=>jm g q),by rw[bc (eV hd g (by intro z;cases z))];show hd,by rw[bc n2];show N,B)
abbrev ago(j:aW)(z:Hp)(q nn d h D:aW)(g:List (List Nat))(i:Nat)(H':Hp):Prop:=∃(ns:List Nd) (roots:List Nat),bK (er [nn,d,h] z) H'/\oR j H' q nn d h ns/\H' D=some (.lst (nats roots))/\EC (g.take i) ns roots
abbrev aiz(a:Ad)(K:bj):Sp:=λvs H Q _=>∃(tl:aW) (B:List aW) (g:List (List Nat)),vs=[.ref tl]/\H tl=some (.lst (B.map V.ref))/\Paired (λr b=>dg K H r (nats b)) B g/\1<=↑g/\↑g<=2/\(∀b∈g,↑b<=1100/\∀x∈b,x < 256)/\
 ∀H' T q nn d h D roots z j ns,bK H H'->H' T=some (.tup [.int z,.ref q,.ref D])->H' D=some (.lst (nats roots))->oR a.cF H' q nn d h ns->H nn=none->H d=none->H h=none->M_ g=(z,j,)->EC j ns roots->Q (.ref T) H'
def wu(T:Tx P w K mg a):gu P w K mg base pS 8 a.CN a.AE Cy (aiz a K):=by
 show T.u7.ok AI (λvs H Q E h=>?_) (λc6 A outer s H vs Q E hr h=>?_)
 ·nofun
 ·let(tl,rs,b3,rfl,b4,b5,h1,h2,cc,qq):=h;have dc:=AI.nd
  show(_,(aU (jN (fJ (Of T) (hr.mono (by decide)) rfl T.QF T.IE.kp T.Q8 .nil cN (aR (pv 0) br)) (jw (n:=2) rfl (ck (b6 1) (ck (b6 2) g8))))
   (aU (c9 3 (MZ T.R5 (Ez T) (hr.mono (by decide)) rfl T.T3 T.F6 .nil cN))
   (aU (Ih (i:=4) (own:=[("signs",5,)]) rfl AI.nd rfl rfl (Mc rfl rfl rfl (by decide+kernel)) (jE (pv 2)) (sg (by rfl)) (λ_ _ _ _ _=>(b6 5)) (λ_ _ _ _ _=>Ft) (λ_ _ _ _ _=>(fJ (Mv T) (hr.mono (by decide)) rfl T.NZ T.Gz.kp T.N0 .nil cN (aR (pv 3) (aR (pv 5) br)))))
   (bh (cE (mx (aR (pv 1) (aR (pv 3) (aR (pv 4) br))))))))),?_)
  dsimp! [];show(tl,rs,b3,rfl,b4,b5,h1,h2,cc,λH1 T1 fl fs z j s1 cm Y ah N=>(T1,rfl,_,qH.of cm,rfl,_,_,rfl,_,_,rfl,rfl,?_));let(dp,O):=Xk h1 h2 N
  simp_all! []
  intro q dq hq ar ct;have sM:bK H1 (upd (upd H1 dq (.own q)) q (.ins a.cF dq [])):=bp (bp (same_refl H1) ar) hq;show(q,dq,rfl,aV,λH2 nn d h av s2 aA aE bk=>(rfl,?_));have n1:=same_none sM aA;have n2:=same_none sM aE;have n3:=same_none sM bk;have M:bK H1 H2:=dX (A:=[q]) sM (by simpa using hq) s2;clear s2 aA aE bk sM ct ar
  simp_all! []
  show((_,dg.of (M _ _ Y)),?_);intro D hD;let(_,(dr,bl,_),bt,bx,_):=id av;have dn:nn≠D:=bb bl hD;have dd:d≠D:=bb bt hD;have dh:h≠D:=bb bx hD
  have J:∀b y,H1 b=some y->b∉[nn,d,h]:=λb y e hm=>by
   simp only[bo,dD,or_false] at hm;rcases hm with rfl|rfl|rfl
   ·rw[n1] at e;cases e
   ·rw[n2] at e;cases e
   ·rw[n3] at e;cases e
  have b0:D∉[nn,d,h]:=by
   simp only[bo,dD,or_false,not_or];show(dn.symm,dd.symm,dh.symm)
  have cy:er [nn,d,h] H2 fl=some (.lst (fs.map V.ref)):=dE.mpr (J _ _ Y,M _ _ Y)
  have DA:er [nn,d,h] H2 D=none:=by
   unfold er
   split
   ·rfl
   ·show hD
  show Fi (xs:=fs.map V.ref) (ago a.cF H2 q nn d h D j) ([],[],bp cq DA,(av.mono (bp (same_refl H2) hD)),aV,adu) (λi H' _ (_,_,s',_)=>dg.of (s' _ _ cy)) ?_ ?_
  ·rintro i x H' hx ⟨ns,roots,s',cA,cL,B⟩;let(f,hf,rfl):=iT hx;let(ts,Z,g):=eJ ah hf;have hi:=(aX.mp Z).1;let(hv,hlen):=O ts (bJ Z);replace g:H1 f=some (.lst (ts.map λc=>V.str (gG c))):=g;have c0:=s' _ _ (dE.mpr (J _ _ g,M _ _ g))
   have c5:((j.take i).map iw).sum<=2*1024:=by
    have:∀(l:List (List Nat)),(∀t∈l,↑t<=1024)->(l.map iw).sum<=↑l*1024:=by
     intro l
     induction l with
     |nil=>intro _;simp
     |cons t l ih=>
      intro h;have a1:=ih λt ht=>h t (aZ _ ht);have a2:=h t bg;rw[cg,fe,a_,yq];lia
    have:=this (j.take i) λt ht=>(O t (Fd ht)).2;rw[cK] at this;have h3:min i ↑j*1024<=2*1024:=mq _ ();lia
   have dt:=B.len;simp![];show(q,f,nn,d,h,ns,ts,rfl,cA,B.ok,c0,(λe=>J _ _ g (by rw[e];simp)),(λe=>J _ _ g (by rw[e];simp)),hv,(),(),λdv ab b1 af b2=>?_);have U:=cb b2 b0 cL;show(_,U,?_,(yR ns ts).ns,roots++[ab],?_,b1.Zg U dn dh,by rw[aV,BA],?_)
   ·have:=bT B.rts;rw[aQ,this,cK];show df ()
   ·show bp (dX (A:=[nn,d,h]) s' (λb hb=>?_) b2) DA;unfold er;rw[h9 hb]
   ·rw[take_snoc Z];show B.step hv af
  rintro H3 ⟨ns,roots,s3,c1,c2,B⟩;rw[aQ,bT ah,dC] at B;subst hu';simp![];show(by decide,λT2 c3=>?_);have sT:bK H3 (upd H3 T2 (.tup [.int z,.ref q,.ref D])):=bp (same_refl H3) c3;have c4:bK H1 H3:=λb y e=>s3 _ _ (dE.mpr (J _ _ e,M _ _ e));show qq _ T2 q nn d h D roots z j ns (bK.trans s1 (bK.trans c4 sT)) aV (sT _ _ c2) (c1.mono sT) (same_none s1 n1) (same_none s1 n2) (same_none s1 n3) N B
def wY.mono{n st:Nat}(s:bK H H')(h:wY C H p dx m r n st ms as):wY C H' p dx m r n st ms as:=(s _ _ h.obj,s _ _ h.marks,s _ _ h.arcs,h.mr,h.ml,h.al)
def Kv(B:EC [ts] ns roots):∃r,roots=[r]/\r < ↑ns/\∀w,gT w (cv ns r) 0↔gT w (LB ts) 0:=by
 cases B.rts with
 |cons h t=>
  cases t
  show(_,rfl,h.1,λw=>by rw[h.2];show fR w _ 0)
def WK(B:EC [ts,us] ns roots):∃r g,roots=[r,g]/\r < ↑ns/\g < ↑ns/\(∀w,gT w (cv ns r) 0↔gT w (LB ts) 0)/\∀w,gT w (cv ns g) 0↔gT w (LB us) 0:=by
 cases B.rts with
 |cons h t=>
  cases t with
  |cons h' t=>
   cases t
   show(_,_,rfl,h.1,h'.1,(λw=>by rw[h.2];show fR w _ 0),λw=>by rw[h'.2];show fR w _ 0)
abbrev aiN(a:Ad):Sp:=λvs H Q _=>X11 λ(ps g j z r:aW) (n st:Nat) (ms as:List Nat) (S:i9) (b:List Nat)=>vs=[.ref ps,.ref r]/\wY a.bY H ps g j z n st ms as/\yi S n st ms as/\H r=some (.lst (nats b))/\↑b<=1100/\(∀x∈b,x < 256)/\
 ∀H',bK H H'->Q (.int (fh S (.check (uo b))).2) H'
def XH(T:Tx2 P w K mg a):gu P w K mg base pS 9 a.QK a.Mr PN (aiN a):=by
 show T.Ve.ok SJ (λvs H Q E h=>?_) (λaA A outer s H vs Q E hr h=>?_)
 ·nofun
 ·let(ps,N,mm,rr,r,n,st,ms,as,S,b,rfl,O,hR,U,Y,hb,qq):=h;have aE:=SJ.nd
  show(_,(aU (jN (fJ (wu T.toTx) (hr.mono (by decide)) rfl T.xX T.u7.kp T.ye .nil cN (aR (gS (aR (pv 1) br)) br)) (jw (n:=3) rfl (ck (b6 2) (ck (b6 3) (ck (b6 4) g8)))))
   (aU (eG (cx BH (pv 2) (fb (by rfl) T.uY) (dk _)) (bh (cE (pv 2))) dG)
   (bh (cE (fJ (EE T) (hr.mono (by decide)) rfl T.FT T.xH.kp T.Gf .nil cN (aR (pv 0) (aR (pv 3) (aR (dQ cC (pv 4) bU (λ_ _=>rfl)) br)))))))),?_)
  dsimp! [];show(by decide,λtl Z=>?_);have s1:bK H (upd H tl (.lst [.ref r])):=bp (same_refl H) Z;show(tl,[r],[b],rfl,aV,.cons (dg.of (s1 _ _ U)) .nil,⋯,⋯,λc hc=>by rw[bz] at hc;subst hc;show(Y,hb),λH2 T1 q nn d h rl roots z bk ns s2 ah ar hF hn hd hh D B=>(T1,rfl,_,qH.of ah,rfl,_,_,rfl,_,_,rfl,_,_,rfl,rfl,?_));have j:=bK.trans s1 s2;let(k1,k2):=L_ D
  simp_all! []
  by_cases M:z=0
  ·rw[h8 (λh=>h M)];let(ts,rfl,g,bl,J):=k2 M;let(r0,rfl,av,hf):=Kv B;subst hu';simp![];show(_,dg.of ar,_,rfl,ps,N,mm,rr,q,nn,d,h,n,st,ms,as,ns,r0,S,LB ts,rfl,O.mono j,hR,hF,B.ok,?_,?_,av,hf,λH3 s3=>?_)
   ·have:=B.len;have:=g.len;simp only[cg,gE,fe,i_] at*;lia
   ·have:=B.nT;simp only[cg,gE,fe,i_] at*;lia
   ·have:=qq H3 (bK.trans j s3);have e:(fh S (.check (uo b))).2=if ze S (LB ts)=true then 1 else 0:=J λf=>if ze S f=true then 1 else 0;rw[e] at this;show this
  ·rw[h9 M];have:=qq H2 j;have e:(fh S (.check (uo b))).2=z:=(k1 M).2 λf=>if ze S f=true then 1 else 0;rw[e] at this;show this
def OB{w:List Nat}(hu:u < ↑w)(g:∀w,gT w (cv ns ab) 0↔gT w f 0):((((vz ns w u ab).testBit 0).toNat:Nat):Int)=if ql w u f=true then 1 else 0:=by
 have e:(vz ns w u ab).testBit 0=ql w u f:=by
  unfold vz;rw[dW _ _ _ ()];show Ds.mpr ?_;rw[gi,g,WU hu]
 rw[e]
 cases ql w u f <;> rfl
def wA:(f6 1 (m:Int) 4096=false\/f6 0 u ((m:Int) - 1)=false)↔¬(0<=u/\u < (m:Int)/\(m:Int)<=4096):=by
 unfold f6;rw[cU,cU,decide_eq_false_iff_not,decide_eq_false_iff_not,decide_eq_false_iff_not,decide_eq_false_iff_not];lia
abbrev aiy(a:Ad):Sp:=λvs H Q _=>X6 λ(m r:aW) (u:Int) (w b:List Nat) (S:i9)=>vs=[.int u,.ref m,.ref r]/\H m=some (.lst (nats w))/\↑w<=5000/\H r=some (.lst (nats b))/\↑b<=1100/\(∀x∈b,x < 256)/\
 ∀H',bK H H'->Q (.int (fh S (.word u (uo b) w)).2) H'
def aaY(T:Tx P w K mg a):gu P w K mg base pS 9 a.TX a.Q3 TF (aiy a):=by
 show T.ZU.ok Vx (λvs H Q E h=>?_) (λaE A outer s H vs Q E U h=>?_)
 ·nofun
 ·let(m,r,u,w,b,S,rfl,hm,bk,Y,Z,hb,M):=h;have bl:=Vx.nd
  show(_,(aU (jN (fJ (wu T) (U.mono (by decide)) rfl T.xX T.u7.kp T.ye .nil cN (aR (gS (aR (pv 2) br)) br)) (jw (n:=3) rfl (ck (b6 3) (ck (b6 4) (ck (b6 5) g8)))))
   (aU (eG (cx BH (pv 3) (fb (by rfl) T.uY) (dk _)) (bh (cE (pv 3))) dG)
   (aU (eG (xi (qa (fJ (Dk T) (U.mono (by decide)) rfl T.E5 T.yV.kp T.EM .nil cN (aR (ig ee (by rfl) T.r_ dO (aR (pv 1) br)) (aR (pv 0) br))))) (bh (cE (fb (by rfl) T.GB))) dG)
   (bh (cE (fJ (EB T) (U.mono (by decide)) rfl T.Gs T.Ax.kp T.GA .nil cN (aR (pv 4) (aR (dQ cC (pv 5) bU (λ_ _=>rfl)) (aR (pv 1) (aR (pv 0) br)))))))))),?_)
  dsimp! [];show(by decide,λtl ah=>?_);have s1:bK H (upd H tl (.lst [.ref r])):=bp (same_refl H) ah;show(tl,[r],[b],rfl,aV,.cons (dg.of (s1 _ _ Y)) .nil,⋯,⋯,λc hc=>by rw[bz] at hc;subst hc;show(Z,hb),λH2 T1 q nn d h rl roots z bt ns s2 ar av hF hn hd hh D B=>(T1,rfl,_,qH.of ar,rfl,_,_,rfl,_,_,rfl,_,_,rfl,rfl,?_));have j:=bK.trans s1 s2;let(k1,k2):=L_ D
  simp_all! []
  by_cases N:z=0
  ·rw[h8 (λh=>h N)];let(ts,rfl,g,bx,J):=k2 N;let(r0,rfl,aA,hf):=Kv B;have e:(fh S (.word u (uo b) w)).2=if f6 1 ↑w 4096=false\/f6 0 u ((↑w:Int) - 1)=false then -2 else if ql w u.toNat (LB ts)=true then 1 else 0:=J λf=>if f6 1 ↑w 4096=false\/f6 0 u ((↑w:Int) - 1)=false then -2 else if ql w u.toNat f=true then 1 else 0;rw[e] at M
   simp_all! []
   show(_,.inl (dg.of (j _ _ hm)),?_);rw[aQ];show(_,u,rfl,?_);simp only[LL]
   by_cases O:0<=u/\u < (↑w:Int)/\(↑w:Int)<=4096
   ·rw[h8 (by rw[decide_eq_true O];decide)];obtain⟨k,rfl⟩:∃k:Nat,u=(k:Int):=(u.toNat,());subst hu';simp![];show(_,dg.of av,_,rfl,q,m,nn,d,h,ns,r0,k,w,rfl,hF,B.ok,?_,aA,dg.of (j _ _ hm),(),(),λH3 s3=>?_)
    ·have:=B.len;have:=g.len;simp only[cg,gE,fe,i_] at*;lia
    ·have:=M H3 (bK.trans j s3);rw[h8 (λh=>wA.mp h O),bP] at this;rw[OB () hf];show this
   ·rw[h9 (decide_eq_false O)];have:=M H2 j;rw[h9 (wA.mpr O)] at this;show this
  ·rw[h9 N];have:=M H2 j;have e:(fh S (.word u (uo b) w)).2=z:=(k1 N).2 λf=>if f6 1 ↑w 4096=false\/f6 0 u ((↑w:Int) - 1)=false then -2 else if ql w u.toNat f=true then 1 else 0;rw[e] at this;show this
abbrev ais(a:Ad):Sp:=λvs H Q _=>X5 λ(r g:aW) (b c:List Nat) (S:i9)=>vs=[.ref r,.ref g]/\H r=some (.lst (nats b))/\↑b<=1100/\(∀x∈b,x < 256)/\H g=some (.lst (nats c))/\↑c<=1100/\(∀x∈c,x < 256)/\
 ∀H',bK H H'->Q (.int (fh S (.same (uo b) (uo c))).2) H'
def ab7(T:Tx2 P w K mg a):gu P w K mg base pS 9 a.UH a.Qp UE (ais a):=by
 show T.YK.ok Vw (λvs H Q E h=>?_) (λbt A outer s H vs Q E hr h=>?_)
 ·nofun
 ·let(r,r',b,c,S,rfl,Z,ah,hb,ar,av,hc,qq):=h;have bx:=Vw.nd
  show(_,(aU (jN (fJ (wu T.toTx) (hr.mono (by decide)) rfl T.xX T.u7.kp T.ye .nil cN (aR (gS (aR (pv 0) (aR (pv 1) br))) br)) (jw (n:=3) rfl (ck (b6 2) (ck (b6 3) (ck (b6 4) g8)))))
   (aU (eG (cx BH (pv 2) (fb (by rfl) T.uY) (dk _)) (bh (cE (pv 2))) dG)
   (bh (cE (fJ (Oi T) (hr.mono (by decide)) rfl T.Qw T.IK.kp T.Qj .nil cN (aR (pv 3) (aR (dQ cC (pv 4) bU (λ_ _=>rfl)) (aR (dQ cC (pv 4) bU (λ_ _=>rfl)) br)))))))),?_)
  dsimp! [];show(by decide,λtl aA=>?_);have j:bK H (upd H tl (.lst [.ref r,.ref r'])):=bp (same_refl H) aA;show(tl,[r,r'],[b,c],rfl,aV,.cons (dg.of (j _ _ Z)) (.cons (dg.of (j _ _ ar)) .nil),⋯,⋯,λe U=>?_,λH2 T1 q nn d h rl roots z b0 ns s2 aE D hF hn hd hh J B=>(T1,rfl,_,qH.of aE,rfl,_,_,rfl,_,_,rfl,_,_,rfl,rfl,?_))
  ·rcases bo.mp U with rfl|U
   ·show(ah,hb)
   ·rw[bz] at U;subst U;show(av,hc)
  have M:=bK.trans j s2;let(k1,k2):=Vs J
  simp_all! []
  by_cases Y:z=0
  ·rw[h8 (λh=>h Y)];let(ts,us,rfl,g,g',b1,N):=k2 Y;let(r0,r1,rfl,bk,O,hf,bl):=WK B;have e:(fh S (.same (uo b) (uo c))).2=if sG (LB ts) (LB us)=true then 1 else 0:=N λf f'=>if sG f f'=true then 1 else 0;rw[e] at qq;subst hu';simp![];show(_,dg.of D,_,rfl,_,dg.of D,_,rfl,q,nn,d,h,ns,r0,r1,LB ts,LB us,rfl,hF,B.ok,?_,?_,bk,O,hf,bl,λH3 s3=>?_)
   ·have:=B.len;have:=g.len;have:=g'.len;simp only[cg,gE,fe,i_] at*;lia
   ·have:=B.nT;simp only[cg,gE,fe,i_] at*;lia
   ·show qq H3 (dX (A:=[nn,d,h]) M (λx hx=>by
     simp only[bo,dD,or_false] at hx;rcases hx with rfl|rfl|rfl
     ·show same_none j hn
     ·show same_none j hd
     ·show same_none j hh) s3)
  ·rw[h9 Y];have:=qq H2 M;have e:(fh S (.same (uo b) (uo c))).2=z:=(k1 Y).2 λf f'=>if sG f f'=true then 1 else 0;rw[e] at this;show this
def ZX{K:bj}{a b:aW}{tb:TS}(Pv:Nat->L2.St->Hp->Prop)(B:Pv 0 σ H)(J:↑xs=↑ys)(M:∀i σ H,i<=↑xs->Pv i σ H->dg K H a xs/\dg K H b ys)
  (N:∀(i:Nat) x y σ H T,xs[i]? =some x->ys[i]? =some y->Pv i σ H->H T=none->g (.ref T) σ (upd H T (.tup [x,y])) λO H2=>tb {D with nx:=Pv (i+1),ct:=Pv (i+1),bk:=D.nx} O H2)(hd:∀σ H,Pv ↑xs σ H->D.nx σ H):aas (Itz K a b) g tb D σ H:=by
 show(λi m σ H=>m=↑xs - i/\i<=↑xs/\Pv i σ H,(↑xs,⋯,d6 _,B),?_);rintro i m σ H ⟨rfl,hi,p⟩;let(q,z):=M i σ H hi p
 by_cases j:i < ↑xs
 ·show .inr ((xs,ys,xs[i],ys[i]'(),q,z,by simp[j],⋯),Pv (i+1),λY H' Q=>(↑xs - (i+1),(),rfl,j,Q),λv H' y=>?_);let(T,x,y,rfl,hT,rfl,hx,U):=y;show N i x y σ H T (hx xs q) (U ys z) p hT
 ·have e:i=↑xs:=by lia
  subst e;show .inl ((xs,ys,q,z,.inl (aT _)),hd σ H p)
def aak(h:1<=↑l):LA (nats l) (some 1) none=nats (l.drop 1):=by
 unfold LA
 have g:HT.PU ↑(nats l) 0 (some 1)=1:=by
  have:=HT.abb ↑(nats l) 0 1;rw[aQ] at this ⊢;rw[show((1:Nat):Int)=1 from rfl] at this;rw[this];lia
 rw[g,HT.Yp,vy (by rw[gN];lia)];unfold nats;rw[Ot]
abbrev afD(H:Hp)(ps g l2:aW)(u n:Nat)(l as:List Nat)(i:Nat)(σ:L2.St)(H':Hp):Prop:=∃(z B:Option V),σ=[some (.ref ps),some (.ref g),some (.int (u:Nat)),z,B]/\bK H H'/\(∀j,j<=i->j < ↑l->l.getD j 0 < n)/\∀j,j < i->(as.getD (l.getD j 0) 0).testBit (l.getD (nJ ↑l u j) 0)=true
abbrev ail(a:Ad):Sp:=λvs H Q _=>X12 λ(ps g z B j:aW) (n st:Nat) (ms as:List Nat) (S:i9) (l:List Nat) (u:Nat)=>vs=[.ref ps,.ref j,.int (u:Nat)]/\wY a.bY H ps g z B n st ms as/\yi S n st ms as/\H j=some (.lst (nats l))/\u < ↑l/\↑l<=4096/\
 ∀H',bK H H'->Q (.bl (Ah S l u)) H'
def UQ(T:Tx P w K mg a):gu P w K mg base pS 1 a.Ko a.Hz Kr (ail a):=by
 show T.Pn.ok Nz (λvs H Q E h=>?_) (λbx A outer s H vs Q E hr h=>?_)
 ·nofun
 ·let(ps,b0,mm,rr,sl,n,st,ms,as,S,l,u,rfl,av,N,g,hu,hl,qq):=h;have b1:=Nz.nd
  show(_,(aU (eG (cx iU (cY nQ (cY AG (bN (pv 0) rfl) (dQ cC (pv 1) bU (λ_ _=>rfl))) bU) bU (dk _)) (bh (cE ur)) dG)
   (aU (jO b8 rfl (aeN (by rfl) T.acN (aR (pv 1) (aR (cY YV (M0 PV (pv 1) (IS bU) aa2) (gS (aR (dQ cC (pv 1) (pv 2) (λ_ _=>rfl)) br))) br))) (jw (n:=2) rfl (ck (b6 3) (ck (b6 4) g8))) (bh (eG (cx iU (cY nQ (cY AG (dQ cC (bN (pv 0) rfl) (pv 3) (λ_ _=>rfl)) (pv 4)) bU) bU (dk _)) (bh (cE ur)) dG)))
   (bh (cE ur)))),?_)
  let(B,b2,aA,b3,b4,aD):=id av;have far:∀H',H' ps=H ps->∀Q:VK,nh K ("arcs" :bV) (.ref ps) H' Q=Q (.ref rr) H':=λH' e Q=>bS (by rw[e];show B) T.cG T.jc Jv Q;have fst:∀H',H' ps=H ps->∀Q:VK,nh K ("starts" :bV) (.ref ps) H' Q=Q (.int (st:Nat)) H':=λH' e Q=>bS (by rw[e];show B) T.cG T.iB G4 Q;dsimp! [↓fst H rfl];show(_,dg.of g,_,hZ (i:=0) (),?_);simp![];rw[nI];show((),?_)
  cases h0:st.testBit (l.getD 0 0) with
  |false=>
   rw[h9 (show(((false:Bool).toNat:Nat):Int)=0 from rfl)];have:=qq H (same_refl H);rw[Od N () h0] at this;show this
  |true=>
   rw[h8 (by decide)]
   simp_all! []
   show(_,dg.of g,λl1 O=>?_);rw[aak ()];have sa:bK H (upd H l1 (.lst (nats (l.drop 1)))):=bp (same_refl H) O;show(_,dg.of (sa _ _ g),_,hZ hu,by decide,λl2 U=>?_);have sb:bK (upd H l1 (.lst (nats (l.drop 1)))) (upd (upd H l1 (.lst (nats (l.drop 1)))) l2 (.lst [.int (l.getD u 0:Nat)])):=bp (same_refl _) U;show(_,sb _ _ aV,_,aV,?_,λl3 Y=>?_)
   ·rw[aQ,gN];simp only[a_,cW];show iI (df ())
   have e3:nats (l.drop 1)++[V.int (l.getD u 0:Nat)]=nats (l.drop 1++[l.getD u 0]):=BA _ _;rw[e3];have sc:=bp (o:= .lst (nats (l.drop 1++[l.getD u 0]))) (same_refl (upd (upd H l1 (.lst (nats (l.drop 1)))) l2 (.lst [.int (l.getD u 0:Nat)]))) Y;have k3:upd (upd (upd H l1 (.lst (nats (l.drop 1)))) l2 (.lst [.int (l.getD u 0:Nat)])) l3 (.lst (nats (l.drop 1++[l.getD u 0]))) l3=some (.lst (nats (l.drop 1++[l.getD u 0]))):=aV;have Z:=bK.trans sa (bK.trans sb sc);generalize upd (upd (upd H l1 (.lst (nats (l.drop 1)))) l2 (.lst [.int (l.getD u 0:Nat)])) l3 (.lst (nats (l.drop 1++[l.getD u 0])))=H1 at k3 Z ⊢;clear sa sb sc O U Y;have aE:↑(l.drop 1++[l.getD u 0])=↑l:=by rw[aY,gN,cw];lia
   show((_,dg.of (Z _ _ g)),(_,dg.of k3),?_)
   have ah:∀j,j<=0->j < ↑l->l.getD j 0 < n:=λj hj _=>by
    have:j=0:=by lia
    subst this;show YO N h0
   show ZX (xs:=nats l) (ys:=nats (l.drop 1++[l.getD u 0])) (afD H1 ps sl l3 u n l as) (none,none,rfl,same_refl H1,ah,λj hj=>absurd hj ()) (by rw[aQ,aQ,aE]) (λi σ H' _ (_,_,_,s',_)=>(dg.of (s' _ _ (Z _ _ g)),dg.of (s' _ _ k3))) ?_ ?_
   ·rintro i x y σ H' T1 hx hy ⟨v3,v4,rfl,s',z,hb⟩ bk;let(c,hc,rfl):=iT hx;let(e,he,rfl):=iT hy;have hi:=(aX.mp hc).1;rw[TQ hu hi] at he;have he:=(bQ he).symm;subst he;have J:l.getD i 0=c:=eh hc;have bl:c < n:=by rw[←J];show z i (aT _) hi
    have sT:bK H' (upd H' T1 (.tup [.int (c:Nat),.int (l.getD (nJ ↑l u i) 0:Nat)])):=bp (same_refl H') bk;have kT:upd H' T1 (.tup [.int (c:Nat),.int (l.getD (nJ ↑l u i) 0:Nat)]) T1=some (.tup [.int (c:Nat),.int (l.getD (nJ ↑l u i) 0:Nat)]):=aV;generalize upd H' T1 (.tup [.int (c:Nat),.int (l.getD (nJ ↑l u i) 0:Nat)])=H2 at sT kT ⊢;have M:=bK.trans Z (bK.trans s' sT);simp![];show(_,qH.of kT,rfl,?_);simp![↓far H2 (by rw[M _ _ B,B])];show(_,dg.of (M _ _ aA),_,hZ (),?_);simp![];rw[nI];show((),?_);have bt:nJ ↑l u i < ↑l:=OW N hu
    cases D:(as.getD c 0).testBit (l.getD (nJ ↑l u i) 0) with
    |false=>
     rw[h9 (show(((false:Bool).toNat:Nat):Int)=0 from rfl)];have:=qq H2 M;rw[SK N hi bt (by rw[J];show D)] at this;show this
    |true=>
     rw[h8 (by decide)];show(_,_,rfl,bK.trans s' sT,λj hj ar=>?_,λj hj=>?_)
     ·by_cases q:j<=i
      ·show z j q ar
      ·have:j=i+1:=by lia
       subst this;have eb:nJ ↑l u i=i+1:=by unfold nJ;rw[h9 ar]
       rw[eb] at D;show MG N bl D
     ·by_cases q:j < i
      ·show hb j q
      ·have:j=i:=by lia
       subst this;rw[J];show D
   ·rintro σ H' ⟨v3,v4,rfl,s',z,hb⟩;rw[aQ] at z hb;subst hu';simp![];have:=qq H' (bK.trans Z s');rw[Yc N hu h0 (λi hi=>z i () hi) hb] at this;show this
abbrev agO(H:Hp)(D:aW)(ms l:List Nat)(i:Nat)(H':Hp):Prop:=bK H H'/\H' D=some (.lst (nats ((l.take i).map λs=>ms.getD s 0)))
abbrev aii(a:Ad):Sp:=λvs H Q _=>X14 λ(ps g z B j r:aW) (n st:Nat) (ms as:List Nat) (S:i9) (l:List Nat) (u:Int) (b:List Nat)=>vs=[.ref ps,.int u,.ref j,.ref r]/\wY a.bY H ps g z B n st ms as/\yi S n st ms as/\H j=some (.lst (nats l))/\↑l<=5000/\H r=some (.lst (nats b))/\↑b<=1100/\(∀x∈b,x < 256)/\
 ∀H',bK H H'->Q (.int (fh S (.path u (uo b) l)).2) H'
def aal(T:Tx P w K mg a):gu P w K mg base pS 9 a.UK a.QY UM (aii a):=by
 show T.Ym.ok QB (λvs H Q E h=>?_) (λcm A outer s H vs Q E hr h=>?_)
 ·nofun
 ·let(ps,bl,mm,rr,sl,r,n,st,ms,as,S,l,u,b,rfl,ah,hR,M,ct,bt,bx,hb,N):=h;have cy:=QB.nd
  show(_,(aU (jN (fJ (wu T) (hr.mono (by decide)) rfl T.xX T.u7.kp T.ye .nil cN (aR (gS (aR (pv 3) br)) br)) (jw (n:=3) rfl (ck (b6 4) (ck (b6 5) (ck (b6 6) g8)))))
   (aU (eG (cx BH (pv 4) (fb (by rfl) T.uY) (dk _)) (bh (cE (pv 4))) dG)
   (aU (eG (xi (qa (fJ (Dk T) (hr.mono (by decide)) rfl T.E5 T.yV.kp T.EM .nil cN (aR (ig ee (by rfl) T.r_ dO (aR (pv 2) br)) (aR (pv 1) br))))) (bh (cE (fb (by rfl) T.GB))) dG)
   (aU (eG (xi (qa (fJ (UQ T) (hr.mono (by decide)) rfl T.Xd T.Pn.kp T.W9 .nil cN (aR (pv 0) (aR (pv 2) (aR (pv 1) br)))))) (bh (cE (fb (by rfl) T.Wn))) dG)
   (aU (Ih (i:=7) (own:=[("state",8,)]) rfl QB.nd rfl rfl (Mc rfl rfl rfl (by decide+kernel)) (jE (pv 2)) (sg (by rfl)) (λ_ _ _ _ _=>(b6 8)) (λ_ _ _ _ _=>Ft) (λ_ _ _ _ _=>(dQ (Y8 (K:=K) rfl) (V5 (K:=K) rfl (pv 0) rfl) (pv 8) (λ_ _=>rfl))))
   (bh (cE (fJ (EB T) (hr.mono (by decide)) rfl T.Gs T.Ax.kp T.GA .nil cN (aR (pv 5) (aR (dQ cC (pv 6) bU (λ_ _=>rfl)) (aR (pv 7) (aR (pv 1) br)))))))))))),?_)
  let(O,b0,cA,cL,c0,aD):=id ah;have b1:∀H',H' ps=H ps->∀Q:VK,nh K ("marks" :bV) (.ref ps) H' Q=Q (.ref mm) H':=λH' e Q=>bS (by rw[e];show O) T.cG T.jJ J2 Q;dsimp! [];show(by decide,λtl b2=>?_);have s1:bK H (upd H tl (.lst [.ref r])):=bp (same_refl H) b2;show(tl,[r],[b],rfl,aV,.cons (dg.of (s1 _ _ bt)) .nil,⋯,⋯,λc Z=>by rw[bz] at Z;subst Z;show(bx,hb),λH2 T1 q nn d h rl roots z c1 ns s2 b3 b4 hF hn hd hh ar B=>(T1,rfl,_,qH.of b3,rfl,_,_,rfl,_,_,rfl,_,_,rfl,rfl,?_));have j:=bK.trans s1 s2;let(k1,k2):=L_ ar
  simp_all! []
  by_cases hz:z=0
  ·rw[h8 (λh=>h hz)];let(ts,rfl,g,c2,av):=k2 hz;let(r0,rfl,b5,hf):=Kv B;have e:(fh S (.path u (uo b) l)).2=if f6 1 ↑l 4096=false\/f6 0 u ((↑l:Int) - 1)=false then -2 else if Ah S l u.toNat=false then -4 else if ql (l.map S.props) u.toNat (LB ts)=true then 1 else 0:=av λf=>if f6 1 ↑l 4096=false\/f6 0 u ((↑l:Int) - 1)=false then -2 else if Ah S l u.toNat=false then -4 else if ql (l.map S.props) u.toNat f=true then 1 else 0;rw[e] at N
   simp_all! []
   show(_,.inl (dg.of (j _ _ M)),?_);rw[aQ];show(_,u,rfl,?_);simp only[LL]
   by_cases hg:0<=u/\u < (↑l:Int)/\(↑l:Int)<=4096
   ·rw[h8 (by rw[decide_eq_true hg];decide)];obtain⟨k,rfl⟩:∃k:Nat,u=(k:Int):=(u.toNat,());rw[h8 (λh=>wA.mp h hg),bP] at N
    simp_all! []
    show(ps,bl,mm,rr,sl,n,st,ms,as,S,l,k,rfl,ah.mono j,hR,j _ _ M,(),(),λH3 s3=>?_);simp only[LL];have J:=bK.trans j s3
    cases U:Ah S l k with
    |false=>
     rw[h9 rfl];have:=N H3 J;rw[h9 U] at this;show this
    |true=>
     rw[h8 (by decide)];rw[h8 (by rw[U];decide)] at N;have aA:=P_ hR U;rw[WI hR aA] at N
     simp_all! []
     show((_,dg.of (J _ _ M)),?_);intro D hD;show Fi (xs:=nats l) (agO H3 D ms l) (bp (same_refl H3) hD,aV) (λi H' _ h=>dg.of (h.1 _ _ (J _ _ M))) ?_ ?_
     ·rintro i x H' hx ⟨s',cc⟩;let(c,Z,rfl):=iT hx;have hi:=(aX.mp Z).1;have c3:=aA c (bJ Z);have aE:=bK.trans J s';simp![↓b1 H' (by rw[aE _ _ O,O])];show(_,dg.of (aE _ _ b0),_,hZ (),_,cc,?_,bp s' hD,?_)
      ·rw[aQ,aQ,cK];show df ()
      ·rw[aV,BA,take_snoc Z,bD];rfl
     rintro H4 ⟨s4,bk⟩;rw[aQ,dC] at bk;subst hu';simp![];have Y:↑(l.map λs=>ms.getD s 0)=↑l:=by rw[aQ]
     show(_,dg.of (s4 _ _ (s3 _ _ b4)),_,rfl,q,D,nn,d,h,ns,r0,k,_,rfl,(hF.mono s3).mono s4,B.ok,?_,b5,dg.of bk,by rw[Y];lia,by rw[Y];lia,λH5 s5=>?_)
     ·have:=B.len;have:=g.len;simp only[cg,gE,fe,i_] at*;lia
     ·have:=N H5 (bK.trans J (bK.trans s4 s5));rw[OB (by rw[Y];lia) hf];show this
   ·rw[h9 (decide_eq_false hg)];have:=N H2 j;rw[h9 (wA.mpr hg)] at this;show this
  ·rw[h9 hz];have:=N H2 j;have e:(fh S (.path u (uo b) l)).2=z:=(k1 hz).2 λf=>if f6 1 ↑l 4096=false\/f6 0 u ((↑l:Int) - 1)=false then -2 else if Ah S l u.toNat=false then -4 else if ql (l.map S.props) u.toNat f=true then 1 else 0;rw[e] at this;show this
structure EV(H:Hp)(t:aW)(c:List (List Int)):Prop where
 ex:∃(p:Int) (xs:List Int) (rows:List (List Int)) (u v:aW) (g:List aW),c=(p ::xs) ::rows/\H t=some (.tup [.int p,.ref u,.ref v])/\Bw H u xs/\H v=some (.lst (g.map V.ref))/\Paired (Bw H) g rows
def EV.mono(s:bK H H')(h:EV H t c):EV H' t c:=by
 let(p,xs,rows,u,v,g,e,h1,h2,j,z):=h.ex;show(p,xs,rows,u,v,g,e,s _ _ h1,h2.mono s,s _ _ j,L2.Paired.jh z λa b q=>Bw.mono s q)
def XA{ns:List Int}(h:i<=j)(B:j<=↑ns):LA (ns.map V.int) (some (i:Int)) (some (j:Int))=((ns.drop i).take (j - i)).map V.int:=by
 unfold LA HT.PU;simp only[aQ,List.map_take,Ot];have g:¬(i:Int) < 0:=by lia
 have z:¬(j:Int) < 0:=by lia
 simp only[g,z,if_false];congr 1
 ·lia
 ·congr 1;lia
def L8:∀a b:List (List (List Int)),cM (a++b)=cM a++cM b
 |[],b=>rfl
 |c ::a,b=>by
  change Ta c++cM (a++b)=(Ta c++cM a)++cM b;rw[L8 a b,bO]
def EO:∀a b:List (List Int),cO (a++b)=cO a++cO b
 |[],b=>rfl
 |c ::a,b=>by
  change Ba c++cO (a++b)=(Ba c++cO a)++cO b;rw[EO a b,bO]
def W3(h:yn p=some (n,k,)):∃j:Nat,p=(j:Int)/\([1,2,3,2,0,1,1,0]:List Int)[j]? =some (n:Int)/\([0,0,0,0,1,2,2,2]:List Int)[j]? =some (k:Int)/\k<=2:=by
 unfold yn at h
 repeat' split at h
 all_goals first|(cases h;done)|skip
 all_goals (rename_i e;have g:=bQ h;cases g;subst e)
 ·show(0,rfl,rfl,rfl,by decide)
 ·show(1,rfl,rfl,rfl,by decide)
 ·show(2,rfl,rfl,rfl,by decide)
 ·show(3,rfl,rfl,rfl,by decide)
 ·show(4,rfl,rfl,rfl,by decide)
 ·show(5,rfl,rfl,rfl,by decide)
 ·show(6,rfl,rfl,rfl,by decide)
 ·show(7,rfl,rfl,rfl,by decide)
def L7{ns:List Int}{j:Nat}(h:ns[j]? =some z):P8 (ns.map V.int) (j:Int)=some (.int z):=Jc (by rw[dA,h];rfl)
def V6:(A++x ::B)[A.length]? =some x:=by
 rw[cX (aT _),vo];rfl
def Vl{A X B:List Int}(hi:i=(↑A:Int))(g:j=((↑A+↑X:Nat):Int)):LA ((A++(X++B)).map V.int) (some i) (some j)=X.map V.int:=by
 rw[hi,g,XA (ic _ _) (by simp only[aY];lia)];rw[List.drop_left,uE,NP]
def VV:∀(cs:List (List (List Int))),(∀c∈cs,PyFlat.okCall yn c)->↑cs<=↑(cM cs)
 |[],_=>aT _
 |c ::cs,h=>by
  have j:=VV cs λd hd=>h d (aZ _ hd);let(p,xs,rows,g,_):=h c bg;subst g;change ↑cs+1<=↑((((p ::xs)++cO rows)++cM cs));simp only[aY,a_];lia
abbrev WRc(B:List aW)(H:Hp)(a l:aW)(ns:List Int)(cs:List (List (List Int)))(m:Nat)(σ:L2.St)(H':Hp):Prop:=X9 λ(done rest:List (List (List Int))) (ts:List aW) (g j z D J M:Option V)=>
 σ=[some (.ref a),some (.ref l),some (.int (↑(cM done):Nat)),g,j,z,D,J,M]/\cs=done++rest/\bK H H'/\H' l=some (.lst (ts.map V.ref))/\Paired (EV (er (l ::B) H')) ts done/\m=↑ns - ↑(cM done)
abbrev ahj(B:List aW)(j:Hp)(a l u v:aW)(done:List (List (List Int)))(p:Int)(xs:List Int)(rows:List (List Int))(i:Nat)(σ:L2.St)(H2:Hp):Prop:=∃(g:List aW) (z D:Option V),
 σ=[some (.ref a),some (.ref l),some (.int (↑(cM done):Nat)),some (.int p),some (.int (↑(cM done++(p ::xs)++cO (rows.take i)):Nat)),some (.ref u),some (.ref v),z,D]/\
 bK j H2/\H2 v=some (.lst (g.map V.ref))/\↑g=i/\Paired (Bw (er (l ::v ::B) H2)) g (rows.take i)
abbrev aeo(K:bj):Sp:=λvs H Q _=>X4 λ(a:aW) (ns:List Int) (cs:List (List (List Int))) (B:List aW)=>vs=[.ref a]/\(∀b∈B,∃y,H b=some y)/\dg K H a (ns.map V.int)/\↑ns<=30000/\Rh yn ↑ns ns=some cs/\
 ∀(H':Hp) (l:aW) (ts:List aW),bK H H'->H l=none->H' l=some (.lst (ts.map V.ref))->Paired (EV (er (l ::B) H')) ts cs->Q (.ref l) H'
def Oc(T:Tx P w K mg a):gu P w K mg base pS 1 a.CI a.Ay B5 (aeo K):=by
 show T.Jq.ok GD (λvs H Q E h=>?_) (λc6 A outer s H vs Q E hr h=>?_)
 ·nofun
 ·let(c,ns,cs,B,rfl,hB,hS,hlen,ct,k):=h;have dc:=GD.nd
  show(_,(aU (c9 1 (gS br))
   (aU (c9 2 bU)
   (aU (ve b8 (cx VZ (pv 2) (ig ee (by rfl) T.r_ dO (aR (pv 0) br)) (dk _)) (aU (c9 3 (dQ cC (pv 0) (pv 2) (λ_ _=>rfl)))
   (aU (c9 4 (cY Ex (cY Ex (pv 2) bU) (dQ M8 (iZ (v:= .ref a.xb) (by rfl) T.LI rfl) (pv 3) (λ_ _=>rfl))))
   (aU (c9 5 (M0 PV (pv 0) (IS (cY Ex (pv 2) bU)) (IS (pv 4))))
   (aU (c9 6 (gS br))
   (aU (jO b8 rfl (BK (by rfl) T.Cq (aR (dQ M8 (iZ (v:= .ref a.Uz) (by rfl) T.aee rfl) (pv 3) (λ_ _=>rfl)) br)) (b6 7) (aU (c9 8 (cY Ex (pv 4) bU))
   (aU (c9 4 (cY Ex (pv 8) (dQ cC (pv 0) (pv 4) (λ_ _=>rfl))))
   (bh (dP (lu bu bH bG d7 (pv 6) (aR (M0 PV (pv 0) (IS (pv 8)) (IS (pv 4))) br)))))))
   (aU (dP (lu bu bH bG d7 (pv 1) (aR (mx (aR (pv 3) (aR (pv 5) (aR (pv 6) br)))) br)))
   (bh (c9 2 (pv 4))))))))))
   (bh (cE (pv 1)))))),?_)
  let(aA,gV):=PyFlat.put_calls _ _ _ ct;dsimp! [];show(by decide,λl hl=>?_)
  simp_all! []
  simp_all! []
  have nB:∀{H':Hp} {x:aW},bK H H'->H' x=none->x∉B:=λ{H'} {x} s e hm=>by
   let(y,hy):=hB x hm;rw[s _ _ hy] at e;cases e
  show(WRc B H c l ns cs,(_,[],cs,[],none,none,none,none,none,none,rfl,rfl,bp (same_refl H) hl,aV,.nil,rfl),?_);rintro m σ H' ⟨done,rest,ts,v3,v4,v5,v6,v7,v8,rfl,g,sH,J,hP,hm⟩;have aE:=sH.seq hS;show Ii λY hY=>?_;simp![];show(_,.inl aE,?_);rw[aQ];subst hY
  by_cases bt:↑(cM done) < ↑ns
  ·show(h9 (decide_eq_true ())).mpr ?_;show(_,λ_ _ h=>h,?_)
   match rest,g with
   |[],g=>
    exfalso;rw[fL] at g;rw[aA,g] at bt;lia
   |cl ::rest,g=>
    let(p,xs,rows,ec,bx):=gV cl (by rw[g];show bW _ bg);let(j,ej,hw,cy,dd):=W3 bx
    have M:ns=cM done++(p ::(xs++(cO rows++cM rest))):=by
     rw[aA,g,L8,ec];change cM done++(((p ::xs)++cO rows)++cM rest)=_;simp only[ia,bO]
    have e3:ns=(cM done++[p])++(xs++(cO rows++cM rest)):=by rw[M];simp only[bO,ia,oK]
    have b0:(↑(cM done++[p]):Int)=(↑(cM done):Int)+1:=by rw[aY];simp
    show jM λu2 z=>?_;simp![];show(_,aE,_,L7 (by rw[M];show V6),?_);subst z;show jM λu2 z=>?_;simp![];show(_,T.Lv _,_,(by rw[ej];show L7 hw),?_);simp only[L2.OZ,L2.NB];subst z;show jM λu2 z=>?_;simp![];show(_,aE,λu hu=>?_)
    rw[show LA (ns.map V.int) (some ((↑(cM done):Int)+1)) (some ((↑(cM done):Int)+1+(↑xs:Int)))=xs.map V.int from by
     rw[e3];show Vl b0.symm (by rw[←b0];simp)]
    have U:bK H' (upd H' u (.lst (xs.map V.int))):=bp (same_refl H') hu;have ku:upd H' u (.lst (xs.map V.int)) u=some (.lst (xs.map V.int)):=aV;have cA:l≠u:=bb J hu;generalize upd H' u (.lst (xs.map V.int))=Hs at U ku ⊢;subst z;show jM λu2 z=>?_;simp![];show(by decide,λv hv=>?_);have sv:bK Hs (upd Hs v (.lst [])):=bp (same_refl Hs) hv;have kv:upd Hs v (.lst []) v=some (.lst []):=aV;have cL:l≠v:=bb (U _ _ J) hv;have dh:u≠v:=bb ku hv;generalize upd Hs v (.lst [])=Ht at sv kv ⊢;subst z;show jM λu2 z=>?_;simp![];show(_,T.acY _,_,(by rw[ej];show L7 cy),?_);simp only[NB];show((),(),?_);rw[bP]
    have e0:(↑(cM done):Int)+1+(↑xs:Int)=((↑(cM done++(p ::xs)++cO (rows.take 0)):Nat):Int):=by
     simp only[aY,a_,E_,cO,cW];lia
    rw[e0];show J4 (ahj B Hs c l u v done p xs rows) ([],v7,v8,rfl,sv,kv,rfl,.nil) ?_ ?_
    ·rintro i σ H2 hi ⟨rs,v7,v8,rfl,N,D,bk,Z⟩;have O:bK H H2:=bK.trans sH (bK.trans U N);have b1:=O.seq hS;obtain⟨x,ex⟩:∃x,rows[i]? =some x:=(_,aS hi);have b2:rows.take (i+1)=rows.take i++[x]:=by rw[NO,ex];rfl
     have c0:rows.drop i=x ::rows.drop (i+1):=by
      rw[dN hi];congr 1;show bQ ((aS hi).symm.trans ex)
     have ar:ns=(cM done++(p ::xs)++cO (rows.take i))++((↑x:Int) ::(x++(cO (rows.drop (i+1))++cM rest))):=by
      have:rows=rows.take i++rows.drop i:=(vN i rows).symm;rw[M]
      conv=>lhs;rw[this,c0,EO]
      change _=_;simp only[cO,Ba,bO,ia]
     have e4:ns=((cM done++(p ::xs)++cO (rows.take i))++[(↑x:Int)])++(x++(cO (rows.drop (i+1))++cM rest)):=by rw[ar];simp only[bO,ia,oK]
     have b3:(↑((cM done++(p ::xs)++cO (rows.take i))++[(↑x:Int)]):Int)=(↑(cM done++(p ::xs)++cO (rows.take i)):Int)+1:=by rw[aY];simp
     have b4:((↑(cM done++(p ::xs)++cO (rows.take i)):Int)+1+(↑x:Int))=(↑(cM done++(p ::xs)++cO (rows.take (i+1))):Int):=by
      rw[b2,EO];simp only[aY,cO,Ba,a_,cW];lia
     show jM λu3 bl=>?_;simp![];subst bl;show jM λu3 bl=>?_;simp![];show(_,b1,_,L7 (by rw[ar];show V6),?_);simp only[L2.OZ,L2.NB];subst bl;simp![];show(.inl (_,dg.of D),_,b1,λq hq=>?_)
     rw[show LA (ns.map V.int) (some ((↑(cM done++(p ::xs)++cO (rows.take i)):Int)+1)) (some ((↑(cM done++(p ::xs)++cO (rows.take i)):Int)+1+(↑x:Int)))=x.map V.int from by
      rw[e4];show Vl b3.symm (by rw[←b3];simp)]
     have b5:v≠q:=bb D hq;show(_,by rw[bc b5];show D,by rw[aQ,bk];show df (),?_);rw[b4];have c1:Hs q=none:=same_none N hq;show(rs++[q],_,_,rfl,bp (bp N c1) hv,?_,by rw[aY,bk];rfl,?_)
     ·rw[aV,bD];rfl
     ·rw[b2,Qu ⋯];show gQ (L2.Paired.jh Z λr y h=>Bw.mono (IY (bp (same_refl H2) hq)) h) ?_;show dE.mpr (?_,aV);have c2:l≠q:=bb (N _ _ (U _ _ J)) hq;simp only[bo,dD,or_false];rintro(e|e|e)
      ·show c2 e.symm
      ·show b5 e.symm
      ·show nB O hq e
    ·rintro σ H2 ⟨rs,v7,v8,rfl,N,D,bk,Z⟩;rw[dC] at Z ⊢;subst z;dsimp only;show jM λu2 z=>?_;simp![];have ah:H2 l=some (.lst (ts.map V.ref)):=N _ _ (U _ _ J);have O:bK H H2:=bK.trans sH (bK.trans U N)
     have ez:cM done++(p ::xs)++cO rows=cM (done++[cl]):=by
      rw[L8,ec];change _=cM done++(((p ::xs)++cO rows)++[]);rw[fL,bO]
     have c3:↑done=↑ts:=(bT hP).symm
     have cm:↑ts<=30000:=by
      have:=VV done (λd hd=>gV d (by rw[g];show cf _ hd));lia
     show(.inl (_,dg.of ah),by decide,λt ht=>(_,by rw[bc (bb ah ht)];show ah,by rw[aQ];show df (),?_));have cc:l≠t:=bb ah ht;subst z;simp![];rw[ez];have av:H' t=none:=same_none U (same_none N ht);have c4:H t=none:=same_none sH av
     have dn:↑(cM done) < ↑(cM (done++[cl])):=by
      rw[←ez];simp only[aY,a_];lia
     show(_,(),done++[cl],rest,ts++[t],_,_,_,_,_,_,rfl,by rw[g,bO];rfl,bp (bp O c4) hl,by rw[aV,bD];rfl,?_,rfl);rw[Qu ⋯];have sN:bK (er (l ::B) H') (er (l ::B) (upd H2 t (.tup [.int p,.ref u,.ref v]))):=IY (bp (bK.trans U N) av);show gQ (L2.Paired.jh hP λr y h=>EV.mono sN h) (p,xs,rows,u,v,rs,ec,dE.mpr (by simp[cc.symm,nB O ht],aV),?_,dE.mpr (by simp[cL.symm,nB (bK.trans sH U) hv],?_),?_)
     ·show dE.mpr (by simp[cA.symm,nB sH hu],?_);rw[bc (bb (N _ _ ku) ht)];show N _ _ ku
     ·rw[bc (bb D ht)];show D
     ·show L2.Paired.jh Z λr y h=>Bw.mono (bK.trans (IY (bp (same_refl H2) ht)) (MH λb hb=>by rcases bo.mp hb with q|q <;> simp[q])) h
  ·show(h8 (by rw[decide_eq_false ()];decide)).mpr ?_
   have c5:rest=[]:=by
    cases rest with
    |nil=>rfl
    |cons c rest=>
     exfalso;let(p,xs,rows,ec,bx):=gV c (by rw[g];show bW _ bg);apply bt;rw[aA,g,L8,ec];change↑(cM done) < ↑(cM done++(((p ::xs)++cO rows)++cM rest));simp only[aY,a_];lia
   subst c5;rw[fL] at g;subst g;subst hu';simp![];show k H' l ts sH hl J hP
abbrev Small(k m:Nat)(x:List Int):Prop:=↑x<=m/\∀z∈x,0<=z/\z < (k:Int)
def Y3{x:List Int}(h:∀z∈x,0<=z):x.map V.int=nats (x.map FI):=by
 unfold nats;rw[qA];show rZ λz g=>?_;change V.int z=V.int ((z.toNat:Nat):Int);rw[Int.toNat_of_nonneg (h z g)]
def Mt(x:List Int):uo (x.map FI)=jd x:=by unfold uo jd;rw[qA];rfl
def wc(h:Bw H r x)(s:Small k m x):H r=some (.lst (nats (x.map FI)))/\↑(x.map FI)<=m/\∀y∈x.map FI,y < k:=by
 show(by rw[←Y3 λz g=>(s.2 z g).1];show h,by rw[aQ];show s.1,λy j=>?_);let(z,g,rfl):=fc.mp j;have:=s.2 z g;lia
abbrev Za(num:Int)(xs:List Int)(rows:List (List Int))(c:KN):Prop:=
 (num=4/\xs=[]/\∃g,rows=[g]/\Small 256 1100 g/\c= .check (jd g))\/
 (num=5/\∃u g j,xs=[u]/\rows=[g,j]/\Small 256 5000 g/\Small 256 1100 j/\c= .path u (jd j) (KL g))\/
 (num=6/\∃u g j,xs=[u]/\rows=[g,j]/\Small 4294967296 5000 g/\Small 256 1100 j/\c= .word u (jd j) (KL g))\/
 (num=7/\xs=[]/\∃g j,rows=[g,j]/\Small 256 1100 g/\Small 256 1100 j/\c= .same (jd g) (jd j))
abbrev af_(a:Ad):Sp:=λvs H Q _=>X16 λ(ps g B D j rw:aW) (n st:Nat) (ms as:List Nat) (S:i9) (num:Int) (xs:List Int) (z:List aW) (rows:List (List Int)) (c:KN)=>vs=[.ref ps,.int num,.ref j,.ref rw]/\wY a.bY H ps g B D n st ms as/\yi S n st ms as/\Bw H j xs/\H rw=some (.lst (z.map V.ref))/\Paired (Bw H) z rows/\Za num xs rows c/\
 ∀H',bK H H'->Q (.int (fh S c).2) H'
def aeO(T:Tx2 P w K mg a):gu P w K mg base pS 10 a.XT a.TR Yz (af_ a):=by
 show T.acd.ok ZM (λvs H Q E h=>?_) (λar A outer s H vs Q E hr h=>?_)
 ·nofun
 ·let(ps,O,mm,rr,nu,av,n,st,ms,as,S,num,xs,rs,rows,c,rfl,U,hR,ah,g,z,hc,qq):=h;have aA:=ZM.nd
  show(_,(aU (eG (cx iU (pv 1) (fb (by rfl) T.aa3) (dk _)) (bh (cE (fJ (XH T) (hr.mono (by decide)) rfl T.abh T.Ve.kp T.aby .nil cN (aR (pv 0) (aR (dQ cC (pv 3) bU (λ_ _=>rfl)) br))))) dG)
   (aU (eG (cx iU (pv 1) (fb (by rfl) T.aex) (dk _)) (bh (cE (fJ (aal T.toTx) (hr.mono (by decide)) rfl T.ac6 T.Ym.kp T.acZ .nil cN (aR (pv 0) (aR (dQ cC (pv 2) bU (λ_ _=>rfl)) (aR (dQ cC (pv 3) bU (λ_ _=>rfl)) (aR (dQ cC (pv 3) bU (λ_ _=>rfl)) br))))))) dG)
   (aU (eG (cx iU (pv 1) (fb (by rfl) T.ad3) (dk _)) (bh (cE (fJ (aaY T.toTx) (hr.mono (by decide)) rfl T.aeF T.ZU.kp T.adI .nil cN (aR (dQ cC (pv 2) bU (λ_ _=>rfl)) (aR (dQ cC (pv 3) bU (λ_ _=>rfl)) (aR (dQ cC (pv 3) bU (λ_ _=>rfl)) br)))))) dG)
   (bh (cE (fJ (ab7 T) (hr.mono (by decide)) rfl T.ac9 T.YK.kp T.aeZ .nil cN (aR (dQ cC (pv 3) bU (λ_ _=>rfl)) (aR (dQ cC (pv 3) bU (λ_ _=>rfl)) br)))))))),?_)
  have B:H nu=some (.lst (xs.map V.int)):=ah;rcases hc with⟨rfl,rfl,r0,rfl,D,rfl⟩|⟨rfl,u,r0,r1,rfl,rfl,j,D,rfl⟩|⟨rfl,u,r0,r1,rfl,rfl,j,D,rfl⟩|⟨rfl,rfl,r0,r1,rfl,j,D,rfl⟩
  ·cases z with
    |cons h1 t1=>
     cases t1
     rename_i J;let(k1,M,N):=wc h1 D;dsimp! [];show(_,dg.of g,_,rfl,ps,O,mm,rr,J,n,st,ms,as,S,_,rfl,U,hR,k1,M,N,?_);rw[Mt];show qq
  ·cases z with
    |cons h1 t1=>
     cases t1 with
     |cons h2 Y=>
      cases Y
      rename_i J Z;let(j1,j2,j3):=wc h1 j;let(k1,M,N):=wc h2 D;dsimp! [];rw[h8 (by decide)]
      simp_all! []
      show(_,dg.of B,_,rfl,_,dg.of g,_,rfl,_,dg.of g,_,rfl,ps,O,mm,rr,J,Z,n,st,ms,as,S,_,u,_,rfl,U,hR,j1,j2,k1,M,N,?_);rw[Mt];show qq
  ·cases z with
    |cons h1 t1=>
     cases t1 with
     |cons h2 Y=>
      cases Y
      rename_i J Z;let(j1,j2,j3):=wc h1 j;let(k1,M,N):=wc h2 D;dsimp! [];rw[h8 (by decide)]
      simp_all! []
      rw[h8 (by decide)]
      simp_all! []
      show(_,dg.of B,_,rfl,_,dg.of g,_,rfl,_,dg.of g,_,rfl,J,Z,u,_,_,S,rfl,j1,j2,k1,M,N,?_);rw[Mt];show qq
  ·cases z with
    |cons h1 t1=>
     cases t1 with
     |cons h2 Y=>
      cases Y
      rename_i J Z;let(j1,j2,j3):=wc h1 j;let(k1,M,N):=wc h2 D;dsimp! [];rw[h8 (by decide)]
      simp_all! []
      rw[h8 (by decide)]
      simp_all! []
      rw[h8 (by decide)];subst hu';simp![];show(_,dg.of g,_,rfl,_,dg.of g,_,rfl,J,Z,_,_,S,rfl,j1,j2,j3,k1,M,N,?_);rw[Mt,Mt];show qq
def Ul(h:(x.all (λ(z:Int)=>rY z k) && Jx x m)=true):Small (2^k) m x:=by
 unfold rY Jx at h;rw[bf,d8,decide_eq_true_eq] at h;show(h.2,λz g=>?_);have:=h.1 z g;rw[bf,decide_eq_true_eq,decide_eq_true_eq] at this;show(this.1,?_);rw[Int.natCast_pow];show this.2
def Np{P:List (List Int)->Prop}(g:∀a,P [[0,a]])(h1:∀a b,P [[1,a,b]])(h2:∀a b c,P [[2,a,b,c]])(j:∀a b,P [[3,a,b]])(z:∀r,P [[4],r])(B:∀a r s,P [[5,a],r,s])(D:∀a r s,P [[6,a],r,s])(J:∀r s,P [[7],r,s])(hd:∀c,tZ c=false->ym c=c->P c):∀c,P c
 |[]=>hd _ rfl rfl
 |[] ::_=>hd _ rfl rfl
 |(n ::x) ::y=>by
  rcases n with(_|_|_|_|_|_|_|_|k)|k <;> rcases y with _|⟨r,_|⟨s,_|_⟩⟩ <;> (try show hd _ rfl rfl) <;> rcases x with _|⟨a,_|⟨b,_|⟨c,_|_⟩⟩⟩ <;> first|show hd _ rfl rfl|show g _|show h1 _ _|show h2 _ _ _|show j _ _|show z _|show B _ _ _|show D _ _ _|show J _ _
def Ng:∀c:List (List Int),tZ c=true->∃num xs rows z,c=(num ::xs) ::rows/\zf c=some z/\((num<=3/\acM num xs z)\/(3 < num/\Za num xs rows z)):=by
 show Np (λa0 _=>?_) (λa0 a1 h=>?_) (λa0 a1 a2 _=>?_) (λa0 a1 _=>?_) (λg h=>?_) (λa0 g j h=>?_) (λa0 g j h=>?_) (λg j h=>?_) (λc h _ k=>absurd (h.symm.trans k) (by decide))
 ·show(_,_,_,_,rfl,rfl,.inl (by decide,.inl (rfl,a0,rfl,rfl)))
 ·have h2:=(cT.mp (show(TC a0 && rY a1 32)=true from h)).2;unfold rY at h2;rw[bf,decide_eq_true_eq] at h2;show(_,_,_,_,rfl,rfl,.inl (by decide,.inr (.inl (rfl,a0,a1,rfl,h2.1,rfl))))
 ·show(_,_,_,_,rfl,rfl,.inl (by decide,.inr (.inr (.inl (rfl,a0,a1,a2,rfl,rfl)))))
 ·show(_,_,_,_,rfl,rfl,.inl (by decide,.inr (.inr (.inr (rfl,a0,a1,rfl,rfl)))))
 ·show(_,_,_,_,rfl,rfl,.inr (by decide,.inl (rfl,rfl,g,rfl,Ul h,rfl)))
 ·have h:=cT.mp (cT.mp h).2;show(_,_,_,_,rfl,rfl,.inr (by decide,.inr (.inl (rfl,a0,g,j,rfl,rfl,Ul h.1,Ul h.2,rfl))))
 ·have h:=cT.mp (cT.mp h).2;show(_,_,_,_,rfl,rfl,.inr (by decide,.inr (.inr (.inl (rfl,a0,g,j,rfl,rfl,Ul h.1,Ul h.2,rfl)))))
 ·have h:=cT.mp h;show(_,_,_,_,rfl,rfl,.inr (by decide,.inr (.inr (.inr (rfl,rfl,g,j,rfl,Ul h.1,Ul h.2,rfl)))))
def ZJ:∀c:List (List Int),ym c=c:=
 Np (λ_=>rfl) (λ_ _=>rfl) (λ_ _ _=>rfl) (λ_ _=>rfl) (λ_=>rfl) (λ_ _ _=>rfl) (λ_ _ _=>rfl) (λ_ _=>rfl) λ_ _ h=>h
abbrev aft(S:i9)(cs:List (List (List Int))):i9:=cs.foldl (λs c=>(h_ s c).1) S
def Y5(S:i9)(cs:List (List (List Int)))(c:List (List Int)):aft S (cs++[c])=(h_ (aft S cs) c).1:=by unfold aft;rw[mi];rfl
def Ll:∀(cs:List (List (List Int))) (S:i9) (c:List (List Int)),sE h_ S (cs++[c])=sE h_ S cs++[(h_ (aft S cs) c).2]
 |[],S,c=>rfl
 |d ::cs,S,c=>by
  rw[ia,sE,sE,Ll cs,ia];rfl
abbrev Cd(cs:List (List (List Int))):List Int:=Lo (sE h_ j4 cs)
def OG(h:zf c=some g):Cd (cs++[c])=Cd cs++[1,(fh (aft j4 cs) g).2]:=by
 unfold Cd Lo;rw[Ll,xQ];congr 1;unfold h_;rw[h];rfl
def abW(h:zf c=some g):(h_ S c).1=(fh S g).1:=by
 unfold h_;rw[h]
def Wq(h:Za num xs rows z):(fh S z).1=S:=by
 rcases h with⟨_,_,g,_,_,rfl⟩|⟨_,u,g,j,_,_,_,_,rfl⟩|⟨_,u,g,j,_,_,_,_,rfl⟩|⟨_,_,g,j,_,_,_,rfl⟩ <;> rfl
def X_(h:w9 ns=true):∃cs,Rh yn ↑ns ns=some cs/\↑cs<=400/\(∀c∈cs,tZ c=true)/\E9 ns=Cd cs:=by
 unfold w9 at h
 split at h
 ·cases h
 ·rename_i raw e;rw[bf,bf,bf] at h
  have g:raw.map ym=raw:=by
   have:ym=id:=funext ZJ;rw[this,List.map_id]
  have h1:=h.1.1.1;have h2:=h.1.2;rw[g] at h2;unfold PyFlat.atMost at h1;unfold Wf at h2;rw[bf,d8] at h2;show(raw,e,of_decide_eq_true h1,h2.1,?_);unfold E9 PySg30.calls;rw[e];change Lo (sE h_ j4 (raw.map ym))=_;rw[g];rfl
def Yw(h:∀c∈cs,tZ c=true):↑(Cd cs)=2*↑cs:=by
 have key:∀n,n<=↑cs->↑(Cd (cs.take n))=2*n:=by
  intro n
  induction n with
  |zero=>intro _;rfl
  |succ n z=>
   intro B;obtain⟨c,j⟩:∃c,cs[n]? =some c:=(_,aS ());let(_,_,_,D,_,g,_):=Ng _ (h c (bJ j));rw[take_snoc j,OG g,aY,z ()];simp only[a_,cW];lia
 have:=key ↑cs (aT _);rw[dC] at this;show this
abbrev ad0(C:aW)(g:Hp)(c ps j tl:aW)(cs:List (List (List Int)))(i:Nat)(σ:L2.St)(H':Hp):Prop:=X9 λ(D J M:Option V) (z B:aW) (n st:Nat) (ms as:List Nat)=>
 σ=[some (.ref c),some (.ref ps),some (.ref tl),D,J,M]/\bK g H'/\wY C H' ps j z B n st ms as/\yi (aft j4 (cs.take i)) n st ms as/\g z=none/\g B=none/\H' tl=some (.lst ((Cd (cs.take i)).map V.int))/\tl≠z/\tl≠B
def wY.Zg{n st:Nat}(h:wY C H p dx m r n st ms as)(g:H D=some (.lst xs))(n1:D≠m)(n2:D≠r):wY C (upd H D o) p dx m r n st ms as:=
 (by rw[bc (eV h.obj g (by intro z;cases z))];show h.obj,by rw[bc (d5 n1)];show h.marks,by rw[bc (d5 n2)];show h.arcs,h.mr,h.ml,h.al)
abbrev acz(K:bj):Sp:=λvs H Q _=>∃(c:aW) (ns:List Int),vs=[.ref c]/\dg K H c (ns.map V.int)/\↑ns<=30000/\w9 ns=true/\∀H' p,H' p=some (.lst ((E9 ns).map V.int))->Q (.ref p) H'
def Ur(T:Tx2 P w K mg a):gu P w K mg base pS 11 a.Km a.HI KI (acz K):=by
 show T.OC.ok MX (λvs H Q E h=>?_) (λd1 A outer s H vs Q E hr h=>?_)
 ·nofun
 ·let(c,ns,rfl,hc,hlen,b4,qq):=h;have d2:=MX.nd
  show(_,(aU (c9 1 (MZ T.MF (Bo T.toTx) (hr.mono (by decide)) rfl T.N2 T.Cb .nil cN))
   (aU (c9 2 (gS br))
   (aU (jO b8 rfl (jE (fJ (Oc T.toTx) (hr.mono (by decide)) rfl T.Qz T.Jq.kp T.Qe .nil cN (aR (pv 0) br))) (jw (n:=3) rfl (ck (b6 3) (ck (b6 4) (ck (b6 5) g8)))) (aU (dP (lu bu bH bG d7 (pv 2) (aR bU br)))
   (bh (eG (cx OA (pv 3) (fb (by rfl) T.aaT) (dk _)) (bh (dP (lu bu bH bG d7 (pv 2) (aR (fJ (Yo T.toTx) (hr.mono (by decide)) rfl T.abn T.Vr.kp T.abC .nil cN (aR (pv 1) (aR (pv 3) (aR (pv 4) br)))) br)))) (bh (dP (lu bu bH bG d7 (pv 2) (aR (fJ (aeO T) (hr.mono (by decide)) rfl T.ahu T.acd.kp T.af1 .nil cN (aR (pv 1) (aR (pv 3) (aR (pv 4) (aR (pv 5) br))))) br))))))))
   (bh (cE (pv 2)))))),?_)
  let(cs,c5,dV,bx,b5):=X_ b4;dsimp! [];intro ps M cm c6 d3;have sM:bK H (upd (upd H M (.own ps)) ps (.ins a.bY M [])):=bp (bp (same_refl H) c6) cm;show(ps,M,rfl,aV,λH1 U Y d4 eb b0 s1=>(rfl,?_));have dc:bK H H1:=dX (A:=[ps]) sM (by simpa using cm) s1
  simp_all! []
  show(by decide,λtl b1=>?_);have b2:bK H1 (upd H1 tl (.lst [])):=bp (same_refl H1) b1;have aA:upd H1 tl (.lst []) tl=some (.lst []):=aV;have dd:tl≠U:=(bb b0.marks b1).symm;have dh:tl≠Y:=(bb b0.arcs b1).symm;generalize upd H1 tl (.lst [])=H2 at b2 aA ⊢;have J:=b0.mono b2;have dn:=bK.trans dc b2
  simp_all! []
  show(c,ns,cs,[ps,U,Y,tl],rfl,?_,dn.seq hc,hlen,c5,λH3 l ts s3 B hl dp=>((_,dg.of hl),?_))
  ·intro b hb;simp only[bo,dD,or_false] at hb;rcases hb with rfl|rfl|rfl|rfl
   ·show(_,J.obj)
   ·show(_,J.marks)
   ·show(_,J.arcs)
   ·show(_,aA)
  have j:∀b,b∈[ps,U,Y,tl]->er [ps,U,Y,tl] H3 b=none:=λb hb=>by unfold er;rw[h9 hb]
  have dq:er [ps,U,Y,tl] H3 l=some (.lst (ts.map V.ref)):=by
   show dE.mpr (λhm=>?_,hl);simp only[bo,dD,or_false] at hm;rcases hm with rfl|rfl|rfl|rfl
   ·rw[J.obj] at B;cases B
   ·rw[J.marks] at B;cases B
   ·rw[J.arcs] at B;cases B
   ·rw[aA] at B;cases B
  have ct:=j ps ⋯;have Z:=j tl ⋯;have ah:Paired (EV (er [ps,U,Y,tl] H3)) ts cs:=L2.Paired.jh dp λb e h=>EV.mono (MH λb hb=>aZ _ hb) h;show lr (xs:=ts.map V.ref) (ad0 a.bY (er [ps,U,Y,tl] H3) c ps M tl cs) (none,none,none,U,Y,1,0,[0],[0],rfl,cq,J.mono s3,yi.fresh (by decide) (by decide),j U ⋯,j Y ⋯,s3 _ _ aA,dd,dh) (λi σ H' _ (_,_,_,_,_,_,_,_,_,_,s',_)=>dg.of (s' _ _ dq)) ?_ ?_
  ·rintro i x σ H' hx ⟨v3,v4,v5,mm,rr,n,st,ms,as,rfl,s',cy,aE,bk,bl,g,N,O⟩;let(t,ht,rfl):=iT hx;let(cl,bt,dr):=eJ ah ht;have hi:=(aX.mp bt).1;let(num,xs,rows,u,v,rs,ec,k1,k2,k3,k4):=dr.ex;let(d0,ed,dt,cc,cA,cL,b3):=Ng _ (bx cl (bJ bt));rw[ec] at cA
   cases cA
   have ef:↑(Cd (cs.take i))<=800:=by
    rw[Yw λd hd=>bx d (Fd hd),cK];lia
   simp![];show(_,qH.of (s' _ _ k1),rfl,?_);simp![];show(.inl (_,dg.of g),_,g,by rw[aQ];show df (),?_);have e1:(Cd (cs.take i)).map V.int++[V.int 1]=(Cd (cs.take i)++[1]).map V.int:=by rw[bD];rfl
   rw[e1];have ar:=cy.Zg (o:= .lst ((Cd (cs.take i)++[1]).map V.int)) g N O;have s4:=bp (o:= .lst ((Cd (cs.take i)++[1]).map V.int)) s' Z;have D:upd H' tl (.lst ((Cd (cs.take i)++[1]).map V.int)) tl=some (.lst ((Cd (cs.take i)++[1]).map V.int)):=aV;generalize upd H' tl (.lst ((Cd (cs.take i)++[1]).map V.int))=H4 at ar s4 D ⊢
   have eo:∀z,(fh (aft j4 (cs.take i)) cc).2=z->(Cd (cs.take i)++[1]).map V.int++[V.int z]=(Cd (cs.take (i+1))).map V.int:=λz hz=>by
    rw[take_snoc bt,OG cL,hz,bD,bD];simp only[cg,gE,bO,ia,oK]
   have ea:aft j4 (cs.take (i+1))=(fh (aft j4 (cs.take i)) cc).1:=by rw[take_snoc bt,Y5,abW cL]
   have c0:↑((Cd (cs.take i)++[1]).map V.int) < sizeLine:=by rw[aQ,aY,cw];show df ()
   rcases b3 with⟨c3,hB⟩|⟨c3,hA⟩
   ·rw[h9 c3];show(.inl (_,dg.of D),ps,M,mm,rr,u,n,st,ms,as,num,xs,_,cc,rfl,ar,aE,s4 _ _ k2,hB,λH5 m' r' n' st' dv dw dy dB s5 dH dK=>?_);have c4:tl≠ps:=eV D ar.obj (by intro z;cases z);have av:H5 tl=some (.lst ((Cd (cs.take i)++[1]).map V.int)):=cb s5 (by simp only[bo,dD,or_false,not_or];show(c4,N,O)) D
    have dT:bK (er [ps,U,Y,tl] H3) H5:=dX (A:=[ps,mm,rr]) s4 (λb hb=>by
     simp only[bo,dD,or_false] at hb;rcases hb with rfl|rfl|rfl
     ·show ct
     ·show bk
     ·show bl) s5
    have c1:er [ps,U,Y,tl] H3 m'=none/\tl≠m':=by
     rcases dH with e|e
     ·rw[e];show(bk,N)
     ·show(same_none s4 e,bb D e)
    have c2:er [ps,U,Y,tl] H3 r'=none/\tl≠r':=by
     rcases dK with e|e
     ·rw[e];show(bl,O)
     ·show(same_none s4 e,bb D e)
    show(_,av,c0,_,_,_,m',r',n',st',dv,dw,rfl,bp dT Z,dy.Zg av c1.2 c2.2,by rw[ea];show dB,c1.1,c2.1,?_,c1.2,c2.2);rw[aV,eo _ rfl]
   ·rw[h8 ()];show(.inl (_,dg.of D),ps,M,mm,rr,u,v,n,st,ms,as,_,num,xs,rs,rows,cc,rfl,ar,aE,s4 _ _ k2,s4 _ _ k3,L2.Paired.jh k4 λb e h=>s4 _ _ h,hA,λH5 s5=>?_);have av:=s5 _ _ D;show(_,av,c0,_,_,_,mm,rr,n,st,ms,as,rfl,bp (bK.trans s4 s5) Z,(ar.mono s5).Zg av N O,by rw[ea,Wq hA];show aE,bk,bl,?_,N,O);rw[aV,eo _ rfl]
  ·rintro σ H' ⟨v3,v4,v5,mm,rr,n,st,ms,as,rfl,s',cy,aE,bk,bl,g,N,O⟩;subst hu';simp![];rw[aQ,bT ah,dC] at g;rw[b5] at qq;show qq H' tl g
open PySem.W
abbrev DOk(w:e_):List uC->List (Key×V)->Prop
 |[],[]=>True
 |e ::es,g ::kvs=>Gy g.1 e.key=true/\e.hash=ab5 w g.1/\RelV g.2 e.val/\DOk w es kvs
 |_,_=>False
def O4{P:fm}{w:e_}:∀{es:List uC} {kvs:List (Key×V)},DOk w es kvs->(∀e∈es,∃k,(jY P w).is k e.key=true/\e.hash=(jY P w).hash k)/\Pairs (jY P w) es (JB (λ(e:uC) (g:Key×V)=>(g.1,e.val,)) es kvs)/\KV kvs (JB (λ(e:uC) (g:Key×V)=>(g.1,e.val,)) es kvs)/\(JB (λ(e:uC) (g:Key×V)=>(g.1,e.val,)) es kvs).map (·.1)=kvs.map (·.1)
 |[],[],_=>(λe j=>(nomatch j),.nil,.nil,rfl)
 |e ::es,g ::kvs,h=>by
  let(h1,h2,z,B):=h;let(k1,D,J,M):=O4 (P:=P) B;show(λN j=>?_,.cons h1 rfl D,.cons (rfl,z) J,by rw[List.zipWith_cons_cons,cg,cg,M]);rcases bo.mp j with rfl|j
  ·show(g.1,h1,h2)
  ·show k1 N j
section
variable{P:fm}{w:e_}{K:yl}{h:jj}{mg:bV->Option bM}
def ahA{a:aW}{es:Array uC}{n:Nat}{kvs:List (Key×V)}(l:K.lookup a=some (.type "dict",none,.dict es n,#[]))(s:(a==sysModules)=false)(d:DOk w es.toList kvs)(g:(kvs.map (·.1)).Nodup):KD P w K a kvs:=λh X=>by
 let(k1,j,z,B):=O4 (P:=P) d;show(s,_,z,(_,es,n,X _ _ l,(rfl,rfl,rfl),rfl,λe D=>k1 e (by simpa using D),j,by rw[B];show g))
def SW{x:Option (Option bM)}(h:isR x=true):x=some (some (.ref (rf x))):=by
 unfold isR at h
 split at h
 ·rfl
 ·cases h
def none_of{x:Option (Option bM)}(h:isN x=true):x=some none:=by
 unfold isN at h
 split at h
 ·rfl
 ·cases h
def acP{b:String}{x:Option (Option bM)}(h:isB b x=true):x=some (some (.builtin b)):=by
 unfold isB at h
 split at h
 ·rw[eq_of_beq h]
 ·cases h
def Ut{x:V}{u:bM}(h:UN x u=true):RelV x u:=by
 unfold UN at h
 split at h
 ·rw[eq_of_beq h];show(_,rfl)
 ·rw[eq_of_beq h];show(_,rfl)
 ·cases h
def abp:∀{x:List V} {u:List bM},ab8 x u=true->Vals x u:=by
 intro x
 induction x with
 |nil=>intro u h;cases u with|nil=>show .nil|cons=>cases h
 |cons x xs g=>intro u h;cases u with
  |nil=>cases h
  |cons u us=>have k:=cT.mp (show(UN x u && ab8 xs us)=true from h);show .cons (Ut k.1) (g k.2)
def ad1:∀{x:List (Key×V)} {es:List uC},aaj x es=true->es.map (·.hash)=x.map (λk=>ab5 w k.1)->DOk w es x:=by
 intro x
 induction x with
 |nil=>intro es h k;cases es with|nil=>trivial|cons=>cases h
 |cons x xs g=>intro es h k;cases es with
  |nil=>cases h
  |cons e es=>
   have h:=cT.mp (show(Gy x.1 e.key && UN x.2 e.val && aaj xs es)=true from h);have i:=cT.mp h.1;rw[cg,cg] at k;injection k with k1 j;show(i.1,k1,Ut i.2,g h.2 j)
def aA{α:Type}{l:List α}{p:α->Bool}(h:l.all p=true)(i:Nat){x:α}(e:l[i]? =some x):p x=true:=d8.mp h x (bJ e)
def aE{α β:Type}{l:List α}{f g:α->β}(h:l.map f=l.map g)(i:Nat){x:α}(e:l[i]? =some x):f x=g x:=by
 have k:=congrArg (·[i]?) h;simp only[dA,e,sQ,Ag] at k;show k
section
variable{c d:bV}{r:Rw}(C:tC.all (cB K)=true)(F:tF.all (fB K)=true)(E:tF.map (λr=>clr (fD K r))=tF.map exF)(X:K.In h)(G:h.Ns mainGlobals mg)
def Yb(h:cB K c=true):isR (nsIn K mainGlobals c)=true/\JV K (adr K c)/\makesIn K (adr K c)=true/\keepIn K (.ref (adr K c))=true:=by
 simp only[cB,bf] at h;show(h.1.1.1.1.1.1,(h.1.1.1.1.1.2,h.1.1.1.1.2,h.1.1.1.2,acP h.1.1.2),h.1.2,h.2)
def YL(h:fB K r=true):at_ K r=some (some (.ref (fA K r)))/\isFn K (.ref (fA K r))=true/\isF K (fA K r)=true/\codeIn K (fD K r).code r.q=true/\keepIn K (.ref (fA K r))=true:=by
 simp only[fB,bf] at h;show(SW h.1.1.1.1,h.1.1.1.2,h.1.1.2,h.1.2,h.2)
include C in
def cl0(i:Nat)(e:tC[i]? =some c:=by rfl):JV K (adr K c):=(Yb (aA C i e)).2.1
include X G C in
def cl2(i:Nat)(e:tC[i]? =some c:=by rfl):mg c=some (.ref (adr K c)):=Td X G (SW (Yb (aA C i e)).1)
abbrev rw_(i:Nat):Rw:=tF[i]?.getD (rR none "" "" (.Pass (0,0,0,0)))
abbrev fP(K:yl)(i:Nat):aW:=fA K (rw_ i)
abbrev fQ(K:yl)(i:Nat):bX:=fD K (rw_ i)
def ZQ{i:Nat}(e:tF[i]? =some r):rw_ i=r:=by rw[rw_,e];rfl
def afT(h:isF K (fA K r)=true)(e:clr (fD K r)=exF r):∃g j kV dc J an B ct z,fD K r=fnOf r.n r.q (x9 r.s) (wB r.s) (bZ r.s) .none kV dc J an B ct/\K.lookup (fA K r)=some (g,j,.func (fD K r),z)/\(fD K r).code=B:=by
 unfold fD at*;unfold isF at h
 split at h
 ·next g j d z D=>
   rw[D] at e;show(g,j,d.kwdefaults,d.doc,d.pyModule,d.annotations,d.code,d.closureTuple,z,?_,?_,?_)
   ·let(a1,a2,a3,a4,a5,a6,a7,a8,a9,aj,ak,ao,au,ax,ay):=d;simp only[clr,exF,fnOf,Wg,true_and,and_true] at e;let(rfl,rfl,rfl,rfl,rfl,rfl,rfl,rfl,rfl):=e
    rfl
   ·show D
   ·rfl
 ·cases h
include F E in
def iu(i:Nat){o:Option bV}{x q:bV}{st:fG}(e:tF[i]? =some (o,x,q,st):=by rfl):oC K x q st (fP K i) (fQ K i):=by
 have k:=YL (aA F i e);let(g,j,kV,dc,z,an,B,ct,D,J,M,N):=afT k.2.2.1 (aE E i e);unfold fP fQ;rw[ZQ e];show((g,j,kV,dc,z,an,B,ct,D,J,M,N ▸ k.2.2.2.1),k.2.2.2.2)
include F X G in
def LG(i:Nat){x q:bV}{st:fG}(e:tF[i]? =some (none,x,q,st):=by rfl):mg x=some (.ref (fP K i)):=by
 unfold fP;rw[ZQ e];show Td X G (YL (aA F i e)).1
include F in
def D0(i:Nat){x q:bV}{st:fG}(e:tF[i]? =some (some c,x,q,st):=by rfl):Meth K (adr K c) x (fP K i):=by
 unfold fP;rw[ZQ e];have k:=YL (aA F i e);show(k.1,k.2.1,k.2.2.2.2)
include C F in
def cl1(i j:Nat){q:bV}{st:fG}(e:tC[i]? =some c:=by rfl)(g:tF[j]? =some (some c,"__init__",q,st):=by rfl):Mk K (adr K c) (fP K j):=
 have k:=Yb (aA C i e);have m:=D0 F j g
 (k.2.2.1,m.at_,m.fn,k.2.2.2)
end
def Bd(N:tN.all (nB K)=true)(i:Nat){c d:bV}(e:tN[i]? =some (c,d,):=by rfl):dR K (adr K c) d:=none_of (aA N i e)
def vv(V:tV.all (vB K)=true)(i:Nat){c:bV}{v:L2.V}(e:tV[i]? =some (c,v,):=by rfl):∃u,nsIn K mainGlobals c=some (some u)/\RelV v u:=by
 have k:=aA V i e;unfold vB at k
 split at k
 ·next u hu=>show(u,hu,Ut k)
 ·cases k
def v1(X:K.In h)(G:h.Ns mainGlobals mg)(V:tV.all (vB K)=true)(i:Nat){c:bV}{z:Int}(e:tV[i]? =some (c,.int z,):=by rfl):∃t,mg c=some (.int z t):=by
 let(u,a,t,rfl):=vv V i e;show(t,Td X G a)
def v2(X:K.In h)(G:h.Ns mainGlobals mg)(V:tV.all (vB K)=true)(i:Nat){c:bV}{z:bV}(e:tV[i]? =some (c,.str z,):=by rfl):∃t,mg c=some (.str z t):=by
 let(u,a,t,rfl):=vv V i e;show(t,Td X G a)
def tu1(X:K.In h)(G:h.Ns mainGlobals mg)(U:tT.all (tuB K)=true)(i:Nat){c:bV}{v:List V}(e:tT[i]? =some (c,v,):=by rfl):mg c=some (.ref (adr K c)):=Td X G (SW (cT.mp (aA U i e)).1)
def Z7(U:tT.all (tuB K)=true)(i:Nat){c:bV}{v:List V}(e:tT[i]? =some (c,v,):=by rfl)(H:Hp):qH K H (adr K c) v:=by
 have k:=(cT.mp (aA U i e)).2
 split at k
 ·next c' D g n J j=>
   simp only[bf,Nat.ble_eq,beq_iff_eq] at k;let((rfl,z),B):=k;show .inr (_,_,_,j,rfl,rfl,z,abp B)
 ·cases k
def di1(X:K.In h)(G:h.Ns mainGlobals mg)(D:tD.all (dB K)=true)(i:Nat){c:bV}{v:List (Key×V)}(e:tD[i]? =some (c,v,):=by rfl):mg c=some (.ref (adr K c)):=Td X G (SW (cT.mp (cT.mp (aA D i e)).1).1)
def di2(D:tD.all (dB K)=true)(H:tD.map (dH K)=tD.map (exH w))(i:Nat){c:bV}{v:List (Key×V)}(e:tD[i]? =some (c,v,):=by rfl)(j:(v.map (·.1)).Nodup):KD P w K (adr K c) v:=by
 have k:=cT.mp (aA D i e);have s:(adr K c==sysModules)=false:=iz _ |>.mp (cT.mp k.1).2;have y:=aE H i e;have k:=k.2;unfold dH exH at y
 split at k
 ·next c' es n g=>
   rw[g] at y;simp only[bf,beq_iff_eq] at k;let(rfl,z):=k;show ahA g s (ad1 z y) j
 ·cases k
def nn(B:tB.all (λb=>isN (nsIn K mainGlobals b))=true)(i:Nat){c:bV}(e:tB[i]? =some c:=by rfl):nsIn K mainGlobals c=some none:=none_of (aA B i e)
def fo(F:tF.all (fB K)=true)(O:oB K=true):Meth K (adr K "OutlookTables") "fill_plain" (fP K 24)/\Zp K (adr K "CaseTables") "__init__" (fP K 23):=by
 have m:=D0 F 24 (c:="CaseTables") (x:="fill_plain") rfl;have j:=D0 F 23 (c:="CaseTables") (x:="__init__") rfl;simp only[oB,bf] at O;let((((z,B),D),J),g):=O;have e:rf (findIn K (.ref (adr K "OutlookTables")) "fill_plain")=fP K 24:=DY B;show(((SW z).trans (by rw[e]),m.fn,m.kp),acP D,J,?_,j.kp)
 split at g
 ·next f hf=>rw[hf,DY g];rfl
 ·cases g
def adQ{us:List bM}(h:↑us=1):∃g,us=[g]:=by
 let(g,us,rfl):=fX h;show(g,by rw[j7.mp (yk h)])
def agZ{us:List bM}(h:↑us=2):∃g j,us=[g,j]:=by
 let(g,us,rfl):=fX h;let(j,rfl):=adQ (yk h);show(g,j,rfl)
def ahG{us:List bM}(h:↑us=3):∃g j z,us=[g,j,z]:=by
 let(g,us,rfl):=fX h;let(j,z,rfl):=agZ (yk h);show(g,j,z,rfl)
def ag5{us:List bM}(h:↑us=4):∃g j z B,us=[g,j,z,B]:=by
 let(g,us,rfl):=fX h;let(j,z,B,rfl):=ahG (yk h);show(g,j,z,B,rfl)
def aiG{us:List bM}(h:↑us=5):∃g j z B D,us=[g,j,z,B,D]:=by
 let(g,us,rfl):=fX h;let(j,z,B,D,rfl):=ag5 (yk h);show(g,j,z,B,D,rfl)
def Tq{x q:bV}{st:fG}{f:aW}{fd:bX}{B:bV}(F:oC K x q st f fd)(h:∀(kV doc D:bM) (an:Option aW) (z ct j:bM),bindArgs (fnOf x q (x9 st) (wB st) (bZ st) .none kV doc D an z ct) ([j],[])=pure [(B,j,)]):Binds K fd [B] []:=F.binds λa b c d e g us J=>by
 let(j,rfl):=adQ J;show h a b c d e g j
def Ni{x q:bV}{st:fG}{f:aW}{fd:bX}{D J:bV}(F:oC K x q st f fd)(h:∀(kV doc M:bM) (an:Option aW) (B ct j z:bM),bindArgs (fnOf x q (x9 st) (wB st) (bZ st) .none kV doc M an B ct) ([j,z],[])=pure [(D,j,),(J,z,)]):Binds K fd [D,J] []:=F.binds λa b c d e g us N=>by
 let(j,z,rfl):=agZ N;show h a b c d e g j z
def Sg{x q:bV}{st:fG}{f:aW}{fd:bX}{J M p2:bV}(F:oC K x q st f fd)(h:∀(kV doc N:bM) (an:Option aW) (D ct j z B:bM),bindArgs (fnOf x q (x9 st) (wB st) (bZ st) .none kV doc N an D ct) ([j,z,B],[])=pure [(J,j,),(M,z,),(p2,B,)]):Binds K fd [J,M,p2] []:=F.binds λa b c d e g us O=>by
 let(j,z,B,rfl):=ahG O;show h a b c d e g j z B
def bd4{x q:bV}{st:fG}{f:aW}{fd:bX}{M N p2 O:bV}(F:oC K x q st f fd)(h:∀(kV doc Q:bM) (an:Option aW) (J ct j z B D:bM),bindArgs (fnOf x q (x9 st) (wB st) (bZ st) .none kV doc Q an J ct) ([j,z,B,D],[])=pure [(M,j,),(N,z,),(p2,B,),(O,D,)]):Binds K fd [M,N,p2,O] []:=F.binds λa b c d e g us U=>by
 let(j,z,B,D,rfl):=ag5 U;show h a b c d e g j z B D
def bd5{x q:bV}{st:fG}{f:aW}{fd:bX}{N O p2 Q U:bV}(F:oC K x q st f fd)(h:∀(kV doc Y:bM) (an:Option aW) (M ct j z B D J:bM),bindArgs (fnOf x q (x9 st) (wB st) (bZ st) .none kV doc Y an M ct) ([j,z,B,D,J],[])=pure [(N,j,),(O,z,),(p2,B,),(Q,D,),(U,J,)]):Binds K fd [N,O,p2,Q,U] []:=F.binds λa b c d e g us Z=>by
 let(j,z,B,D,J,rfl):=aiG Z;show h a b c d e g j z B D J
abbrev aij(K:yl):Ad:=(adr K "SignReader",adr K "Formulas",adr K "FormulaBuilder",adr K "CaseParts",adr K "CaseTables",adr K "OutlookTables",adr K "RoundSearch",adr K "RoundRow",adr K "StateSystem",fP K 0,fQ K 0,fP K 1,fQ K 1,fP K 2,fQ K 2,fP K 3,fQ K 3,fP K 4,fQ K 4,fP K 5,fQ K 5,fP K 6,fQ K 6,fP K 7,fQ K 7,fP K 8,fQ K 8,fP K 9,fQ K 9,fP K 10,fQ K 10,fP K 11,fQ K 11,fP K 12,fQ K 12,fP K 13,fQ K 13,fP K 14,fQ K 14,fP K 15,fQ K 15,fP K 16,fQ K 16,fP K 17,fQ K 17,fP K 18,fQ K 18,fP K 19,fQ K 19,fP K 20,fQ K 20,fP K 21,fQ K 21,fP K 22,fQ K 22,fP K 23,fQ K 23,fP K 24,fQ K 24,fP K 25,fQ K 25,fP K 26,fQ K 26,fP K 27,fQ K 27,fP K 28,fQ K 28,fP K 29,fQ K 29,fP K 30,fQ K 30,fP K 31,fQ K 31,fP K 32,fQ K 32,fP K 33,fQ K 33,fP K 34,fQ K 34,fP K 35,fQ K 35,fP K 36,fQ K 36,fP K 37,fQ K 37,fP K 38,fQ K 38,fP K 39,fQ K 39,fP K 40,fQ K 40,fP K 41,fQ K 41,fP K 42,fQ K 42,fP K 43,fQ K 43,fP K 44,fQ K 44,fP K 45,fQ K 45,fP K 46,fQ K 46,fP K 47,fQ K 47,fP K 48,fQ K 48,fP K 49,fQ K 49,fP K 50,fQ K 50,fP K 51,fQ K 51,fP K 52,fQ K 52,fP K 53,fQ K 53,fP K 54,fQ K 54,fP K 55,fQ K 55,fP K 56,fQ K 56,fP K 57,fQ K 57,fP K 58,fQ K 58,fP K 59,fQ K 59,fP K 60,fQ K 60,fP K 61,fQ K 61,fP K 62,fQ K 62,fP K 63,fQ K 63,fP K 64,fQ K 64,fP K 65,fQ K 65,fP K 66,fQ K 66,adr K "SIGNS",adr K "FRONTS",adr K "JOININGS",adr K "CONSTANTS",adr K "ARROWS",adr K "ARROW_BEGINNINGS",adr K "TIMES",adr K "BINDS",adr K "DONE_AHEAD",adr K "TIME_SIGNS",adr K "WRONG_BYTE",adr K "WHOLE_NUMBERS",adr K "ROWS")
def ait(X:K.In h)(G:h.Ns mainGlobals mg)(Z:obB K=true)(E:tF.map (λr=>clr (fD K r))=tF.map exF)(H:tD.map (dH K)=tD.map (exH w)):Tx2 P w K mg (aij K):=by
 simp only[obB,bf] at Z;let(((((((F,C),N),V),U),D),B),O):=Z;show((cl0 C 0,cl1 C F 0 0,cl2 C X G 0,Bd N 0,Bd N 1,Bd N 2,Bd N 3,cl0 C 1,cl1 C F 1 7,cl2 C X G 1,Bd N 4,Bd N 5,Bd N 6,cl0 C 2,cl1 C F 2 14,cl2 C X G 2,Bd N 7,Bd N 8,Bd N 9,cl0 C 3,cl1 C F 3 21,cl2 C X G 3,Bd N 10,Bd N 11,cl0 C 4,cl1 C F 4 23,cl2 C X G 4,Bd N 12,Bd N 13,Bd N 14,Bd N 15,Bd N 16,cl0 C 5,cl1 C F 5 25,cl2 C X G 5,Bd N 17,Bd N 18,Bd N 19,Bd N 20,Bd N 21,Bd N 22,Bd N 23,Bd N 24,Bd N 25,Bd N 26,cl0 C 6,cl1 C F 6 32,cl2 C X G 6,Bd N 27,Bd N 28,Bd N 29,Bd N 30,Bd N 31,Bd N 32,Bd N 33,Bd N 34,cl0 C 7,cl1 C F 7 44,cl2 C X G 7,Bd N 35,Bd N 36,cl0 C 8,cl1 C F 8 58,cl2 C X G 8,Bd N 37,Bd N 38,Bd N 39,Bd N 40,iu F E 0,Tq (iu F E 0) λ_ _ _ _ _ _ _=>rfl,iu F E 1,Ni (iu F E 1) λ_ _ _ _ _ _ _ _=>rfl,D0 F 1,iu F E 2,Ni (iu F E 2) λ_ _ _ _ _ _ _ _=>rfl,D0 F 2,iu F E 3,Ni (iu F E 3) λ_ _ _ _ _ _ _ _=>rfl,D0 F 3,iu F E 4,Ni (iu F E 4) λ_ _ _ _ _ _ _ _=>rfl,D0 F 4,iu F E 5,Tq (iu F E 5) λ_ _ _ _ _ _ _=>rfl,D0 F 5,iu F E 6,Tq (iu F E 6) λ_ _ _ _ _ _ _=>rfl,LG F X G 6,iu F E 7,Tq (iu F E 7) λ_ _ _ _ _ _ _=>rfl,iu F E 8,Sg (iu F E 8) λ_ _ _ _ _ _ _ _ _=>rfl,D0 F 8,iu F E 9,Ni (iu F E 9) λ_ _ _ _ _ _ _ _=>rfl,D0 F 9,iu F E 10,bd4 (iu F E 10) λ_ _ _ _ _ _ _ _ _ _=>rfl,D0 F 10,iu F E 11,Sg (iu F E 11) λ_ _ _ _ _ _ _ _ _=>rfl,D0 F 11,iu F E 12,bd4 (iu F E 12) λ_ _ _ _ _ _ _ _ _ _=>rfl,D0 F 12,iu F E 13,Tq (iu F E 13) λ_ _ _ _ _ _ _=>rfl,D0 F 13,iu F E 14,Ni (iu F E 14) λ_ _ _ _ _ _ _ _=>rfl,iu F E 15,Ni (iu F E 15) λ_ _ _ _ _ _ _ _=>rfl,D0 F 15,iu F E 16,Ni (iu F E 16) λ_ _ _ _ _ _ _ _=>rfl,D0 F 16,iu F E 17,Ni (iu F E 17) λ_ _ _ _ _ _ _ _=>rfl,LG F X G 17,iu F E 18,Tq (iu F E 18) λ_ _ _ _ _ _ _=>rfl,LG F X G 18,iu F E 19,Ni (iu F E 19) λ_ _ _ _ _ _ _ _=>rfl,LG F X G 19,iu F E 20,Tq (iu F E 20) λ_ _ _ _ _ _ _=>rfl,LG F X G 20,iu F E 21,Sg (iu F E 21) λ_ _ _ _ _ _ _ _ _=>rfl,iu F E 22,Tq (iu F E 22) λ_ _ _ _ _ _ _=>rfl,D0 F 22,iu F E 23,bd4 (iu F E 23) λ_ _ _ _ _ _ _ _ _ _=>rfl,iu F E 24,Ni (iu F E 24) λ_ _ _ _ _ _ _ _=>rfl,D0 F 24,iu F E 25,bd4 (iu F E 25) λ_ _ _ _ _ _ _ _ _ _=>rfl,iu F E 26,Ni (iu F E 26) λ_ _ _ _ _ _ _ _=>rfl,D0 F 26,iu F E 27,Ni (iu F E 27) λ_ _ _ _ _ _ _ _=>rfl,D0 F 27,iu F E 28,bd5 (iu F E 28) λ_ _ _ _ _ _ _ _ _ _ _=>rfl,D0 F 28,iu F E 29,Tq (iu F E 29) λ_ _ _ _ _ _ _=>rfl,D0 F 29,iu F E 30,Tq (iu F E 30) λ_ _ _ _ _ _ _=>rfl,D0 F 30,iu F E 31,Sg (iu F E 31) λ_ _ _ _ _ _ _ _ _=>rfl,D0 F 31,iu F E 32,bd5 (iu F E 32) λ_ _ _ _ _ _ _ _ _ _ _=>rfl,iu F E 33,Ni (iu F E 33) λ_ _ _ _ _ _ _ _=>rfl,D0 F 33,iu F E 34,Sg (iu F E 34) λ_ _ _ _ _ _ _ _ _=>rfl,D0 F 34,iu F E 35,Ni (iu F E 35) λ_ _ _ _ _ _ _ _=>rfl,D0 F 35,iu F E 36,Sg (iu F E 36) λ_ _ _ _ _ _ _ _ _=>rfl,D0 F 36,iu F E 37,Ni (iu F E 37) λ_ _ _ _ _ _ _ _=>rfl,D0 F 37,iu F E 38,Tq (iu F E 38) λ_ _ _ _ _ _ _=>rfl,LG F X G 38,iu F E 39,Ni (iu F E 39) λ_ _ _ _ _ _ _ _=>rfl,LG F X G 39,iu F E 40,Sg (iu F E 40) λ_ _ _ _ _ _ _ _ _=>rfl,LG F X G 40,iu F E 41,Sg (iu F E 41) λ_ _ _ _ _ _ _ _ _=>rfl,LG F X G 41,iu F E 42,Sg (iu F E 42) λ_ _ _ _ _ _ _ _ _=>rfl,LG F X G 42,iu F E 43,Sg (iu F E 43) λ_ _ _ _ _ _ _ _ _=>rfl,LG F X G 43,iu F E 44,Sg (iu F E 44) λ_ _ _ _ _ _ _ _ _=>rfl,iu F E 45,Ni (iu F E 45) λ_ _ _ _ _ _ _ _=>rfl,D0 F 45,iu F E 46,bd4 (iu F E 46) λ_ _ _ _ _ _ _ _ _ _=>rfl,D0 F 46,iu F E 47,bd4 (iu F E 47) λ_ _ _ _ _ _ _ _ _ _=>rfl,LG F X G 47,iu F E 48,Tq (iu F E 48) λ_ _ _ _ _ _ _=>rfl,LG F X G 48,iu F E 49,Tq (iu F E 49) λ_ _ _ _ _ _ _=>rfl,LG F X G 49,iu F E 50,Ni (iu F E 50) λ_ _ _ _ _ _ _ _=>rfl,LG F X G 50,iu F E 51,Sg (iu F E 51) λ_ _ _ _ _ _ _ _ _=>rfl,LG F X G 51,iu F E 52,Ni (iu F E 52) λ_ _ _ _ _ _ _ _=>rfl,LG F X G 52,iu F E 53,bd4 (iu F E 53) λ_ _ _ _ _ _ _ _ _ _=>rfl,LG F X G 53,iu F E 54,Sg (iu F E 54) λ_ _ _ _ _ _ _ _ _=>rfl,LG F X G 54,iu F E 55,Ni (iu F E 55) λ_ _ _ _ _ _ _ _=>rfl,LG F X G 55,iu F E 56,Tq (iu F E 56) λ_ _ _ _ _ _ _=>rfl,LG F X G 56,iu F E 57,Sg (iu F E 57) λ_ _ _ _ _ _ _ _ _=>rfl,LG F X G 57,iu F E 58,Tq (iu F E 58) λ_ _ _ _ _ _ _=>rfl,iu F E 59,Ni (iu F E 59) λ_ _ _ _ _ _ _ _=>rfl,D0 F 59,iu F E 60,Ni (iu F E 60) λ_ _ _ _ _ _ _ _=>rfl,D0 F 60,iu F E 61,Sg (iu F E 61) λ_ _ _ _ _ _ _ _ _=>rfl,D0 F 61,iu F E 62,bd4 (iu F E 62) λ_ _ _ _ _ _ _ _ _ _=>rfl,D0 F 62,iu F E 63,Sg (iu F E 63) λ_ _ _ _ _ _ _ _ _=>rfl,D0 F 63,iu F E 64,Sg (iu F E 64) λ_ _ _ _ _ _ _ _ _=>rfl,LG F X G 64,iu F E 65,bd4 (iu F E 65) λ_ _ _ _ _ _ _ _ _ _=>rfl,LG F X G 65,iu F E 66,Tq (iu F E 66) λ_ _ _ _ _ _ _=>rfl,LG F X G 66,(fo F O).1,v1 X G V 0,v2 X G V 1,di1 X G D 0,di2 D H 0 rfl (by decide+kernel),tu1 X G U 0,Z7 U 0,tu1 X G U 1,Z7 U 1,v2 X G V 2,tu1 X G U 2,Z7 U 2,tu1 X G U 3,Z7 U 3,tu1 X G U 4,Z7 U 4,v2 X G V 3,v2 X G V 4,v2 X G V 5,v2 X G V 6,v2 X G V 7,v2 X G V 8,v2 X G V 9,v2 X G V 10,v2 X G V 11,v2 X G V 12,tu1 X G U 5,Z7 U 5,di1 X G D 1,di2 D H 1 rfl (by decide+kernel),di1 X G D 2,di2 D H 2 rfl (by decide+kernel),v1 X G V 13,v1 X G V 14,v1 X G V 15,v1 X G V 16,v1 X G V 17,tu1 X G U 6,Z7 U 6,v1 X G V 18,v1 X G V 19,v1 X G V 20,tu1 X G U 7,Z7 U 7,v1 X G V 21,v1 X G V 22,v1 X G V 23,tu1 X G U 8,Z7 U 8,tu1 X G U 9,Z7 U 9,v1 X G V 24,v1 X G V 25,v1 X G V 26,v1 X G V 27,v1 X G V 28,v1 X G V 29,v1 X G V 30,v1 X G V 31,v1 X G V 32,v1 X G V 33,v1 X G V 34,zo X G (nn B 0),zo X G (nn B 1),zo X G (nn B 2),zo X G (nn B 3),zo X G (nn B 4),zo X G (nn B 5)),(fo F O).2)
end
def agp:rnn=Wj topGo segRunT treeTable:=by
 unfold rnn;rw[←sL,←GV,←iH]
def afQ:sO=openSeen qv lo (importedModules P0.main.body) (recOk []) true:=by
 unfold sO;rw[←Ic,←uc]
def qk{α:Type}{f:e_->RR->α}{e:e_->α}(g:Qk f e false)(h1:Qk f e true)(w:e_)(os:Mn):(Wj topGo segRunT treeTable w os).map (f w)=some (e w):=by
 rw[←agp];show congrFun (byRow2 "special-get-raises" (P:=λw=>(λos=>(rnn w os).map (f w))=λ_=>some (e w)) g h1 w) os
def qr{α:Type}{f:e_->RR->α}{e:e_->α}(g:Qk f e false)(h1:Qk f e true){w:e_}{os:Mn}{r:RR}(h:Wj topGo segRunT treeTable w os=some r):f w r=e w:=by
 have k:=qk g h1 w os;rw[h] at k;show bQ k
def aiQ{A B C D E F G H I:Type}{x:A×B×C×D×E×F×G×H×I}{a b c d e f g h i}(h1:x.1=a)(h2:x.2.1=b)(j:x.2.2.1=c)(z:x.2.2.2.1=d)(J:x.2.2.2.2.1=e)(M:x.2.2.2.2.2.1=f)(N:x.2.2.2.2.2.2.1=g)(O:x.2.2.2.2.2.2.2.1=h)(Q:x.2.2.2.2.2.2.2.2=i):x=(a,b,c,d,e,f,g,h,i,):=by
 subst h1 h2 j z J M N O Q
 rfl
abbrev fr(s:b9):yl:=(du s.heap.objs.size).map λi=>(i,s.heap.objs[i]?.getD default,)
def aeh(T:FJ):fr T.abs=frT T:=by
 unfold fr frT;rw[show T.abs.heap=absHeap T.tree T.n T.life from rfl,absHeap_size];show rZ λi hi=>?_;rw[absHeap_at,h9 (eY.mp hi)]
 rfl
def SD{f:Nat->uG}:∀{l:List Nat} {a:aW} {o:uG},(l.map λi=>(i,f i,)).lookup a=some o->f a=o/\a∈l
 |[],_,_,h=>nomatch h
 |b ::l,a,o,h=>by
  rw[cg,jz] at h
  split at h
  ·next e=>show((eq_of_beq e) ▸ bQ h,(eq_of_beq e) ▸ bg)
  ·next e=>have k:=SD h;show(k.1,aZ _ k.2)
def afM{s:b9}(h:(fr s).all (λx=>(alive x.2).isSome)=true):(fr s).In s.heap:=λa o e=>by
 have k:=SD e;have m:(a,o,)∈fr s:=fc.mpr (a,k.2,by rw[k.1]);have z:=d8.mp h _ m
 have g:s.heap.objs[a]? =some o:=by
  have lt:=eY.mp k.2;have k1:=k.1;rw[Array.getElem?_eq_getElem lt] at k1 ⊢;show congrArg some k1
 unfold Heap.get?;rw[g];let(c,d,j,B):=o
 cases j <;> first|rfl|show absurd z (by simp[alive])
def abD{w:e_}{os:Mn}{r:RR}(h:Wj topGo segRunT treeTable w os=some r)(h1:r.1= .next)(h2:r.2.2.1=cdP)(z:r.2.2.2=z9):
  topRun treeTable P0 w 11 an (12+(1+(5420+2))) (b0 w os) (topStub P0)=some r.2.1.abs:=by
 have k:=congrFun (k0 w) os;rw[←sL,←iH,←GU] at k;let((sa,ta),j,B):=ot.mp k;injection B with g D;have g:ta=_:=g;subst g;show go_top j ?_;unfold Wj at h;rw[j] at h;have h:=segRun_of (s':=r.2.1) (f:=r.1) (c:=r.2.2.1) (q:=r.2.2.2) h;rw[aa7 D,h1,h2,z] at h;have b:=k5 w sa;rw[←GR,←iH] at b;show piece_block b ?_;have c:=k6 w r.2.1.abs;rw[←GS,←iH] at c;have d:=piece_app (rest:=[]) h (piece_nil c);rw[fL] at d;show d
def left:LeftO P0 qv lo (recOk []) (λs=>fK (fr s)) eK (12+(1+(5420+2))):=λw=>by
 let((h,gs,d,k,os),e,J):=ot.mp (boot_open (N:=12+(1+(5420+2))) k8 rfl k9 w);obtain⟨rfl,rfl,rfl,rfl⟩:h=ny w.params/\gs=NI []/\d=boot_drawn/\k=boot_toks:=by simpa using J
 let(r,j,_):=ot.mp (qk kC0 kC1 w os);have D:=qr kC0 kC1 j;have g:=qr kA0 kA1 j;have B:=qr kB0 kB1 j;have z:=qr kD0 kD1 j;simp only[gA,eA,gB,eB,gC,eC,gD,eD,afQ,iM,←uc,Oo] at g B D z;let(M,O,Q,U):=D;obtain⟨Y,Z,z3⟩:_/\_/\_:=by simpa only[Oo] using k7 w
 have t:topFrom treeTable P0 w (12+(1+(5420+2))) (b0 w os)=some r.2.1.abs:=by
  unfold topFrom;change(match (ny w.params).isNs mainGlobals && (NI []:Array GenState).size==0 with|true=>(topRun treeTable P0 w (ny w.params).objs.size ((ny w.params).nsMap mainGlobals "__annotations__") (12+(1+(5420+2))) (b0 w os) (topStub P0)).bind _|false=>none)=_
  rw[Y,Z,z3,abD j M O Q];change(match staticsOk (importedModules P0.main.body) (ny w.params) r.2.1.abs.heap && namesBound P0 r.2.1.abs.heap && gensDone r.2.1.abs && laidKept (ny w.params) r.2.1.abs.heap with|true=>_|false=>_)=_
  rw[g.2.2.2.2]
 unfold openEnds;rw[e];change(topFrom treeTable P0 w _ (b0 w os)).map _=_;rw[t];show congrArg some (w6 (aiQ z.2.1 g.2.1 g.1 z.1 B.2 B.1 g.2.2.1 z.2.2 g.2.2.2.1) ?_);change fK (fr r.2.1.abs)=_;rw[aeh];show U
abbrev YP(w:e_)(h:jj):Prop:=∃K:yl,K.In h/\obB K=true/\tF.map (λx=>clr (fD K x))=tF.map exF/\tD.map (dH K)=tD.map (exH w)
def agu{r:OpenSpec}{k:Nat}{q:fm}{loose:List bV}{XP:(bV->Option bM)->jj->Prop}{YP:e_->jj->Prop}{d:DefRec}{ps:List bV}{sp:yl->Sp}
  (j:r.wellSaid=true)(hlen:↑r.args=↑ps)(Z:vT k callerA)
  (F:∀(w:e_) (mg:bV->Option bM) (M:aW) (h:jj),YP w h->h.Ns mainGlobals mg->mg d.name=some (.ref M)->
   ∃(K:yl) (fd:bX),K.In h/\(∀(s:b9) (us:List bM),↑us=↑ps->Rm s fd (us,[]) (ps.zip us))/\∀base:jj,K.In base->base.Ns mainGlobals mg->gu r.prog w K mg base pS k M fd ps (sp K))
  (N:∀(K:yl) (H:Hp) (xs:List V) (a:Dn r.args),VU H->Codec.withinAll r.args a=true->Py r.args r.asked a=true->Ep K H xs (yo r.args a)->
   sp K xs H (λv H'=>Dw K H' v (r.ret.enc (Py r.args r.f a))) λ_ _ _=>False):
  WalkOS q loose XP YP r d [] (λf vs=>PySem.call f vs):=by
 intro w s_0 s₁ mg mb G Y M o pm cd doc dV kV ho hd ah hD O hg args vals as B D ar Q av;let(a,e1,e2):=os_pre_some B;let(e3,J):=Codec.encAll_of_decAll r.args args a e1;subst e3;let(K,fd,KX,hb,hF):=F w mg M _ Y G.T.g O
 show enter_call (C0 (WJ (R:=[]) (cl:=classAt s_0.heap) (d0:=r.ret.enc (Py r.args r.f a)) KX G.T.g G.T.b G.T.builtins G.T.nolimit hg Q (OX _ _) (MT D) Z hF hb (by rw[MI];show hlen)
  (λH xs hO hS=>N K H xs a hO J e2 hS) λH e s' z=>z) λr' s' hq=>?_)
 let(u,U,rfl,h1,h2,h3,h4):=hq;show(.inl (u,_,U,rfl,λ_=>rfl,h1,(OpenSpec.post_iff j J _ _).mpr rfl,λz=>fM (show false=true from z)),h2,h3,h4)
end Pt
open PySem PySem.W PyProof.Rows in
theorem PySem.Challenge.cw_pathtimes_s01_answers_holds : PySem.Challenge.rw_pathtimes_s01_answers.Holds := by
 show holds_os (q:=Pt.qv) (loose:=Pt.lo) (Xt:=recOk []) (XP:=λ_ _=>True) (YP:=Pt.YP) (kwd:=[]) Pt.left (λw s e=>?_) (λw h h' (K,a,b) k=>(K,a.keeps k,b)) (λ_ _=>trivial) (λ_ _ _ _ _=>trivial) (by rfl) (by rfl) (by rfl) (λs e=>recFacts_of e) os_shapes (by decide+kernel) (by decide+kernel) (rfl,rfl,rfl,rfl,rfl,by decide+kernel) ([.list []],by decide+kernel,by decide+kernel) ?_
 ·injection e with e1 e;injection e with e2 e;injection e with e3 e4;show(_,Pt.afM e2,e1,e3,e4)
 show Pt.agu (k:=11) (ps:=["calls"]) (sp:=Pt.acz) (by decide+kernel) rfl (rfl,by decide,by decide) ?F ?S
 case F=>
  intro w mg fa h (K,X,Z,E,H) G hmg;have T:=Pt.ait (P:=PySem.Challenge.rw_pathtimes_s01_answers.prog) (w:=w) X G Z E H;have e:=Option.some.inj (hmg.symm.trans T.Ww);injection e with e;subst e
  show(K,_,X,λs us hu=>by
   obtain⟨oc,od,kV,doc,pm,an,cdv,ct,osl,e,-,-⟩:=T.OC.ex;rw[e];show match us,hu with|[_],_=> .of_eq rfl,λbase _ _=>Pt.Ur T)
 case S=>
  intro K H xs a hO hwi hask hx
  cases hx with
  |cons h1 h2=>
   cases h2
   cases h1 with
   |lst hs ha=>
    have e:=L2.Wb a.1 _ ha;subst e;have q:((Codec.inLen 0 30000 a.1 && a.1.all (Codec.inInt (-2147483648) 4294967295)) && true)=true:=hwi;rw[Bool.and_eq_true,Bool.and_eq_true] at q;show(_,a.1,rfl,hs,(Codec.inNat_iff.mp q.1.1).2,hask,λH' p hp=> .lst (L2.dg.of hp) (L2.VP _))
