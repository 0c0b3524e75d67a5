import PyProof.Rows.All
import Wide.All
import OpenK.AllK
import Wide.FinOn
import PyProof.EqAt
import PyProof.EqKinds
import PyProof.TupleCall
import KE.BitLaws
import KE.OsGo
import Sn38Spec
import KE.KTryDeep
import PyProof.MaxThree
import PyProof.Rows.CallKwBuiltin
import KE.KRevSl
import KE.KMinKey
import OpenK.KOwn
import PyProof.ExcBaseAll.ValueError
import KE.IntTextLaws
import PySn38
import PySem.Challenge.RW_singlenet_s01_answers
set_option Elab.async false
set_option compiler.extract_closed false
set_option linter.all false
set_option maxRecDepth 100000
set_option tactic.hygienic false
set_option relaxedAutoImplicit true
set_option autoImplicit true
def au1(_:0=0:=by rfl):=0
def au2(_:0=0:=by decide):=0
def au3(_:0=0:=by intro _;rfl):=0
def auR:=au1._auto_1
def auD:=au2._auto_1
def auI:=au3._auto_1
noncomputable section
local macro_rules|`(command|$d:definition)=>`(command|noncomputable $d:definition)
open Array renaming length_toList->RJ,getElem?_eq_some_iff->YO,getElem?_eq_none->adK,toList->aeu
open Bool renaming and_eq_true->CH,false_ne_true->DR,false_eq_true->NW,eq_iff_iff->Lv,or_eq_true->RT,false_and->aeJ,and_false->aeg,true_and->aex
open Classical renaming byContradiction->P2
open False renaming elim->Hw
open ForInStep renaming yield->Z9
open Function renaming comp->af0
open Int renaming natCast_mul->CK,natAbs_natCast->Fe,toNat_natCast->Fw,natCast_ediv->IT,natCast_add->IV,eq_ofNat_of_zero_le->NU,zero_add->IW,natAbs_mul->Ku,le_trans->Kp,toNat->Hv,natCast_nonneg->U3,le_max_left->RS,mul_neg_of_neg_of_pos->nJ,mul_assoc->RZ,natAbs_eq_zero->Yg,neg_mul->Pc,natAbs_add_le->YY,max_eq_left->Z6,mul_comm->UL,mul_nonneg->Yt,fdiv_eq_ediv_of_nonneg->ad6,one_mul->US,le_max_right->ng,ofNat_lt->ZJ,mul_ediv_add_emod->adl,add_mul->ZM,toNat_sub->o_,add_zero->oo,ofNat_le->oZ,max_eq_right->ads,min_eq_right->adt,natCast_emod->aeW,mul_eq_zero->aeK,natCast_pow->aeL,toNat_add->aee,zero_mul->aeo,le_of_lt->aep
open List renaming range->A8,length_map->AV,replicate->Ar,length_cons->B4,length_range->BJ,mem_cons_of_mem->Ba,mem_cons->B2,mem_range->BD,length_append->Bo,mem_cons_self->Bu,mem_singleton->C5,length_zip->Br,map_cons->BW,getElem?_eq_getElem->E8,mem_of_getElem?->DS,getElem?_map->D0,size_toArray->DH,not_mem_nil->DG,mapM_cons->Cm,map_map->CA,zip_cons_cons->EA,length_drop->Di,getElem?_eq_some_iff->Gu,nodup_cons->DT,mem_map->Ca,getD_eq_getElem?_getD->IQ,getElem_range->FC,length_replicate->GN,map_append->E9,length_take->EW,all_eq_true->EY,mem_of_mem_take->GO,ext_getElem->FE,flatMap_cons->Fx,mem_of_mem_drop->Hn,flatten_cons->GP,filterMap_cons->Ho,getElem?_zip_eq_some->Kl,append_assoc->Hs,mem_append_right->Jl,of_mem_zip->GX,length_zipIdx->JB,length_singleton->Km,mem_append->Hr,getElem_mem->IU,take_of_length_le->Lk,append_nil->JD,getElem_map->Jm,map_congr_left->Lm,replicate_succ->Ln,flatMap_eq_nil_iff->P5,nil_append->Ko,length->Hy,getElem?_append_right->U2,getElem_of_mem->PL,reverse_cons->PH,length_nil->Na,length_reverse->RK,getElem?_set_self->Tw,map_nil->Kr,map_flatMap->P7,lookup_cons->P8,drop_zero->Nh,getElem?_eq_none->U7,drop_eq_getElem_cons->YQ,range_succ->PZ,flatten->Lx,mem_append_left->U9,getElem?_set_ne->UA,reverse->Lz,flatMap_append->UC,getElem?_range->UD,mem_flatMap->RQ,drop_drop->PN,find?_cons->RU,map_take->PR,lookup->Nf,getElem?_zipIdx->YJ,map_flatten->UH,getElem?_eq_none_iff->nK,getElem?_append_left->nL,any_cons->R_,getElem?_replicate->mw,flatMap_singleton->nF,getElem_take->YZ,getElem_drop->Y_,nodup_nil->UE,drop_of_length_le->nI,getElem_replicate->ml,take_append_drop->mr,cons_append->Yw,drop_length->Yy,take_length->Z1,getElem_zip->Z4,take->Nq,map_drop->UN,all_cons->UP,map->M4,getLast?_eq_some_getLast->ad7,length_set->Z8,all_append->Ys,flatten_append->nU,range_add->Yu,mem_filterMap->nV,forIn_nil->Yk,filterMap_eq_nil_iff->adN,getElem?_take_of_lt->adF,zipIdx_cons->ni,flatMap_nil->nq,mem_flatten->nv,zip_map->ZT,flatten_singleton->adi,map_set->ZU,drop_eq_nil_of_le->adj,foldl_cons->oN,mem_filter->oO,forIn_cons->oQ,zipIdx_nil->oS,getElem?_toArray->adX,take_zero->oI,getElem_reverse->ade,take_succ_cons->adS,length_pos_iff->adT,toList_toArray->adU,getElem_zipIdx->ae7,take_nil->oj,filterMap_map->aeE,map_filterMap->aeF,mem_replicate->aeG,take_add_one->ae2,flatMap_map->adu,drop->Zb,map_reverse->aea,all_toArray->aeb,foldl->pM,take_succ->aek,mapM_nil->aey,sum_cons->af1,mapM->pO,all_map->aew,map_id'->af9,toArray->afA,map_id->afD
open Nat renaming le_trans->Ao,mul_le_mul_right->Bj,two_pow_pos->BF,mul_assoc->B6,le_refl->Az,add_mul->BE,lt_of_lt_of_le->CT,mul_comm->BV,pow_add->BP,one_mul->BQ,le_mul_of_pos_right->Ep,pow_le_pow_right->EL,mul_le_mul_left->EX,lt_of_le_of_lt->FD,le_mul_of_pos_left->Hm,add_sub_cancel_left->IS,ne_of_lt->DU,div_eq_of_lt->Ff,exists_eq_add_of_le->JA,mod_eq_of_lt->Fh,mul_lt_mul_of_pos_right->Kk,zero_mul->Du,le_add_right->Fy,mod_lt->D5,zero_add->EM,mul_pos->EC,div_add_mod->Gx,mul_add_div->Gz,mul_le_mul->GQ,pow_succ->FH,add_comm->Fi,zero_le->Er,lt_irrefl->GR,pow_lt_pow_right->Lj,div_lt_iff_lt_mul->NX,le_of_mul_le_mul_right->RF,le_add_of_sub_le->NV,le_of_lt->Ht,mul_add_mod->Kn,mul_lt_mul''->Ls,lt_of_mul_lt_mul_right->U0,eq_of_mul_eq_mul_right->U1,div_div_eq_div_mul->RM,add_zero->JE,mul_add->I_,add_sub_cancel->PB,lt_trans->Jr,add_le_add_right->RI,min_le_left->NY,le_max_left->NZ,min_eq_left->Nb,div_le_self->Nc,le_of_eq->Kq,mul_div_cancel->RV,le_div_iff_mul_le->U6,sub_le_of_le_add->U8,ne_of_gt->Ly,lt_succ_self->RR,testBit_mul_two_pow->YM,sub_le->Kx,sub_sub_sub_cancel_right->mj,add_assoc->PQ,sub_eq_zero_of_le->YH,eq_of_testBit_eq->YI,sub_succ_lt_self->YK,le_sub_of_add_le->YL,pow_lt_pow_iff_right->nM,not_lt->Nj,pos_of_ne_zero->Yh,testBit_mod_two_pow->mz,testBit_div_two_pow->nB,sub_self->RX,mul_zero->RY,le_of_succ_le->Yb,lt_succ_of_lt->Yc,add_sub_add_right->mn,add_mod_left->YU,min_le_right->YV,le_max_right->YW,min_eq_right->Z2,mod_mul->Ri,mul_eq_zero->Z5,testBit_and->Yo,le_antisymm->Yp,max_le->Rg,lt_trichotomy->oB,mul_mod_left->nZ,not_le->UR,and_mod_two_eq_one->adh,add_lt_of_lt_sub'->adm,add_lt_add_right->adY,add_le_of_le_sub->adZ,one_pos->ZQ,sub_le_sub_right->adb,sub_sub->ZR,sub_one_add_one->adg,testBit_two_pow->ae6,log2->Ub,zero_lt_of_lt->aeI,lt_log2_self->ado,log2_self_le->adp,succ_ne_zero->adq,sub_add_comm->adv,le_of_not_lt->ae_,log2_lt->oz,mul_pow->p5,le_succ->p6,and_div_two->aeO,le_add_left->aeQ,add_lt_add->aej,zero_div->aeq,le_total->aer,mul_succ->aes,pow_zero->aet,succ_mul->aev,xor_self->ael,zero_and->aem,sub_zero->aen
open Nat.succ renaming inj->ZS
open Ne renaming symm->Ct
open NeutralIO renaming within->aed
open Option renaming bind_some->Aq,map_some->Gy,map_map->RP,bind_eq_bind->Yf,map_eq_some_iff->nG,pure_def->Yq,toList_some->oA,isSome_iff_exists->adE,map->U_,map_eq_none_iff->adk,map_none->oM,none->ZP,isSome_some->aeC,isSome_map->ady,getD_none->aeV,some->afE
open Option.some renaming inj->GW
open Or renaming inl->A6,inr->C1
open Prod renaming fst->HN,snd->Jw,swap_prod_mk->ae3,map->pR
open PyFlat renaming row->GZ,calls->Js,rows->Jp,call->Rj
open PyProof.Rows renaming callWith_type1->P4,envOfC->HP,kindOf->IA,bitAnd_pp->Np,subscriptTail->UO,AllBare->M5,two_pow_cast->ZA,Subscript_->UQ,subscriptTail_builtinR->adC,callWith_builtin1->avX,iadd_int->aeU,signs_ofString->avV,boot_range->ox,join_tuple->awF,join_list->awC,split_le->awI
open PySem renaming Addr->A0,wpAny_bind->AN,Value->A5,Shared->AA,sizeLine->Al,wpAny->AJ,starEach->B0,wpAny_pure->BN,model->AU,boot_len->Dt,mem_of_lookup->Gw,Program->Bs,cellsFrom->DK,eval->As,compEnvC->D6,Around->CB,World->Bg,Heap->B5,Expr->B7,bootBuiltins->IX,wpAny_mono->GY,wpAny_truthy_bool->Nd,wpAny_seqItems->Kw,wpAny_field->IZ,backTo->D7,wpAny_Call_Name_kw->PD,attributeBase->Kt,foldedSetIterable->PF,NameKind->Ga,compareOp->Ic,wpAny_passesOwn->P_,wpAny_pyIter_list->RW,sysModules->Jv,sliceBounds->Lw,wpAny_setField_rec->U5,binaryOp->Ib,behindInMarks->PU,wpAny_holding->PX,plainId_quiet->PY,wpAny_tryCatch->RO,holding->I0,pushCells->L1,wpAny_getItem_list_slice->nN,wpAny_execs_nil->UI,pushCells_keeps->UJ,codeAny_builtin->UK,assignEach->Nk,call_meets->Nl,swapsWith->M2,keywordEach->Pa,wpAny_letGo->Pb,codeAny->JF,slot_list_getitem->Ya,wpAny_newObj_type->Yd,wpAny_nextOf_list_item->nH,Stmt->D8,getMethod->Nn,wpAny_pyIter_zip->Yx,bindArgs->M3,letOwnedTupleGo->Z7,wpAny_updateSeq->Ym,Scope->G3,argBest->L3,pyNext->JG,typeIs_str->Rf,tupleKind_room_in1->nP,IsZip->Gb,wpAny_letOwnedTupleGo_zip->adM,mainGlobals->UT,standAt->M6,wpAny_assign_Name->oE,wpAny_standAt->ZL,rawInt->Jx,evalPart_none->ZE,evalPart_some->ZF,comprehension->ZG,wpAny_comprehension_free->adG,wpAny_onRaise->ZH,wpAny_execs_cons->n_,backToKw->Pd,noteFrame->Rl,compPost->Pe,intItems->Pf,wpAny_callSpecial?_slot->adJ,wpAny_pyNext_list_item->ad8,wpAny_pyNext_range_end->ad9,wpAny_pyIter_rangeiter->adA,codeAny_mono->ZC,codeAny_compStart_list->adD,numAt->Ie,wpAny_isTrue_Compare1->adn,wpAny_pyNext_list_end->adV,exec_Assign_Name_used->adW,Paired->M7,wpAny_loadName_local->ada,assign->M8,IsRangeIter->ZN,call->HQ,FuncData->Rp,callWith->Rq,subscripted->ZO,wpAny_setField->oJ,tupleKind->UY,notedBy->Pg,valueAt->Ph,wpAny_loadName_cell->adO,evalArgs_none->adQ,wpAny_pyIter_range->aeA,rule->Gc,PyData->Nr,getattributeRaised->aeD,wpAny_rule->ZY,Within->oU,cLine->L4,getItem->Rr,seqIndex_neg->oY,wpAny_pyIter_enum->adz,callerA->Rt,slicePick->Za,wpAny_call_entry->aeY,sizeLine_eq->p7,wpAny_Slice->p8,seqIndex_of->p9,atKey->M9,Builtin->Uc,builtinsNs->oq,isTrue->Ru,wpAny_Name->ot,bindL->Nt,bindC->Nu,typeLookup->pJ,typeIs_int->pK,PlainAttrs->pL,intText?->aeh,frameOf->pN
open PySem.Around renaming under_plainId->UB,under->oW
open PySem.Builtin renaming bitAnd->Hq,bitOr->Lo,bitXor->Yv,bitNot->aei
open PySem.Builtin.Builtins renaming bindParams->ad2
open PySem.Builtin.Dict renaming updateFrom->adI,addKeywords->ave,selfAndRest->avf,pairItems->awE
open PySem.Builtin.Int renaming intBits->PK
open PySem.Builtin.List renaming listTooLong->YS,listFitsIndex->aw7
open PySem.Builtin.Range renaming rangeSize->Tx,small->adR,rangeFitsLong->avW
open PySem.Builtin.SmallTypes renaming ownedTupleIsFree->YF,nextOf->YR,ownedTupleHandOut->ad1
open PySem.Builtin.Str renaming strKind->Jk,occurrences->mx,partsBetween->adH
open PySem.Calls renaming callWith_builtin->YN,evalArgs_plain->nX,Name_function_global->ad5,spliced_cons->aeB,spliced_nil->adx
open PySem.Challenge renaming rw_singlenet_s01_answers->YG,pw_singlenet_s01_answers->avU
open PySem.CmpOp renaming NotIn->af7
open PySem.Code renaming isFrame->oX,frames->af3
open PySem.EntryCells renaming newEntry->nS
open PySem.EqMixed renaming eq_bool_str->awB,eq_str_bool->avg,ne_bool_str->avq,ne_str_bool->avr,eq_int_str->avy,eq_str_int->aw3,ne_int_str->avb,ne_str_int->avd
open PySem.EqNone renaming eq_none_none->aw8,eq_none_bool->aw9,eq_bool_none->awA,ne_none_none->avm,ne_none_bool->avn,ne_bool_none->avp,eq_none_int->avs,eq_none_str->avw,eq_int_none->avx,eq_str_none->avz,ne_none_int->avY,ne_none_str->avZ,ne_int_none->ava,ne_str_none->avc
open PySem.F renaming plainAttrs_list->Fd,slot_list_append->Gv,type_list_append->Hk,slot_int_bit_length->RG,type_int_bit_length->RH,plainAttrs_int->RN,plain_max_loop->P9,slot_list_extend->Tz,type_list_extend->YT,slot_list_getattribute->mi,slot_str_split->Yz,slot_zip_next->Yn,slot_str_startswith->ad3,type_str_startswith->ad4,args_str_split_2->nQ,entry_max_loop->nW,excBase_ValueError->adL,entry_str_split->oG,args_zip_next_1->ae1,plainAttrs_str->aeX,entry_zip_next->aeZ,slot_int_rmul->aeN
open PySem.Heap renaming get?_push_of_some->BK,get?_push_size->C_,lt_size->BZ,get?_update_other->Hl,size_push->FG,get?_update_self->P6,SameBut->UM,get?_none_of_le->ad_,IsList->pH
open PySem.Heap.IsList renaming push->nk
open PySem.Heap.IsSliceOf renaming new->nO
open PySem.Heap.SameBut renaming update->awP
open PySem.IsRange renaming new->af2
open PySem.NameKind renaming free->Ra,cell->oa
open PySem.NumText renaming digitsVal->ae4
open PySem.Obj renaming mapFields->Ni,data_mapFields->Yi,isFreed_of_fields->mq,mapSeq->Rc
open PySem.Paired renaming length->ZK,snoc->afC
open PySem.PyData renaming str->Nm,depthAll->Yr,eqvAll->om,canLayAll0->ae5,list->afF,int->afG
open PySem.SeqAt renaming shaped->ZD,EqAt->afJ
open PySem.SeqAt.EqAt renaming int_str->ae8,str_int->ae9
open PySem.Shared renaming heap->pI
open PySem.Str renaming ofString->EB,join->pQ
open PySem.Txt renaming split->M0,startswith->UG,isdigit->UU,join->Zc
open PySem.Unicode renaming isDigit->aeR
open PySem.Value renaming ref->Cc,none->Ky,bool->Rh,int->Rk,str->ZX,isStrOf->aef,isInt->af4,bytes->af5,float->af6,type->afI
open PySem.W renaming Frag->Ae,fnOf->Hu,emptyDict->Ll,findIn->Kv,keepIn->Lr,instObj->N_,callWith_K->U4,methodCall_KW->mo,plainGet->YX,handedIn->Ye,plainGet_of->nR,lookIn->Yj,codeIn->Yl,methodObj->oC,hasDictIn->oF,cellsFrom_some->adB,takerIn->oP,findCls->oR,callWith_K0->adP,excIn->oh,ofPys_ints->aeH,isFn->oV,plainOver->adw,specialIn->ae0,makesIn->aeM,readsIn->aeP,ofPy->afB
open PySem.W.Codec renaming decAll->awR
open PySem.W.Dflts renaming none->awW,noKw->awd
open PySem.W.Looks renaming here->awe
open PySem.W.WData renaming int->oH
open PySem.W.WShape renaming hasAll->awG
open PySem.Walks renaming range->af8,list->afH
open PySem.Within renaming cons->al5
open PySn38 renaming whole->GU,shape->HJ,answers_asked->nY,calls->ZW,answers->oK
open Sn38 renaming count->AK,at_->Ab,splitBy->BI,Shape->BA,weights->Bk,number->BY,addUp->Bf,mul->BC,after->Bv,ascii->C0,moved->CL,index->CM,Layer->Cb,fine->CN,backwards->Fj,Net->CI,step->DL,add->DJ,layer->FI,forward->HM,sized->Fl,negative->IY,ONE->ED,Row->EE,Bytes->G0,finite->HK,forwards->JC,places->Hz,signBit->Jq,opposite->Ks,greatest->Lp,layerAt->Ng,sub->Ia,root->Ju,less->Jt,weightAt->PM,plan->M1,div->L0,digit->Rn,train->Ro,graded->UW,pushed->UX,ease->Rm,rounded->ZI,whole->UZ,eased->Ua,linesOf->ZV,each3->ZZ,zeros->Z_,shapes->oy,F->Rv,backward->aez,Plan->pP,Ans->pS
open Sn38.Layer renaming dense->aec,conv->aeS,pool->aeT
open Sn38Neutral renaming word->GV,nats->Jn,step->Jo,upTo->Lu,int->Lq,fine->PJ,askedOne->adf
open Sum renaming inl->G_,inr->Pj
open True renaming intro->Rb
def rE{P:Prop}(h:∀Z:Prop,(P->Z)->Z):P:=h P id
inductive EN{α β:Type}(p:α->β->Prop):Prop
 |mk (a:α) (b:β) (h:p a b):EN p
inductive Eb{α β γ:Type}(p:α->β->γ->Prop):Prop
 |mk (a:α) (b:β) (c:γ) (h:p a b c):Eb p
inductive Io{α β γ δ:Type}(p:α->β->γ->δ->Prop):Prop
 |mk (a:α) (b:β) (c:γ) (d:δ) (h:p a b c d):Io p
inductive Es{α β γ δ ε:Type}(p:α->β->γ->δ->ε->Prop):Prop
 |mk (a:α) (b:β) (c:γ) (d:δ) (e:ε) (h:p a b c d e):Es p
inductive Et{α β γ δ ε ζ:Type}(p:α->β->γ->δ->ε->ζ->Prop):Prop
 |mk (a:α) (b:β) (c:γ) (d:δ) (e:ε) (f:ζ) (h:p a b c d e f):Et p
structure D1(a b c:Prop):Prop where
 aa:a
 bb:b
 cc:c
structure Fm(a b c d:Prop):Prop where
 aa:a
 bb:b
 cc:c
 dd:d
structure Im(a b c d e:Prop):Prop where
 aa:a
 bb:b
 cc:c
 dd:d
 ee:e
structure S_(a b c d e f:Prop):Prop where
 aa:a
 bb:b
 cc:c
 dd:d
 ee:e
 ff:f
structure ME(a b c d e f g:Prop):Prop where
 aa:a
 bb:b
 cc:c
 dd:d
 ee:e
 ff:f
 gg:g
structure Cn(a b c d e f g h:Prop):Prop where
 aa:a
 bb:b
 cc:c
 dd:d
 ee:e
 ff:f
 gg:g
 hh:h
def fU{x b c:Nat}(h:x<=b)(e:Nat.ble b c=true):x<=c:=Ao h (Nat.le_of_ble_eq_true e)
def ah4{x:Nat}{c:Int}(e:decide (c<=0)=true):c<=(x:Int):=Kp (of_decide_eq_true e) (U3 x)
set_option hygiene false in
local macro_rules | `(tactic| w_up) => `(tactic| refine rE fun Z0 LI => ?_)
set_option hygiene false in
local macro_rules | `(tactic| fin2) => `(tactic| (refine LI ?_; clear LI Z0))
local macro_rules | `(tactic| lia) => `(tactic| first | with_reducible assumption | exact fU (by with_reducible assumption) (by decide) | exact ah4 (by decide) | lia -splitMatch -matchEqs | lia (splits := 9))
namespace SN
def bl(n:Nat):Nat:=if n=0 then 0 else Ub n+1
def Bd(N D:Nat):Nat:=N/D+(if D<2*(N %D)\/(2*(N %D)=D/\N/D %2=1)then 1 else 0)
def enc(n d:Nat):Option Nat:=if 2139095040<=(d-149)*2^23+n then none else some ((d-149)*2^23+n)
def dr(f:Nat):Nat:=max (bl f-24) 149
def near(f:Nat):Option Nat:=enc (Bd f (2^dr f)) (dr f)
def L_(n:Nat):n<2^bl n:=by
 unfold bl;split
 .simp_all
 .exact ado
def aC(h:n≠0):2^(bl n-1)<=n:=by
 unfold bl;rw[if_neg h];exact adp h
def VT(h1:2^k<=n)(h2:n<2^(k+1)):bl n=k+1:=by
 have h0:n≠0:=by have:=BF k;lia
 unfold bl;rw[if_neg h0];have:Ub n=k:=(Nat.log2_eq_iff h0).mpr ⟨h1,h2⟩;lia
def Zd(h:n<2^k):bl n<=k:=by
 unfold bl;split
 .lia
 .rename_i h0;have:=(oz h0).mpr h;lia
def lW(N D c:Nat)(hc:0<c):Bd (N*c) (D*c)=Bd N D:=by
 unfold Bd;rw[Nat.mul_div_mul_right _ _ hc,Nat.mul_mod_mul_right];have e1:(D*c<2*(N %D*c))=(D<2*(N %D)):=by
  rw[show 2*(N %D*c)=2*(N %D)*c from by rw[B6]];exact propext ⟨λh=>U0 h,λh=>Kk h hc⟩
 have e2:(2*(N %D*c)=D*c)=(2*(N %D)=D):=by
  rw[show 2*(N %D*c)=2*(N %D)*c from by rw[B6]];exact propext ⟨λh=>U1 hc h,λh=>by rw[h]⟩
 simp only[e1,e2]
def zg(hD:0<D)(hB:0<B)(h:N*B=M*D):Bd N D=Bd M B:=by
 rw[<-lW N D B hB,h,BV D B,lW M B D hD]
def Wd(hD:0<D):Bd (n*D) D=n:=by
 unfold Bd;rw[RV _ hD,nZ,if_neg (by lia)];rfl
def XT(hD:0<D)(h:N<=n*D):Bd N D<=n:=by
 unfold Bd;have e:=Gx N D;have l:=D5 N hD;by_cases q:N/D<n
 .split<;>lia
 .have h1:N/D<=n:=by
   have:=Nat.div_le_div_right (c:=D) h;rw[RV _ hD]at this;exact this
  have h2:N/D=n:=by lia
  have h3:N %D=0:=by
   rw[h2,BV D n]at e;lia
  rw[h3,if_neg (by lia)];omega
def wK(hD:0<D)(h:n*D<=N):n<=Bd N D:=by
 unfold Bd;have:=(U6 hD).mpr h;lia
def auo(hB:0<B)(ak:0<dd):
 M/B/2^dd+(if 2^(dd-1)<M/B %2^dd\/(M/B %2^dd=2^(dd-1)/\(decide (M %B≠0)=true\/M/B/2^dd %2=1))then 1 else 0)=Bd M (B*2^dd):=by
 obtain⟨k,rfl⟩:∃k,dd=k+1:=⟨dd-1,by lia⟩;rw[PB];have hP:=BF k;have e2:2^(k+1)=2*2^k:=by rw[FH,BV]
 rw[e2];generalize 2^k=P at*;unfold Bd;rw[RM,Ri (a:=B) (b:=2*P)];have e:=D5 M hB;generalize M/(B*(2*P)) %2=o;generalize M/B %(2*P)=r;generalize M %B=s at*;have c:(P<r\/r=P/\(decide (s≠0)=true\/o=1))↔(B*(2*P)<2*(s+B*r)\/2*(s+B*r)=B*(2*P)/\o=1):=by
  have a1:B*(2*P)=2*(B*P):=by rw[Nat.mul_left_comm]
  have a2:P<r->B*P+B<=B*r:=λh=>by
   have:=EX B (show P+1<=r from h);rw[I_]at this;lia
  have a3:r<P->B*r+B<=B*P:=λh=>by
   have:=EX B (show r+1<=P from h);rw[I_]at this;lia
  rw[a1];rcases oB P r with h|h|h
  .have:=a2 h;constructor
   .intro _;left;lia
   .intro _;left;exact h
  .subst h;simp only[decide_eq_true_eq];constructor
   .rintro(z|⟨_,z|z⟩)
    .lia
    .left;lia
    .by_cases hs:s=0
     .right;subst hs;exact⟨by lia,z⟩
     .left;lia
   .rintro(z|⟨z,w⟩)
    .right;exact⟨trivial,.inl (by lia)⟩
    .right;exact⟨trivial,.inr w⟩
  .have:=a3 h;constructor
   .rintro(z|⟨z,_⟩)<;>lia
   .rintro(z|⟨z,_⟩)<;>lia
 simp only[c]
def l_{m M B N D E:Nat}{e:Int}(hE:(E:Int)=e+362)(hB:0<B)(hD:0<D)(hm:m=M/B)(tQ:more=decide (M %B≠0))(h0:m≠0)
 (u9:more=true->2^24<=m)(hN:N*2^64*B=M*D*2^E):
 ZI neg m e more=(enc (Bd N (D*2^dr (N/D))) (dr (N/D))).map (Jq neg+ ·):=by
 have CP:2^Ub m<=m:=adp h0;have D4:m<2^(Ub m+1):=ado;generalize hk:Ub m=k at*;have tZ:2^k*B<=M:=by rw[hm]at CP;exact(U6 hB).mp CP
 have t_:M<2^(k+1)*B:=by rw[hm]at D4;exact(NX hB).mp D4
 have aW:2^(k+E)*D<=N*2^64:=by
  refine RF (c:=B) ?_ hB;rw[hN,BP]
  calc 2^k*2^E*D*B=(2^k*B)*D*2^E:=by ac_rfl
   _<=M*D*2^E:=Bj _ (Bj _ tZ)
 have aX:N*2^64<2^(k+1+E)*D:=by
  refine U0 (a:=B) ?_;rw[hN,BP]
  calc M*D*2^E<(2^(k+1)*B)*D*2^E:=Kk (Kk t_ hD) (BF E)
   _=2^(k+1)*2^E*D*B:=by ac_rfl
 have hd:dr (N/D)+64=max (k+1+E-24) 213:=by
  unfold dr;by_cases hs:k+E<64
  .have:N/D=0:=by
    refine Ff ?_;refine U0 (a:=2^64) ?_;refine CT aX ?_;rw[BV D];exact Bj _ (EL (by decide) (by lia))
   rw[this,show bl 0=0 from rfl];lia
  .obtain⟨j,hj⟩:∃j,k+E=j+64:=⟨k+E-64,by lia⟩;have b:bl (N/D)=j+1:=by
    refine VT ?_ ?_
    .refine(U6 hD).mpr (RF (c:=2^64) ?_ (BF 64))
     calc 2^j*D*2^64=2^(k+E)*D:=by rw[hj,BP];ac_rfl
      _<=_:=aW
    .refine(NX hD).mpr (U0 (a:=2^64) (CT aX (Kq ?_)));rw[show k+1+E=j+1+64 by lia,BP];ac_rfl
   rw[b];lia
 generalize hde:dr (N/D)=d at*;have akW:149<=d:=by lia
 have akY:k+1+E<=d+88:=by lia
 have akZ:d≠149->k+1+E=d+88:=by lia
 clear hd;have aU:0<D*2^d:=EC hD (BF d);have gW:Bd N (D*2^d)<=2^24:=by
  refine XT aU (RF (c:=2^64) (Ht (CT aX ?_)) (BF 64))
  calc 2^(k+1+E)*D<=2^(24+d+64)*D:=Bj _ (EL (by decide) (by lia))
   _=_:=by rw[BP,BP];ac_rfl
 have gU:d=149\/2^23<=Bd N (D*2^d):=by
  by_cases z:d=149
  .exact .inl z
  .refine .inr (wK aU (RF (c:=2^64) (Ao (Kq ?_) aW) (BF 64)));rw[show k+E=23+d+64 by lia,BP,BP];ac_rfl
 have hq:max (e+((k+1:Nat):Int)-24) (-149)=(d:Int)-298:=by lia
 have hn:(if(d:Int)-298<=e then m*2^(e-((d:Int)-298)).toNat else
  m/2^(((d:Int)-298)-e).toNat+(if 2^((((d:Int)-298)-e).toNat-1)<m %2^(((d:Int)-298)-e).toNat\/(m %2^(((d:Int)-298)-e).toNat=2^((((d:Int)-298)-e).toNat-1)/\(more=true\/m/2^(((d:Int)-298)-e).toNat %2=1))then 1 else 0))
  =Bd N (D*2^d):=by
  by_cases hc:(d:Int)-298<=e
  .rw[if_pos hc];have nm:M %B=0:=by
    cases more with
    |false=>simpa using tQ
    |true=>
     have:=u9 rfl;have h24:24<=k:=by
      have:2^24<2^(k+1):=by lia
      have:=(nM (by decide:1<2)).mp this;lia
     lia
   have eM:M=m*B:=by
    have:=Gx M B;rw[nm,<-hm]at this;rw[BV];lia
   have e1:(e-((d:Int)-298)).toNat=E-(d+64):=by rw[show e-((d:Int)-298)=(E:Int)-((d+64:Nat):Int) by lia,o_]
   rw[e1];have eN:N*2^64=m*D*2^E:=by
    refine U1 hB ?_;rw[hN,eM];ac_rfl
   have:N=m*2^(E-(d+64))*(D*2^d):=by
    refine U1 (BF 64) ?_;rw[eN]
    calc m*D*2^E=m*D*2^(E-(d+64)+d+64):=by rw[show E-(d+64)+d+64=E by lia]
     _=_:=by rw[BP,BP];ac_rfl
   rw[this,Wd aU]
  .rw[if_neg hc];have e1:((d:Int)-298-e).toNat=d+64-E:=by rw[show(d:Int)-298-e=((d+64:Nat):Int)-(E:Int) by lia,o_]
   rw[e1,tQ,hm,auo hB (by lia)];refine zg (EC hB (BF _)) aU ?_;refine U1 (BF E) ?_
   calc M*(D*2^d)*2^E=(M*D*2^E)*2^d:=by ac_rfl
    _=N*2^64*B*2^d:=by rw[hN]
    _=N*B*2^(d+64-E+E):=by rw[show d+64-E+E=d+64 by lia,BP];ac_rfl
    _=_:=by rw[BP];ac_rfl
 unfold ZI;rw[if_neg h0];simp only[hk,hq,hn];generalize Bd N (D*2^d)=n at*;unfold enc;generalize Jq neg=sb;clear hn hq akY akZ aW aX tZ t_;obtain⟨j,rfl⟩:=JA akW;rw[IS];by_cases c1:n=2^24
 .subst c1;simp only[if_true];rw[if_neg (by decide)];by_cases c2:253<=j
  .rw[if_pos (by lia),if_pos (by omega),oM]
  .rw[if_neg (by lia),if_neg (by lia),Gy];refine congrArg some ?_;have:(((149+j:Nat):Int)-298+1+150).toNat=j+2:=by rw[show((149+j:Nat):Int)-298+1+150=((j+2:Nat):Int) by lia,Fw]
   rw[this];show(_:Nat)=_;lia
 .simp only[c1,if_false];by_cases c3:n<2^23
  .have d1:j=0:=by lia
   rw[if_pos c3,d1,if_neg (by lia)];simp only[RX,Du,EM,Gy]
  .rw[if_neg c3];by_cases c2:254<=j
   .rw[if_pos (by lia),if_pos (by lia),oM]
   .rw[if_neg (by lia),if_neg (by lia),Gy];refine congrArg some ?_;have:(((149+j:Nat):Int)-298+150).toNat=j+1:=by rw[show((149+j:Nat):Int)-298+150=((j+1:Nat):Int) by lia,Fw]
    rw[this];show(_:Nat)=_;lia
def lZ{m:Nat}{e:Int}(he: -298<=e):ZI neg m e false=(near (m*2^(e+298).toNat)).map (Jq neg+ ·):=by
 by_cases h0:m=0
 .subst h0;have e1:near (0*2^(e+298).toNat)=some 0:=by
   rw[Du];decide+kernel
  rw[e1];unfold ZI;rw[if_pos rfl];rfl
 .have:=l_ (neg:=neg) (more:=false) (m:=m) (M:=m) (B:=1) (N:=m*2^(e+298).toNat) (D:=1) (E:=(e+362).toNat) (e:=e) (by lia) (by decide) (by decide) (by simp) (by simp[Nat.mod_one]) h0 (by simp) (by
   rw[show(e+362).toNat=(e+298).toNat+64 by lia,BP];simp[B6])
  rw[this];unfold near;simp
open Sn38 (whole negative finite signBit rounded)
def AI(x:Nat):Prop:=x<2^32/\finite x=true
def AR(x:Nat):Nat:=if x/2^23 %256=0 then x %2^23 else(x %2^23+2^23)*2^(x/2^23 %256-1)
def units(x:Nat):Int:=if 2^31<=x then-(AR x:Int)else(AR x:Int)
def Ke(x:Nat):(whole x).1*2^((whole x).2+149).toNat=AR x/\(whole x).1<2^24/\ -149<=(whole x).2/\(whole x).2<=105:=by
 unfold whole AR;have h1:x/2^23 %256<256:=D5 _ (by decide);have h2:x %2^23<2^23:=D5 _ (by decide);generalize x/2^23 %256=k at*;generalize x %2^23=f at*;by_cases hk:k=0
 .simp only[hk,if_true];refine⟨?_,by lia,by lia,by lia⟩;simp
 .simp only[hk,if_false];refine⟨?_,by lia,by lia,by lia⟩;rw[show((k:Int)-150+149).toNat=k-1 by lia]
def Mc(h:negative x=true):units x= -(AR x:Int):=by
 unfold units;rw[if_pos (by simpa[negative]using h)]
def Om(h:negative x=false):units x=(AR x:Int):=by
 unfold units;rw[if_neg (by simpa[negative]using h)]
def VX(x:Nat):(units x).natAbs=AR x:=by
 unfold units;split<;>lia
def Tt(h:near f=some s):s<2139095040:=by
 unfold near enc at h;split at h
 .cases h
 .injection h with h;lia
def SH(b:Bool)(h:s<2139095040):AI (signBit b+s):=by
 unfold AI signBit finite;simp only[bne_iff_ne,ne_eq];cases b
 .rw[if_neg (by decide)];show(0+s:Nat)<2^32/\¬((0+s:Nat)/2^23 %256=255);lia
 .rw[if_pos rfl];show(2^31+s:Nat)<2^32/\¬((2^31+s:Nat)/2^23 %256=255);lia
def HY:AI 0:=by unfold AI finite;decide
def aiY:AI (2^31):=by unfold AI finite;decide
def mul_eq(x y:Nat):BC x y=(near (AR x*AR y)).map (signBit (negative x !=negative y)+ ·):=by
 obtain⟨a1,a2,a3,a4⟩:=Ke x;obtain⟨b1,b2,b3,b4⟩:=Ke y;unfold BC;rw[lZ (by lia)];congr 2;rw[<-a1,<-b1,show((whole x).2+(whole y).2+298).toNat=((whole x).2+149).toNat+((whole y).2+149).toNat by rw[<-aee (by lia) (by lia)];congr 1;lia,BP];ac_rfl
def OS(h:BC x y=some z):AI z:=by
 rw[mul_eq]at h;cases e:near (AR x*AR y)with
 |none=>rw[e]at h;cases h
 |some s=>
  rw[e]at h;injection h with h
  subst h;exact SH _ (Tt e)
def mul_comm(x y:Nat):BC x y=BC y x:=by
 rw[mul_eq,mul_eq,BV];cases negative x<;>cases negative y<;>rfl
def aaq(he: -149<=e)(h:e<=(whole x).2):
 ((if negative x=true then-1 else 1)*(((whole x).1*2^((whole x).2-e).toNat:Nat):Int))*((2^(e+149).toNat:Nat):Int)=units x:=by
 obtain⟨a1,a2,a3,a4⟩:=Ke x;have e1:(whole x).1*2^((whole x).2-e).toNat*2^(e+149).toNat=AR x:=by
  rw[<-a1,B6,<-BP,<-aee (Int.sub_nonneg_of_le h) (by lia)];congr 3;lia
 have e2:((((whole x).1*2^((whole x).2-e).toNat:Nat):Int))*((2^(e+149).toNat:Nat):Int)=(AR x:Int):=by
  rw[<-CK,e1]
 by_cases n:negative x=true
 .rw[if_pos n,Mc n,RZ,e2];lia
 .rw[if_neg n,Om (by simpa using n),RZ,e2];lia
def add_eq(x y:Nat):DJ x y=if units x+units y=0 then some (if negative x=true/\negative y=true then 2^31 else 0)else
 (near ((units x+units y).natAbs*2^149)).map (signBit (decide (units x+units y<0))+ ·):=by
 obtain⟨a1,a2,a3,a4⟩:=Ke x;obtain⟨b1,b2,b3,b4⟩:=Ke y;have he: -149<=min (whole x).2 (whole y).2:=by lia
 have sx:=aaq (x:=x) (e:=min (whole x).2 (whole y).2) he (by lia);have sy:=aaq (x:=y) (e:=min (whole x).2 (whole y).2) he (by lia);unfold DJ;simp only[];generalize hE:min (whole x).2 (whole y).2=e at*;generalize(if negative x=true then-1 else 1)*(((whole x).1*2^((whole x).2-e).toNat:Nat):Int)=p at*;generalize(if negative y=true then-1 else 1)*(((whole y).1*2^((whole y).2-e).toNat:Nat):Int)=q at*;have hP:0<2^(e+149).toNat:=BF _;have tf:(0:Int)<((2^(e+149).toNat:Nat):Int):=by lia
 have s:(p+q)*((2^(e+149).toNat:Nat):Int)=units x+units y:=by rw[ZM,sx,sy]
 rw[<-s];by_cases h0:p+q=0
 .rw[if_pos h0,h0,aeo,if_pos rfl]
 .have h1:¬(p+q)*((2^(e+149).toNat:Nat):Int)=0:=by
   intro z;rcases aeK.mp z with z|z<;>lia
  rw[if_neg h0,if_neg h1,lZ (by lia)];have n1:((p+q)*((2^(e+149).toNat:Nat):Int)).natAbs=(p+q).natAbs*2^(e+149).toNat:=by
   rw[Ku];rfl
  have n2:((p+q)*((2^(e+149).toNat:Nat):Int)<0)↔p+q<0:=by
   constructor
   .intro h;apply P2;intro g;have:=Yt (show 0<=p+q by lia) (aep tf);omega
   .intro h;have:=nJ h tf;omega
  rw[n1,decide_eq_decide.mpr n2,show(e+298).toNat=(e+149).toNat+149 by lia,BP,B6]
def MM(h:DJ x y=some z):AI z:=by
 rw[add_eq]at h;split at h
 .injection h with h
  subst h;split
  .exact aiY
  .exact HY
 .cases e:near ((units x+units y).natAbs*2^149)with
  |none=>rw[e]at h;cases h
  |some s=>
   rw[e]at h;injection h with h
   subst h;exact SH _ (Tt e)
def yn(h:AI x):AI (Ks x):=by
 obtain⟨h1,h2⟩:=h;have h3:¬(x/2^23 %256=255):=by simpa[finite]using h2
 unfold Ks negative AI finite;simp only[decide_eq_true_eq,bne_iff_ne,ne_eq];by_cases c:(2^31:Nat)<=x
 .rw[if_pos c];obtain⟨y,rfl⟩:=JA c;rw[show(2^31:Nat)=2^23*256 from rfl,Gz (by decide),YU]at h3;refine⟨FD (Kx ..) h1,show¬((2^31+y-2^31:Nat)/2^23 %256=255)from ?_⟩;rwa[IS]
 .rw[if_neg c];refine⟨adY (UR.1 c) (2^31),show¬((x+2^31:Nat)/2^23 %256=255)from ?_⟩;rwa[Fi,show(2^31:Nat)=2^23*256 from rfl,Gz (by decide),YU]
def Wz(h:Ia x y=some z):AI z:=MM h
def lX(hd:lo<d)(h:G1/2^lo=G2/2^lo)(h1:G1 %2^lo≠0)(h2:G2 %2^lo≠0):Bd G1 (2^d)=Bd G2 (2^d):=by
 obtain⟨j,rfl⟩:∃j,d=lo+(j+1):=⟨d-lo-1,by omega⟩;have key:∀G:Nat,G %2^lo≠0->Bd G (2^(lo+(j+1)))=G/2^lo/2^(j+1)+if 2^j<=G/2^lo %2^(j+1)then 1 else 0:=by
  intro G hG;unfold Bd;rw[BP,<-RM,Ri];have hl:=D5 G (BF lo);generalize G/2^lo/2^(j+1) %2=o;generalize G/2^lo/2^(j+1)=q;generalize G/2^lo %2^(j+1)=f;generalize G %2^lo=s at*;have e2:2^lo*2^(j+1)=2*(2^lo*2^j):=by rw[FH];ac_rfl
  rw[e2];generalize 2^lo=B at*;generalize 2^j=P at*;congr 1;by_cases c:P<=f
  .have:=EX B c;rw[if_pos (by lia),if_pos c]
  .have:=EX B (show f+1<=P by lia);rw[I_]at this;rw[if_neg (by lia),if_neg c]
 rw[key G1 h1,key G2 h2,h]
def DQ(F:Nat)(r:Bool):Nat:=if r=true then F+(1-F %2)else F
def afR(F:Nat)(r:Bool):dr (DQ F r)=dr F:=by
 unfold DQ;cases r
 .rfl
 .simp only[if_true];by_cases h:F %2=1
  .rw[h];rfl
  .have h0:F %2=0:=by lia
   rw[h0];by_cases z:F=0
   .subst z;rfl
   .unfold dr;have b1:=aC z;have b2:=L_ F;have b3:bl F≠0:=by unfold bl;rw[if_neg z];lia
    obtain⟨k,hk⟩:∃k,bl F=k+1:=⟨bl F-1,by lia⟩;rw[hk]at b1 b2;have b4:F+1<2^(k+1):=by
     have:2^(k+1)=2*2^k:=by rw[FH,BV]
     lia
    have:bl (F+(1-0))=k+1:=VT (by simp only[PB]at b1;lia) (by omega);rw[this,hk]
def anp(hD:0<D):near (DQ (N/D) (decide (N %D≠0)))=enc (Bd N (D*2^dr (N/D))) (dr (N/D)):=by
 unfold near;rw[afR];congr 1;have hd:2<=dr (N/D):=by unfold dr;lia
 by_cases h:N %D=0
 .unfold DQ;rw[if_neg (by simp[h])];have:N=N/D*D:=by
   have:=Gx N D;rw[h,BV]at this;lia
  refine zg (BF _) (EC hD (BF _)) ?_;generalize 2^dr (N/D)=z
  calc N/D*(D*z)=N/D*D*z:=by ac_rfl
   _=N*z:=by rw[<-this]
 .unfold DQ;rw[if_pos (by simp[h])];have e1:Bd N (D*2^dr (N/D))=Bd (2*(N/D)+1) (2^(dr (N/D)+1)):=by
   generalize dr (N/D)=d at*;obtain⟨j,rfl⟩:∃j,d=j+1:=⟨d-1,by lia⟩;unfold Bd;have hs:=D5 N hD;have e2:2^(j+1+1)=2*2^(j+1):=by rw[FH,BV]
   rw[e2,Ri,<-RM,Ri,<-RM];rw[show(2*(N/D)+1)/2=N/D by lia,show(2*(N/D)+1) %2=1 by lia];generalize N/D/2^(j+1)=q;generalize N/D %2^(j+1)=f;generalize N %D=s at*;rw[FH];generalize 2^j=P;rw[show D*(P*2)=2*(D*P) by ac_rfl];by_cases c:P<=f
   .have:=EX D c;rw[if_pos (by lia),if_pos (by lia)]
   .have:=EX D (show f+1<=P by lia);rw[I_]at this;rw[if_neg (by lia),if_neg (by lia)]
  rw[e1,show Bd (N/D+(1-N/D %2)) (2^dr (N/D))=Bd ((N/D+(1-N/D %2))*2) (2^dr (N/D)*2)from(lW _ _ 2 (by decide)).symm,<-FH];generalize dr (N/D)=d at*;generalize N/D=f at*;obtain⟨g,hg⟩:∃g,f/2=g:=⟨_,rfl⟩;rcases Nat.mod_two_eq_zero_or_one f with c|c
  .rw[c];obtain rfl:f=2*g:=by lia
   refine lX (lo:=2) (by lia) ?_ ?_ ?_<;>lia
  .rw[c];obtain rfl:f=2*g+1:=by lia
   refine lX (lo:=2) (by lia) ?_ ?_ ?_<;>lia
open Sn38 (whole negative finite signBit rounded rootOf)
def QN:AR x=0↔(whole x).1=0:=by
 obtain⟨a1,_⟩:=Ke x;have:=BF ((whole x).2+149).toNat;rw[<-a1];constructor
 .intro h;rcases Z5.mp h with z|z<;>lia
 .intro h;rw[h,Du]
def Sx(hx:x<2^32):AR x=0↔x=0\/x=2^31:=by
 unfold AR;by_cases c:x/2^23 %256=0
 .rw[if_pos c];lia
 .rw[if_neg c];have:=BF (x/2^23 %256-1);constructor
  .intro h;rcases Z5.mp h with z|z<;>lia
  .rintro(h|h)<;>subst h<;>exact absurd (by decide) c
def agb(ha:a≠0)(hb:b≠0)(h:b<2^24):2^24<=a*2^60/b:=by
 refine(U6 (by lia)).mpr ?_
 calc 2^24*b<=2^24*2^24:=EX _ (by lia)
  _<=1*2^60:=by decide
  _<=a*2^60:=Bj _ (by lia)
def sN(hy:AR y=0):L0 x y=none:=by
 unfold L0;simp only[];rw[if_pos (QN.mp hy)]
def sM(hT:T=298)(hy:AR y≠0):L0 x y=(near (DQ (AR x*2^T/AR y) (decide (AR x*2^T %AR y≠0)))).map (signBit (negative x !=negative y)+ ·):=by
 have hb:(whole y).1≠0:=λz=>hy (QN.mpr z);obtain⟨a1,a2,a3,a4⟩:=Ke x;obtain⟨b1,b2,b3,b4⟩:=Ke y;unfold L0;simp only[];rw[if_neg hb];by_cases ha:(whole x).1=0
 .have:AR x=0:=QN.mpr ha;rw[ha,this];have e1:near (DQ (0*2^T/AR y) (decide (0*2^T %AR y≠0)))=some 0:=by
   rw[Du,aeq,Nat.zero_mod];decide+kernel
  rw[e1];unfold rounded;rw[Du,aeq,if_pos rfl];rfl
 .rw[anp (by lia)];have hm:2^24<=(whole x).1*2^60/(whole y).1:=agb ha hb b2;refine l_ (M:=(whole x).1*2^60) (B:=(whole y).1) (E:=((whole x).2-(whole y).2+302).toNat) (by lia) (by lia) (by lia) rfl ?_ (by lia) (λ_=>by omega) ?_
  .by_cases c:(whole x).1*2^60 %(whole y).1=0<;>simp[c]
  .rw[<-a1,<-b1];generalize(whole x).1=a at*;generalize(whole y).1=b at*
   calc a*2^((whole x).2+149).toNat*2^T*2^64*b=a*b*2^(((whole x).2+149).toNat+T+64):=by rw[BP,BP];ac_rfl
    _=a*b*2^(60+((whole y).2+149).toNat+((whole x).2-(whole y).2+302).toNat):=by congr 2;lia
    _=_:=by rw[BP,BP];ac_rfl
def div_eq(hy:AR y≠0):L0 x y=(near (DQ (AR x*2^298/AR y) (decide (AR x*2^298 %AR y≠0)))).map (signBit (negative x !=negative y)+ ·):=sM rfl hy
def agc(h:L0 x y=some z):AI z:=by
 obtain⟨T,hT⟩:∃T,T=298:=⟨_,rfl⟩;by_cases hy:AR y=0
 .rw[sN hy]at h;cases h
 .rw[sM hT hy]at h;cases e:near (DQ (AR x*2^T/AR y) (decide (AR x*2^T %AR y≠0)))with
  |none=>rw[e]at h;cases h
  |some s=>
   rw[e]at h;injection h with h
   subst h;exact SH _ (Tt e)
def Ec(r n:Nat):Prop:=r*r<=n/\n<(r+1)*(r+1)
def Ec.uniq(a:Ec r n)(b:Ec s n):r=s:=by
 rcases oB r s with h|h|h
 .have:=GQ (show r+1<=s from h) (show r+1<=s from h);have:=a.2;have:=b.1;lia
 .exact h
 .have:=GQ (show s+1<=r from h) (show s+1<=r from h);have:=b.2;have:=a.1;lia
def Ec.cut(h:Ec F (n*4^t)):Ec (F/2^t) n:=by
 have e4:4^t=2^t*2^t:=by rw[<-p5]
 have hP:=BF t;obtain⟨h1,h2⟩:=h;rw[e4]at h1 h2;generalize 2^t=P at*;have e:=Gx F P;have l:=D5 F hP;generalize F/P=r at*;generalize F %P=s at*;constructor
 .refine RF (c:=P*P) ?_ (EC hP hP);have:(P*r)*(P*r)<=F*F:=GQ (by lia) (by lia)
  calc r*r*(P*P)=(P*r)*(P*r):=by ac_rfl
   _<=n*(P*P):=by lia
 .refine U0 (a:=P*P) (CT h2 ?_);have:F+1<=P*(r+1):=by rw[I_];lia
  calc (F+1)*(F+1)<=(P*(r+1))*(P*(r+1)):=GQ this this
   _=_:=by ac_rfl
def qy(n:Nat):∃r,Ec r n:=by
 induction n with
 |zero=>exact⟨0,by decide,by decide⟩
 |succ n ih=>
  obtain⟨r,h1,h2⟩:=ih;by_cases c:n+1<(r+1)*(r+1)
  .exact⟨r,by lia,c⟩
  .refine⟨r+1,by lia,?_⟩;have:(r+1+1)*(r+1+1)=(r+1)*(r+1)+(2*r+3):=by
    simp only[BE,I_];lia
   lia
def zB(hw:Ec w n)(hS:S=n*4^lo)(hF:Ec F S)(u9:2^24<=w)(OI:0<lo):
 (w*w=n->F=w*2^lo/\F*F=S)/\(w*w≠n->F*F≠S/\∀G:Nat,G/2^lo=w->G %2^lo≠0->near G=near (DQ F true)):=by
 have e4:4^lo=2^lo*2^lo:=by rw[<-p5]
 have hP:=BF lo;have b8:F/2^lo=w:=Ec.uniq (Ec.cut (by rw[<-hS];exact hF)) hw;constructor
 .intro h;have r2:Ec (w*2^lo) S:=by
   have:w*2^lo*(w*2^lo)=S:=by rw[hS,<-h,e4];ac_rfl
   constructor
   .lia
   .rw[<-this];exact Ls (by lia) (by lia)
  have:=hF.uniq r2;subst this;exact⟨rfl,by rw[hS,<-h,e4];ac_rfl⟩
 .intro h;have Bx:F*F≠S:=by
   intro z;apply h;rw[hS,e4]at z;generalize 2^lo=P at*;have e:=Gx F P;have hd:P^2∣F^2:=⟨n,by rw[Nat.pow_two,Nat.pow_two,z];ac_rfl⟩;have akc:P∣F:=(Nat.pow_dvd_pow_iff (by decide)).mp hd;obtain⟨c,rfl⟩:=akc;rw[Nat.mul_div_cancel_left _ hP]at b8;subst b8;refine U1 (EC hP hP) ?_;rw[<-z];ac_rfl
  refine⟨Bx,λG iI akm=>?_⟩;have tY:DQ F true/2^lo=w:=by
   unfold DQ;simp only[if_true];obtain⟨j,rfl⟩:∃j,lo=j+1:=⟨lo-1,by lia⟩;rw[FH,BV,<-RM]at b8⊢;rw[show(F+(1-F %2))/2=F/2 by lia];exact b8
  have akl:DQ F true %2^lo≠0:=by
   unfold DQ;simp only[if_true];obtain⟨j,rfl⟩:∃j,lo=j+1:=⟨lo-1,by lia⟩;rw[FH,BV,Ri];lia
  have bits:∀X:Nat,X/2^lo=w->bl X=bl w+lo:=by
   intro X hX;have v9:w≠0:=by lia
   have b1:=aC v9;have b2:=L_ w;obtain⟨k,hk⟩:∃k,bl w=k+1:=⟨bl w-1,by unfold bl;rw[if_neg v9];lia⟩;rw[hk]at b1 b2;rw[PB]at b1;have e:=Gx X (2^lo);have l:=D5 X hP;rw[hX]at e;rw[hk,show k+1+lo=(k+lo)+1 by lia];refine VT ?_ ?_
   .rw[BP,BV];exact Ao (EX _ b1) (by lia)
   .rw[show k+lo+1=k+1+lo by lia,BP,BV];have:=EX (2^lo) (show w+1<=2^(k+1)from b2);rw[I_]at this;lia
  have d1:dr G=dr (DQ F true):=by unfold dr;rw[bits G iI,bits _ tY]
  unfold near;rw[<-d1];congr 1;have ah:25<=bl w:=by
   have:=L_ w;have:2^24<2^bl w:=by lia
   have:=(nM (by decide:1<2)).mp this;lia
  exact lX (lo:=lo) (by unfold dr;rw[bits G iI];lia) (iI.trans tY.symm) akm akl
def ar0(hn:n<2^128):Ec (rootOf n) n:=by
 have key:∀(k r:Nat),r*r<=n->n<(r+2^k)*(r+2^k)->
  Ec (((A8 k).reverse).foldl (λr i=>if(r+2^i)*(r+2^i)<=n then r+2^i else r) r) n:=by
  intro k;induction k with
  |zero=>intro r h1 h2;exact⟨h1,h2⟩
  |succ k ih=>
   intro r h1 h2;rw[PZ,List.reverse_append,List.reverse_singleton,List.singleton_append,oN];by_cases c:(r+2^k)*(r+2^k)<=n
   .rw[if_pos c];refine ih _ c ?_;rw[show r+2^k+2^k=r+2^(k+1) by rw[FH];lia];exact h2
   .rw[if_neg c];exact ih r h1 (by omega)
 exact key 64 0 (by lia) (by
  rw[EM,<-BP];exact hn)
def lY(h:AR x=0):Ju x=some x:=by
 unfold Ju;simp only[];rw[if_pos (QN.mp h)]
def zA(h:AR x≠0)(hn:negative x=true):Ju x=none:=by
 unfold Ju;simp only[];rw[if_neg (λz=>h (QN.mpr z)),if_pos hn]
def aas(h:n<(r+1)*(r+1))(hc:c*c<=n):c<=r:=by
 apply P2;intro z;have:=GQ (show r+1<=c by lia) (show r+1<=c by lia);lia
def iZ(o:Option Nat):o.map (signBit false+ ·)=o:=by
 cases o with
 |none=>rfl
 |some v=>exact congrArg some (EM v)
def ar3{a k r q F S:Nat}(ha:a≠0)(hk:60<=k)(hr:Ec r (a*2^k))(hq:e+298=(q:Int))(LP:1<=q)(eS:S=a*2^k*4^q)(hF:Ec F S):
 rounded false r e (r*r !=a*2^k)=near (DQ F (decide (F*F≠S))):=by
 have MD:2^24<=r:=by
  refine aas hr.2 ?_;rw[<-BP];exact Ao (EL (by decide) (show 24+24<=k by lia)) (Hm _ (by lia))
 obtain⟨p1,p2⟩:=zB hr eS hF MD (by lia);by_cases c:r*r=a*2^k
 .obtain⟨f1,f2⟩:=p1 c;rw[show(r*r !=a*2^k)=false by simp[c],lZ (by lia),show decide (F*F≠S)=false by simp[f2],f1];rw[show(e+298).toNat=q by lia,iZ];rfl
 .obtain⟨f1,f2⟩:=p2 c;rw[show(r*r !=a*2^k)=true by simp[c],show decide (F*F≠S)=true by simp[f1]];have JZ:(2:Nat)^q=2*2^(q-1):=by
   rw[BV,<-FH];congr 1;lia
  have tj:=BF (q-1);have g1:(2*r+1)*2^(q-1)/2^q=r:=by
   rw[JZ,BV 2 (2^(q-1)),<-RM,RV _ tj];lia
  have g2:(2*r+1)*2^(q-1) %2^q≠0:=by
   rw[JZ,BV 2 (2^(q-1)),Ri,RV _ tj,show(2*r+1) %2=1 by lia];lia
  rw[<-f2 ((2*r+1)*2^(q-1)) g1 g2];have hN:(2*r+1)*2^(q-1)*2^64*2=(2*r+1)*1*2^(q+64):=by
   rw[BP,JZ,Nat.mul_one];generalize 2^64=z;ac_rfl
  have h0:r≠0:=by
   intro z;rw[z]at MD;exact absurd MD (by decide)
  rw[l_ (M:=2*r+1) (B:=2) (N:=(2*r+1)*2^(q-1)) (D:=1) (E:=q+64) (by lia) (by decide) (by decide) (by lia) (by rw[show(2*r+1) %2=1 by lia];rfl) h0 (λ_=>MD) hN];rw[iZ,BQ,Nat.div_one];rfl
def ar2(hw:Ec w short)(eT:S=short*4^lo)(hF:Ec F S)(Si:2^24<=w)(OI:1<=lo):
 near (DQ F (decide (F*F≠S)))=near (DQ (w*2^lo) (decide (w*w≠short))):=by
 obtain⟨t1,t2⟩:=zB hw eT hF Si (by lia);by_cases c:w*w=short
 .obtain⟨f1,f2⟩:=t1 c;rw[show decide (F*F≠S)=false by simp[f2],show decide (w*w≠short)=false by simp[c],f1]
 .obtain⟨f1,f2⟩:=t2 c;rw[show decide (F*F≠S)=true by simp[f1],show decide (w*w≠short)=true by simp[c]];obtain⟨j,hj⟩:∃j,lo=j+1:=⟨lo-1,by lia⟩;have ev:w*2^lo %2=0:=by rw[hj,FH,<-B6,nZ]
  have e1:DQ (w*2^lo) true=w*2^lo+1:=by
   unfold DQ;rw[if_pos rfl,ev]
  have awf:2<=2^lo:=by
   rw[hj,FH];have:=BF j;lia
  rw[e1];refine(f2 _ ?_ ?_).symm
  .rw[Fi,Nat.add_mul_div_right _ _ (by lia),Ff (by lia)];lia
  .rw[Fi,Nat.add_mul_mod_self_right,Fh (by lia)];lia
def rJ(lo:Nat):4^lo=2^(lo+lo):=by
 rw[BP,<-p5]
def zC(hS:S=a*2^j)(ha:a≠0)(akx:a<2^24)(hj:447<=j)(OI:lo=(bl S-54)/2)(hs:short=S/2^(lo+lo)):
 S=short*4^lo/\2^48<=short/\1<=lo:=by
 have b1:447<bl S:=by
  have h1:2^j<=S:=by
   rw[hS]
   calc 2^j=1*2^j:=(BQ _).symm
    _<=_:=Bj _ (by lia)
  have:=(nM (by decide:1<2)).mp (FD h1 (L_ S));lia
 have b2:bl S<=24+j:=by
  refine Zd ?_;rw[hS,BP];exact Kk akx (BF _)
 have hle:lo+lo<=j:=by lia
 have e1:S=short*2^(lo+lo):=by
  rw[hs];refine(Nat.div_mul_cancel ?_).symm;rw[hS];exact Nat.dvd_trans (Nat.pow_dvd_pow 2 hle) (Nat.dvd_mul_left _ _)
 refine⟨by rw[rJ];exact e1,?_,by lia⟩;have b0:S≠0:=by
  intro z;rw[z,show bl 0=0 from rfl]at b1;lia
 refine RF (c:=2^(lo+lo)) ?_ (BF _);rw[<-e1,<-BP];exact Ao (EL (by decide) (by lia)) (aC b0)
def z9{x lo short w T:Nat}(hT:T=447)(h:AR x≠0)(hn:negative x=false)(OI:lo=(bl (AR x*2^T)-54)/2)(hs:short=AR x*2^T/2^(lo+lo))(hw:Ec w short):
 Ju x=near (DQ (w*2^lo) (decide (w*w≠short))):=by
 obtain⟨a1,a2,a3,a4⟩:=Ke x;have ha:(whole x).1≠0:=λz=>h (QN.mpr z);unfold Ju;simp only[];rw[if_neg ha,if_neg (by simp[hn])];obtain⟨F,hF⟩:=qy (AR x*2^T);generalize hk:(if(whole x).2 %2=0 then 60 else 61:Nat)=k;have k1:((whole x).2-(k:Int)) %2=0:=by rw[<-hk];split<;>lia
 have k2:60<=k/\k<=61:=by rw[<-hk];split<;>lia
 clear hk;generalize(whole x).1=a at*;generalize(whole x).2=e at*;have hm:a*2^k<2^128:=by
  calc a*2^k<=2^24*2^k:=Bj _ (Ht a2)
   _<=2^24*2^61:=EX _ (EL (by decide) k2.2)
   _<2^128:=by decide
 have hr:=ar0 hm;clear hm;generalize rootOf (a*2^k)=r at*;obtain⟨q,hq⟩:∃q:Nat,(e-(k:Int))/2+298=(q:Int):=⟨((e-(k:Int))/2+298).toNat,by lia⟩;have eS:AR x*2^T=a*2^k*4^q:=by
  rw[<-a1,rJ]
  calc a*2^(e+149).toNat*2^T=a*2^((e+149).toNat+T):=by rw[BP];ac_rfl
   _=a*2^(k+(q+q)):=by congr 2;lia
   _=_:=by rw[BP];ac_rfl
 rw[ar3 ha k2.1 hr hq (by lia) eS hF];obtain⟨s1,s2,s3⟩:=zC (S:=AR x*2^T) (a:=a) (j:=(e+149).toNat+T) (by rw[<-a1,BP];ac_rfl) ha a2 (by lia) OI hs;exact ar2 hw s1 hF (aas hw.2 s2) s3
def ar1(hx:AI x)(h:Ju x=some z):AI z:=by
 obtain⟨T,hT⟩:∃T,T=447:=⟨_,rfl⟩;by_cases h0:AR x=0
 .rw[lY h0]at h;injection h with h;subst h;exact hx
 .cases hn:negative x with
  |true=>rw[zA h0 hn]at h;cases h
  |false=>
   obtain⟨w,hw⟩:=qy (AR x*2^T/2^((bl (AR x*2^T)-54)/2+(bl (AR x*2^T)-54)/2));rw[z9 hT h0 hn rfl rfl hw]at h;have:=SH false (Tt h);rwa[show signBit false+z=z from EM z]at this
def anK(hg:0<g)(h:n<(g+1)*(g+1))(hb:g<=(g+n/g)/2):Ec g n:=by
 refine⟨?_,h⟩;have:g<=n/g:=by lia
 exact(U6 hg).mp this
def newton_step(hg:0<g):n<((g+n/g)/2+1)*((g+n/g)/2+1):=by
 have h1:n<g*(n/g+1):=by
  have e:=Gx n g;have l:=D5 n hg;rw[I_];lia
 generalize n/g=q at*;have h2:g+(q+1)<=2*((g+q)/2+1):=by lia
 generalize(g+q)/2+1=z at*;generalize q+1=c at*;have h3:(g+c)*(g+c)<=(2*z)*(2*z):=GQ h2 h2;have h4:4*(g*c)<=(g+c)*(g+c):=by
  have e1:(g+c)*(g+c)=g*g+c*c+2*(g*c):=by
   simp only[BE,I_,BV c g];lia
  have e2:2*(g*c)<=g*g+c*c:=by
   rcases aer g c with h|h
   .obtain⟨k,rfl⟩:=JA h;simp only[BE,I_,BV k g];have:=Er (k*k);lia
   .obtain⟨k,rfl⟩:=JA h;simp only[BE,I_,BV k c];have:=Er (k*k);lia
  lia
 have e5:(2*z)*(2*z)=4*(z*z):=by
  rw[show 4*(z*z)=2*2*(z*z)from rfl];ac_rfl
 lia
def anL:n<(2^((bl n+1)/2)+1)*(2^((bl n+1)/2)+1):=by
 have h:=L_ n;have h1:2^bl n<=2^((bl n+1)/2)*2^((bl n+1)/2):=by
  rw[<-BP];exact EL (by decide) (by lia)
 have:=GQ (p6 (2^((bl n+1)/2))) (p6 (2^((bl n+1)/2)));simp only[Nat.succ_eq_add_one]at this;lia
open Sn38 (whole negative finite signBit addUp)
def rI(z:Int)(d:Nat):Int:=if z<0 then-(Bd z.natAbs (2^d):Int)else(Bd z.natAbs (2^d):Int)
def aky(z:Int)(d:Nat)(hd:0<d):
 (if z/2^(d-1) %2=1/\(z/2^(d-1)/2 %2=1\/z/2^(d-1)*2^(d-1)≠z)then z/2^(d-1)+1 else z/2^(d-1))/2=rI z d:=by
 obtain⟨k,rfl⟩:∃k,d=k+1:=⟨d-1,by lia⟩;rw[PB];unfold rI;have hP:=BF k;have e2:2^(k+1)=2*2^k:=by rw[FH,BV]
 have c1:(2:Int)^k=((2^k:Nat):Int):=by rw[aeL];rfl
 rw[e2,c1];generalize 2^k=P at*;have e:=adl z (P:Int);have r0:=Int.emod_nonneg z (show(P:Int)≠0 by lia);have r1:=Int.emod_lt_of_pos z (show(0:Int)<P by lia);rw[UL]at e;generalize z/(P:Int)=h at*;generalize z %(P:Int)=r at*;obtain⟨r,rfl⟩:=NU r0;have r1:=ZJ.1 r1;have e3:=adl h 2;have hb:=Int.emod_two_eq h;obtain⟨q,hq⟩:∃q,h/2=q:=⟨_,rfl⟩;rw[hq]at e3⊢;have key:∀(a b:Nat),z.natAbs=2*(P*a)+b->b<2*P->Bd z.natAbs (2*P)=a+(if 2*P<2*b\/(2*b=2*P/\a %2=1)then 1 else 0):=by
  intro a b hA hb;unfold Bd;rw[hA,<-B6,Fi (2*P*a),Nat.add_mul_div_left _ _ (EC (by decide) hP),Ff hb,EM,Nat.add_mul_mod_self_left,Fh hb]
 by_cases hz:z<0
 .rw[if_pos hz];have hn:h<0:=Int.not_le.1 λc=>by
   have:=Yt c (U3 P);lia
  obtain⟨a,rfl⟩:∃a:Nat,q= -(a:Int)-1:=⟨(-q-1).toNat,by lia⟩;rcases hb with hb|hb
  .have hh:h=2*(-(a:Int)-1):=by lia
   rw[hh,RZ,Int.sub_mul,Pc,US,UL (a:Int),<-CK]at e;rw[if_neg λc=>absurd (hb.symm.trans c.1) (by decide),hq];by_cases hr:r=0
   .rw[key (a+1) 0 (by rw[aes];lia) (by lia),if_neg (by lia)];lia
   .rw[key a (2*P-r) (by lia) (by lia),if_pos (by lia)];lia
  .have hh:h=2*(-(a:Int)-1)+1:=by lia
   have LP:(h+1)/2= -(a:Int):=by lia
   have e0:=e;rw[hh,ZM,RZ,Int.sub_mul,Pc,US,UL (a:Int),<-CK]at e;rw[key a (P-r) (by lia) (by lia)];by_cases hr:r=0
   .have h0:h*(P:Int)=z:=by rw[hr]at e0;exact(oo _).symm.trans e0
    by_cases ho:(-(a:Int)-1) %2=1
    .rw[if_pos ⟨hb,.inl ho⟩,if_neg (by lia),LP];lia
    .rw[if_neg λc=>c.2.elim ho λn=>n h0,if_pos (by lia),hq];lia
   .have h1:h*(P:Int)≠z:=λc=>hr (by rw[c]at e0;lia);rw[if_pos ⟨hb,.inr h1⟩,if_neg (by lia),LP];lia
 .rw[if_neg hz];have hn:0<=h:=Int.not_lt.1 λc=>by
   have:=Int.mul_le_mul_of_nonneg_right (show h<= -1 from Int.le_sub_one_of_lt c) (U3 P);lia
  obtain⟨a,rfl⟩:∃a:Nat,q=a:=⟨q.toNat,by lia⟩;rcases hb with hb|hb
  .have hh:h=2*(a:Int):=by lia
   rw[hh,RZ,UL (a:Int),<-CK]at e;rw[if_neg λc=>absurd (hb.symm.trans c.1) (by decide),hq,key a r (by lia) (by lia),if_neg (by lia)];rfl
  .have hh:h=2*(a:Int)+1:=by lia
   have LP:(h+1)/2=(a:Int)+1:=by lia
   have e0:=e;rw[hh,ZM,RZ,US,UL (a:Int),<-CK]at e;rw[key a (P+r) (by lia) (by lia)];by_cases hr:r=0
   .have h0:h*(P:Int)=z:=by rw[hr]at e0;exact(oo _).symm.trans e0
    by_cases ho:(a:Int) %2=1
    .rw[if_pos ⟨hb,.inl ho⟩,if_pos (by lia),LP];rfl
    .rw[if_neg λc=>c.2.elim ho λn=>n h0,if_neg (by lia),hq];rfl
   .have h1:h*(P:Int)≠z:=λc=>hr (by rw[c]at e0;lia);rw[if_pos ⟨hb,.inr h1⟩,if_pos (by lia),LP];rfl
def cC(b:Bool)(hs:s<2^31):AR (signBit b+s)=AR s:=by
 cases b with
 |false=>rw[show signBit false+s=s from EM s]
 |true=>
  show AR (2^31+s)=AR s;unfold AR;rw[show(2^31+s)/2^23 %256=s/2^23 %256 by rw[show 2^31=2^23*256 from rfl,Gz (by decide),YU],show(2^31+s) %2^23=s %2^23 by rw[show 2^31=2^23*256 from rfl,Kn]]
def kP(b:Bool)(hs:s<2^31):negative (signBit b+s)=b:=by
 cases b with
 |false=>
  rw[show signBit false+s=s from EM s];exact decide_eq_false (by show¬(2^31:Nat)<=s;lia)
 |true=>exact decide_eq_true (show(2^31:Nat)<=2^31+s by lia)
def acB(h:AI x):∃s,s<2139095040/\x=signBit (negative x)+s:=by
 obtain⟨h1,h2⟩:=h;have h3:¬(x/2^23 %256=255):=by simpa[finite]using h2
 by_cases c:2^31<=x
 .have hn:negative x=true:=decide_eq_true c;obtain⟨y,rfl⟩:=JA c;rw[show(2^31:Nat)=2^23*256 from rfl,Gz (by decide),YU]at h3;refine⟨y,?_,by rw[hn];rfl⟩;have:y/2^23<256:=Nat.div_lt_of_lt_mul (Nat.lt_of_add_lt_add_left (n:=2^31) h1);rw[Fh this]at h3;lia
 .have hn:negative x=false:=decide_eq_false c;refine⟨x,?_,?_⟩
  .have:x/2^23<256:=by lia
   generalize hk:x/2^23=k at*;lia
  .rw[hn];exact(EM x).symm
structure aG(n d:Nat):Prop where
 le:n<=2^24
 lo:149<=d
 hi:d=149\/2^23<=n
def agM(b:aG n d)(h:enc n d=some s):s=(d-149)*2^23+n/\s<2139095040/\AR s*2^149=n*2^d:=by
 obtain⟨h1,h2,h3⟩:=b;unfold enc at h;split at h
 .cases h
 .rename_i hs;injection h with h
  refine⟨h.symm,by omega,?_⟩;obtain⟨j,rfl⟩:∃j,d=149+j:=⟨d-149,by omega⟩;rw[IS]at h hs;have e:AR s=n*2^j:=by
   unfold AR;by_cases c1:n<2^23
   .have:j=0:=by lia
    subst this;rw[if_pos (by lia),aet];lia
   .by_cases c2:n=2^24
    .have e0:s=(j+2)*2^23:=by rw[<-h,c2,BE]
     have e1:s/2^23 %256=j+2:=by rw[e0,RV _ (by decide),Fh (by lia)]
     rw[e1,if_neg (adq _),e0,nZ,EM,show j+2-1=j+1 from rfl,show 2^(j+1)=2*2^j from BV (2^j) 2,c2];exact(B6 (2^23) 2 (2^j)).symm
    .obtain⟨f,rfl⟩:=JA (Nj.1 c1);have hf:f<2^23:=by lia
     have e0:s=2^23*(j+1)+f:=by rw[<-h,I_ (2^23) j 1,Nat.mul_one,BV (2^23) j,PQ]
     have e1:s/2^23 %256=j+1:=by rw[e0,Gz (by decide),Ff hf,JE,Fh (by lia)]
     rw[e1,if_neg (adq _),e0,Kn,Fh hf,Fi f,PB]
  rw[e,BP];generalize 2^149=z;ac_rfl
def XR(f:Nat):aG (Bd f (2^dr f)) (dr f):=by
 have hp:=BF (dr f);refine⟨XT hp ?_,by unfold dr;lia,?_⟩
 .refine Ht (CT (L_ f) ?_);rw[<-BP];exact EL (by decide) (by unfold dr;lia)
 .by_cases c:dr f=149
  .exact .inl c
  .refine .inr (wK hp ?_);have h0:f≠0:=by
    intro z;apply c;rw[z];rfl
   rw[<-BP];refine Ao (EL (by decide) ?_) (aC h0);unfold dr at c⊢;lia
def wj(h:near f=some s):s<2139095040/\AR s*2^149=Bd f (2^dr f)*2^dr f:=
 let⟨_,a,b⟩:=agM (XR f) h
 ⟨a,b⟩
def wm(h:Bd f (2^dr f)*2^dr f<=2^425):∃s,near f=some s:=by
 obtain⟨h1,h2,h3⟩:=XR f;unfold near enc;generalize Bd f (2^dr f)=n at*;generalize dr f=d at*;have:¬2139095040<=(d-149)*2^23+n:=by
  intro c;have hd:402<=d:=by lia
  have h5:2^426<=n*2^d:=by
   by_cases c2:n=2^24
   .rw[c2,<-BP];exact EL (by decide) (by lia)
   .have:403<=d:=by lia
    refine Ao (EL (by decide) (show 426<=23+d by lia)) ?_;rw[BP];exact Bj _ (by lia)
  have h6:2^425<2^426:=Lj (by decide) (by decide);exact absurd (CT h6 (Ao h5 h)) (GR _)
 exact⟨_,if_neg this⟩
def anq(b:aG n d)(B3:n<2^24):dr (n*2^d)=d/\near (n*2^d)=enc n d:=by
 obtain⟨h1,h2,h3⟩:=b;have e:dr (n*2^d)=d:=by
  unfold dr;have u:bl (n*2^d)<=24+d:=Zd (by rw[BP];exact Kk B3 (BF d));rcases h3 with h3|h3
  .lia
  .have:bl (n*2^d)=23+d+1:=by
    refine VT ?_ ?_
    .rw[BP];exact Bj _ h3
    .rw[show 23+d+1=24+d by lia,BP];exact Kk B3 (BF d)
   lia
 refine⟨e,?_⟩;unfold near;rw[e,Wd (BF d)]
def wk(h:s<2139095040):near (AR s*2^149)=some s/\Bd (AR s*2^149) (2^dr (AR s*2^149))*2^dr (AR s*2^149)=AR s*2^149:=by
 have key:∀n d,aG n d->n<2^24->AR s*2^149=n*2^d->s=(d-149)*2^23+n->near (AR s*2^149)=some s/\Bd (AR s*2^149) (2^dr (AR s*2^149))*2^dr (AR s*2^149)=AR s*2^149:=by
  intro n d b hn e es;obtain⟨e1,e2⟩:=anq b hn;rw[e,e1,e2,Wd (BF d)];refine⟨?_,rfl⟩;unfold enc;rw[<-es,if_neg (by lia)]
 have hk:s/2^23 %256=s/2^23:=by lia
 by_cases c:s/2^23=0
 .refine key s 149 ⟨by lia,by lia,.inl rfl⟩ (by lia) ?_ (by lia);unfold AR;rw[hk,if_pos c,show s %2^23=s by lia]
 .refine key (s %2^23+2^23) (s/2^23+148) ⟨by lia,by lia,.inr (by omega)⟩ (by omega) ?_ (by lia);unfold AR;rw[hk,if_neg c,B6,<-BP];congr 2;lia
def Q1(t x y:Int):Int:=
 if x*y=0 then t else
  let t1:=t+rI (x*y) (dr (x*y).natAbs)*2^dr (x*y).natAbs
  if 149<bl t1.natAbs-24 then rI t1 (bl t1.natAbs-24)*2^(bl t1.natAbs-24)else t1
def fA(t:Int):List (Int×Int)->Int
 |[]=>t
 |p::r=>fA (Q1 t p.1 p.2) r
def fv(x:Nat):Int:=units x*2^149
def Eo(d:Nat):(2:Int)^d=((2^d:Nat):Int):=by rw[aeL];rfl
def Q4(b:Bool)(hs:s<2139095040):fv (signBit b+s)=if b=true then-((AR s*2^149:Nat):Int)else((AR s*2^149:Nat):Int):=by
 unfold fv;cases b with
 |true=>
  rw[Mc (kP true (by lia)),cC true (by lia),if_pos rfl,Eo,CK,Pc]
 |false=>
  rw[Om (kP false (by lia)),cC false (by lia),if_neg (by decide),Eo,CK]
def Zu(b:Bool)(n:Nat):(if b=true then-(n:Int)else(n:Int)).natAbs=n:=by split<;>lia
def XS(hB:149<=B)(hc:c<2^24)(h:f<=c*2^B):Bd f (2^dr f)*2^dr f<=c*2^B:=by
 have hd:dr f<=B:=by
  unfold dr;have:f<2^(24+B):=FD h (by rw[BP];exact Kk hc (BF B));have:=Zd this;lia
 have e:2^B=2^(B-dr f)*2^dr f:=by rw[<-BP];congr 1;lia
 rw[e,<-B6]at h⊢;exact Bj _ (XT (BF _) h)
def add_zero(ht:AI t)(GD:t≠2^31)(hp:units p=0):DJ t p=some t:=by
 obtain⟨s,hs,e⟩:=acB ht;rw[add_eq,hp,oo];by_cases h0:units t=0
 .rw[if_pos h0];have m0:AR t=0:=by rw[<-VX,h0];rfl
  have t0:t=0:=by
   rcases(Sx ht.1).mp m0 with z|z
   .exact z
   .exact absurd z GD
  subst t0;rfl
 .rw[if_neg h0,VX];have em:AR t=AR s:=by rw[e];exact cC _ (by lia)
  rw[em,(wk hs).1,Gy];have hd:decide (units t<0)=negative t:=by
   cases hn:negative t with
   |true=>
    rw[Mc hn]at h0⊢;exact decide_eq_true (by lia)
   |false=>
    rw[Om hn]at h0⊢;exact decide_eq_false (by lia)
  rw[hd,<-e]
def r9(hB:149<=B)(VB:B+17<426)(hc:c+1<=2^17)(ht:AI t)(GD:t≠2^31)(hA:AR x*AR y<=2^B)(hT:(fv t).natAbs<=c*2^B):
 ∃p z,BC x y=some p/\DJ t p=some z/\Q1 (fv t) (units x) (units y)=fv z/\z≠2^31/\AI z/\(fv z).natAbs<=(c+1)*2^B:=by
 have hPB:=BF B;have qP:∀k,k<=2^17->k*2^B<=2^425:=by
  intro k hk
  calc k*2^B<=2^17*2^B:=Bj _ hk
   _=2^(17+B):=by rw[<-BP]
   _<=2^425:=EL (by decide) (by lia)
 have hp:=XS (f:=AR x*AR y) (c:=1) hB (by decide) (by rw[BQ];exact hA);obtain⟨s,hs⟩:=wm (Ao hp (qP 1 (by decide)));obtain⟨s1,s2⟩:=wj hs;have em:BC x y=some (signBit (negative x !=negative y)+s):=by rw[mul_eq,hs];rfl
 refine⟨signBit (negative x !=negative y)+s,?_⟩;have ayk:AI (signBit (negative x !=negative y)+s):=SH _ s1;have Uv:(units x*units y).natAbs=AR x*AR y:=by rw[Ku,VX,VX]
 have ags:units x*units y≠0->fv (signBit (negative x !=negative y)+s)=rI (units x*units y) (dr (units x*units y).natAbs)*2^dr (units x*units y).natAbs:=by
  intro h0;rw[Q4 _ s1,s2,Uv,Eo];unfold rI;rw[Uv];have hx:AR x≠0:=λz=>h0 (by rw[<-Yg,Uv,z,Du]);have hy:AR y≠0:=λz=>h0 (by rw[<-Yg,Uv,z,RY]);have cU:(0:Int)<(AR x:Int)*(AR y:Int):=Int.mul_pos (by lia) (by lia);cases cS:negative x<;>cases cT:negative y
  .rw[Om cS,Om cT,if_neg (by decide),if_neg (by lia),CK]
  .rw[Om cS,Mc cT,if_pos (by decide),if_pos (by rw[Int.mul_neg];lia),CK,Pc]
  .rw[Mc cS,Om cT,if_pos (by decide),if_pos (by rw[Pc];lia),CK,Pc]
  .rw[Mc cS,Mc cT,if_neg (by decide),if_neg (by rw[Int.neg_mul_neg];lia),CK]
 have ufp:(fv (signBit (negative x !=negative y)+s)).natAbs<=1*2^B:=by
  rw[Q4 _ s1,Zu,s2];exact hp
 generalize signBit (negative x !=negative y)+s=p at*;have akt:c*2^B<=(c+1)*2^B:=Bj _ (by lia);have ao0:(2:Int)^149≠0:=by rw[Eo];have:=BF 149;lia
 have u0:fv p=0->units p=0:=λh=>by
  rcases aeK.mp h with z|z
  .exact z
  .exact absurd z ao0
 by_cases h0:units x*units y=0
 .
  have Qr:AR x*AR y=0:=by rw[<-Uv,h0];rfl
  have hs0:AR s=0:=by
   have:AR s*2^149=0:=by
    rw[s2,Qr];decide+kernel
   rcases Z5.mp this with z|z
   .exact z
   .exact absurd z (by have:=BF 149;lia)
  have OJ:units p=0:=by
   refine u0 (Yg.mp ?_);have e2:(fv p).natAbs=AR s*2^149:=by
    injection (em.symm.trans (by rw[mul_eq,hs];rfl:BC x y=some (signBit (negative x !=negative y)+s)))with e3
    rw[e3,Q4 _ s1,Zu]
   rw[e2,hs0,Du]
  refine⟨t,em,add_zero ht GD OJ,?_,GD,ht,Ao hT akt⟩;unfold Q1;rw[if_pos h0]
 .have e1:=ags h0;have hu:(units t+units p)*2^149=fv t+fv p:=by unfold fv;rw[ZM]
  have aku:(fv t+fv p).natAbs<=(c+1)*2^B:=by
   have:=YY (fv t) (fv p);rw[BE];lia
  have step:Q1 (fv t) (units x) (units y)=if 149<bl (fv t+fv p).natAbs-24 then rI (fv t+fv p) (bl (fv t+fv p).natAbs-24)*2^(bl (fv t+fv p).natAbs-24)else fv t+fv p:=by
   unfold Q1;rw[if_neg h0,<-e1]
  rw[step];by_cases hz:units t+units p=0
  .refine⟨0,em,?_,?_,by decide,HY,?_⟩
   .rw[add_eq,if_pos hz];have:¬(negative t=true/\negative p=true):=by
     rintro⟨a,b⟩;rw[Mc a,Mc b]at hz;have m0:AR t=0:=by lia
     rcases(Sx ht.1).mp m0 with z|z
     .subst z;exact absurd a (by decide)
     .exact GD z
    rw[if_neg this]
   .rw[<-hu,hz,aeo];rfl
   .show(fv 0).natAbs<=_;rw[show fv 0=0 from rfl];exact Er _
  .
   have en:(fv t+fv p).natAbs=(units t+units p).natAbs*2^149:=by
    rw[<-hu,Ku,Eo,Fe]
   have SV:=XS (f:=(fv t+fv p).natAbs) (c:=c+1) hB (by lia) aku;obtain⟨r,hr⟩:=wm (Ao SV (qP _ hc));obtain⟨r1,r2⟩:=wj hr;have ea:DJ t p=some (signBit (decide (units t+units p<0))+r):=by
    rw[add_eq,if_neg hz,<-en,hr];rfl
   have cQ:(fv t+fv p<0)↔units t+units p<0:=by
    rw[<-hu,Eo];have:=BF 149;generalize 2^149=P at*;constructor
    .intro h;apply P2;intro g;have:=Yt (show 0<=units t+units p by lia) (show(0:Int)<=P by lia);lia
    .intro h;exact nJ h (by lia)
   have ez:fv (signBit (decide (units t+units p<0))+r)=rI (fv t+fv p) (dr (fv t+fv p).natAbs)*2^dr (fv t+fv p).natAbs:=by
    rw[Q4 _ r1,r2,Eo];unfold rI;by_cases h:units t+units p<0
    .rw[if_pos (decide_eq_true h),if_pos (cQ.mpr h),CK,Pc]
    .rw[if_neg (by simp[h]),if_neg (λz=>h (cQ.mp z)),CK]
   have gT:(units t+units p).natAbs≠0:=λz=>hz (Yg.mp z);refine⟨_,em,ea,?_,?_,SH _ r1,?_⟩
   .rw[ez];by_cases c1:149<bl (fv t+fv p).natAbs-24
    .rw[if_pos c1,show dr (fv t+fv p).natAbs=bl (fv t+fv p).natAbs-24 by unfold dr;lia]
    .rw[if_neg c1,show dr (fv t+fv p).natAbs=149 by unfold dr;lia];unfold rI;rw[en,Wd (BF 149),Eo];by_cases h:fv t+fv p<0
     .rw[if_pos h,<-hu,Eo];have:=cQ.mp h;rw[show((units t+units p).natAbs:Int)= -(units t+units p) by lia,Int.neg_neg]
     .rw[if_neg h,<-hu,Eo];have:¬units t+units p<0:=λz=>h (cQ.mpr z);rw[show((units t+units p).natAbs:Int)=units t+units p by lia]
   .intro z;have m0:AR (signBit (decide (units t+units p<0))+r)=0:=by rw[z];decide
    rw[cC _ (by lia)]at m0;have:Bd (fv t+fv p).natAbs (2^dr (fv t+fv p).natAbs)*2^dr (fv t+fv p).natAbs=0:=by rw[<-r2,m0,Du]
    have h2:=BF (dr (fv t+fv p).natAbs);have h3:Bd (fv t+fv p).natAbs (2^dr (fv t+fv p).natAbs)=0:=by
     rcases Z5.mp this with z|z
     .exact z
     .lia
    obtain⟨_,_,q3⟩:=XR (fv t+fv p).natAbs;rcases q3 with q3|q3
    .rw[q3,en,Wd (BF 149)]at h3;exact gT h3
    .rw[h3]at q3;exact absurd q3 (by decide)
   .rw[Q4 _ r1,Zu,r2];exact SV
def rA(hB:149<=B)(VB:B+17<426):∀(l:List (Nat×Nat))(t c:Nat),c+l.length<=2^17->AI t->t≠2^31->(fv t).natAbs<=c*2^B->(∀p∈l,AR p.1*AR p.2<=2^B)->
 ∃z,addUp t l=some z/\fA (fv t) (l.map λp=>(units p.1,units p.2))=fv z/\z≠2^31/\AI z
 |[],t,_,_,ht,GD,_,_=>⟨t,rfl,rfl,GD,ht⟩
 |(x,y)::l,t,c,hc,ht,GD,hT,hl=>by
  rw[B4]at hc;obtain⟨p,z,h1,h2,h3,h4,h5,h6⟩:=r9 (x:=x) (y:=y) hB VB (by lia) ht GD (hl (x,y) Bu) hT;obtain⟨z',k1,k2,k3,k4⟩:=rA hB VB l z (c+1) (by lia) h5 h4 h6 λp hp=>hl p (Ba _ hp);refine⟨z',?_,?_,k3,k4⟩
  .show(BC x y).bind _=_;rw[h1];show(DJ t p).bind _=_;rw[h2];exact k1
  .show fA (Q1 (fv t) (units x) (units y)) _=_;rw[h3];exact k2
def auB(hz:AI z)(GD:z≠2^31):(near (fv z).natAbs).map (signBit (decide (fv z<0))+ ·)=some z:=by
 obtain⟨s,hs,e⟩:=acB hz;have hn:(fv z).natAbs=AR s*2^149:=by
  rw[e,Q4 _ hs,Zu]
 rw[hn,(wk hs).1,Gy];have hd:decide (fv z<0)=negative z:=by
  rw[e,Q4 _ hs,kP _ (by lia)];cases hb:negative z with
  |false=>rw[if_neg (by decide)];exact decide_eq_false (by lia)
  |true=>
   rw[if_pos rfl];have:AR s≠0:=by
    intro m;rcases(Sx (by lia)).mp m with z0|z0
    .rw[hb,z0]at e;exact GD e
    .lia
   have:0<AR s*2^149:=EC (by lia) (BF 149);exact decide_eq_true (by lia)
 rw[hd,<-e]
def ML:∀{l:List (Nat×Nat)}{t z:Nat},AI t->addUp t l=some z->AI z
 |[],t,z,ht,h=>by injection h with h;subst h;exact ht
 |(x,y)::l,t,z,ht,h=>by
  have h:((BC x y).bind λp=>(DJ t p).bind λa=>addUp a l)=some z:=h;cases e1:BC x y with
  |none=>rw[e1]at h;cases h
  |some p=>
   rw[e1]at h;have h:((DJ t p).bind λa=>addUp a l)=some z:=h;cases e2:DJ t p with
   |none=>rw[e2]at h;cases h
   |some a=>
    rw[e2]at h;exact ML (MM e2) h
def anr(h:Bd f (2^dr f)*2^dr f<2^426):∃s,near f=some s:=by
 obtain⟨h1,h2,h3⟩:=XR f;unfold near enc;generalize Bd f (2^dr f)=n at*;generalize dr f=d at*;have:¬2139095040<=(d-149)*2^23+n:=by
  intro c;have hd:402<=d:=by lia
  have h5:2^426<=n*2^d:=by
   by_cases c2:n=2^24
   .rw[c2,<-BP];exact EL (by decide) (by lia)
   .have:403<=d:=by lia
    refine Ao (EL (by decide) (show 426<=23+d by lia)) ?_;rw[BP];exact Bj _ (by lia)
  exact absurd (CT h h5) (GR _)
 exact⟨_,if_neg this⟩
def anm(h:f<=(2^24-1)*2^402+2^298):∃s,near f=some s:=by
 refine anr ?_;by_cases c:f<=(2^24-1)*2^402
 .exact FD (XS (by decide) (by decide) c) (by decide)
 .have e1:f/2^402=2^24-1:=by
   refine Nat.div_eq_of_lt_le (by lia) ?_;have:(2^24-1)*2^402+2^298<(2^24-1+1)*2^402:=by decide
   lia
  have e2:f %2^402<=2^298:=by
   have:=Gx f (2^402);rw[e1]at this;have e:2^402*(2^24-1)=(2^24-1)*2^402:=BV _ _;lia
  have hb:bl f=426:=by
   refine VT (k:=425) ?_ ?_
   .have:2^425<=(2^24-1)*2^402:=by decide
    lia
   .have:(2^24-1)*2^402+2^298<2^426:=by decide
    lia
  have hd:dr f=402:=by unfold dr;rw[hb];rfl
  rw[hd];have e3:¬(2^402<2*(f %2^402)\/(2*(f %2^402)=2^402/\f/2^402 %2=1)):=by
   have:2*2^298<2^402:=by decide
   lia
  unfold Bd;rw[e1,if_neg (by rw[<-e1];exact e3)];decide
def amZ(h:AI x):AR x<=(2^24-1)*2^253:=by
 obtain⟨h1,h2⟩:=h;unfold AR;have hk:x/2^23 %256≠255:=by
  intro e;unfold HK at h2;rw[e]at h2;exact absurd h2 (by decide)
 split
 .have:x %2^23<2^23:=D5 _ (by decide);have:2^23<=(2^24-1)*2^253:=by decide
  lia
 .refine GQ ?_ (EL (by decide) ?_)
  .have:x %2^23<2^23:=D5 _ (by decide);lia
  .have:x/2^23 %256<256:=D5 _ (by decide);lia
def sub_one(h:AI b):∃r,Ia ED b=some r:=by
 have ho:=amZ (yn h);unfold Ia;rw[add_eq];split
 .exact⟨_,rfl⟩
 .have e1:(units ED).natAbs=2^149:=by decide
  have e2:(units (Ks b)).natAbs=AR (Ks b):=by
   unfold units;split<;>lia
  have e3:(units ED+units (Ks b)).natAbs<=2^149+(2^24-1)*2^253:=by
   have:=YY (units ED) (units (Ks b));lia
  have e4:(units ED+units (Ks b)).natAbs*2^149<=(2^24-1)*2^402+2^298:=by
   refine Ao (Bj _ e3) ?_;decide
  obtain⟨s,hs⟩:=anm e4;rw[hs];exact⟨_,rfl⟩
open Sn38 (whole negative finite signBit addUp value less count places index at_ moved greatest)
def vf(h:s<t)(ht:t<2^31):AR s<AR t:=by
 have e1:s/2^23 %256=s/2^23:=Fh (by lia);have e2:t/2^23 %256=t/2^23:=Fh (by lia);have d1:=Gx s (2^23);have d2:=Gx t (2^23);have l1:=D5 s (BF 23);have l2:=D5 t (BF 23);unfold AR;rw[e1,e2];generalize s/2^23=e at*;generalize s %2^23=f at*;generalize t/2^23=e' at*;generalize t %2^23=f' at*;have tI:e<e'\/(e=e'/\f<f'):=by lia
 rcases tI with tI|⟨rfl,hf⟩
 .rw[if_neg (show¬e'=0 by lia)];by_cases h0:e=0
  .rw[if_pos h0]
   calc f<2^23:=l1
    _<=(f'+2^23)*1:=by lia
    _<=(f'+2^23)*2^(e'-1):=EX _ (BF _)
  .rw[if_neg h0]
   calc (f+2^23)*2^(e-1)<2^24*2^(e-1):=Kk (by lia) (BF _)
    _=2^23*2^e:=by
     obtain⟨k,rfl⟩:∃k,e=k+1:=⟨e-1,by lia⟩;rw[PB,<-BP,<-BP];congr 1;lia
    _<=2^23*2^(e'-1):=EX _ (EL (by decide) (by lia))
    _<=(f'+2^23)*2^(e'-1):=Bj _ (by lia)
 .by_cases h0:e=0
  .rw[if_pos h0,if_pos h0];exact hf
  .rw[if_neg h0,if_neg h0];exact Kk (by lia) (BF _)
def ve(x:Nat):AR x=AR (x %2^31):=by
 have e1:x %2^31/2^23 %256=x/2^23 %256:=by rw[show 2^31=2^23*256 from rfl,Nat.mod_mul_right_div_self,Nat.mod_mod]
 have e2:x %2^31 %2^23=x %2^23:=by rw[show 2^31=2^23*256 from rfl,Nat.mod_mul_right_mod]
 unfold AR;rw[e1,e2]
def cB(hs:s<2^31)(ht:t<2^31):AR s<AR t↔s<t:=by
 constructor
 .intro h;rcases oB s t with h1|h1|h1
  .exact h1
  .rw[h1]at h;lia
  .have:=vf h1 hs;lia
 .exact λh=>vf h ht
def aly(hx:x<2^32)(hy:y<2^32):less x y=decide (units x<units y):=by
 unfold less value negative units;rw[ve x,ve y];have m1:=@cB (x %2^31) (y %2^31) (D5 _ (BF 31)) (D5 _ (BF 31));have m2:=@cB (y %2^31) (x %2^31) (D5 _ (BF 31)) (D5 _ (BF 31));have m3:=@cB 0 (x %2^31) (by decide) (D5 _ (BF 31));have m4:=@cB 0 (y %2^31) (by decide) (D5 _ (BF 31));have m0:AR 0=0:=by decide
 rw[m0]at m3 m4;refine decide_eq_decide.mpr ?_;generalize hX:AR (x %2^31)=X at*;generalize hY:AR (y %2^31)=Y at*;have ex:∀z,z<2^32->2^31<=z->z-2^31=z %2^31:=λz h c=>by rw[Nat.mod_eq_sub_mod c,Fh (Nat.sub_lt_left_of_lt_add c h)]
 have nx:∀z:Nat,¬2^31<=z->(z:Int)=((z %2^31:Nat):Int):=λz c=>congrArg Int.ofNat (Fh (UR.1 c)).symm;by_cases c1:2^31<=x<;>by_cases c2:2^31<=y<;>simp only[c1,c2,decide_true,decide_false,if_true,if_false,NW]
 .rw[ex x hx c1,ex y hy c2];clear ex nx hX hY c1 c2;generalize x %2^31=a at*;generalize y %2^31=b at*;lia
 .rw[ex x hx c1,nx y c2];clear ex nx hX hY c1 c2;generalize x %2^31=a at*;generalize y %2^31=b at*;lia
 .rw[nx x c1,ex y hy c2];clear ex nx hX hY c1 c2;generalize x %2^31=a at*;generalize y %2^31=b at*;lia
 .rw[nx x c1,nx y c2,ZJ,ZJ];exact m1.symm
def Wb(f:Nat->Nat->α)(b:Nat):∀a,(A8 a).flatMap (λp=>(A8 b).map (f p))=(A8 (a*b)).map λi=>f (i/b) (i %b)
 |0=>by rw[Du];rfl
 |a+1=>by
  rw[PZ,UC,Wb f b a,BE,BQ,Yu,E9];congr 1;rw[nF,CA];refine Lm λy hy=>?_;have hy:=BD.mp hy;show f a y=f ((a*b+y)/b) ((a*b+y) %b);rw[BV a b,Gz (by lia),Ff hy,JE,Kn,Fh hy]
def places_eq(s:BA):places s=(A8 (s.1*(s.2.1*s.2.2))).map λi=>(i/(s.2.1*s.2.2),i %(s.2.1*s.2.2)/s.2.2,i %(s.2.1*s.2.2) %s.2.2):=by
 unfold places;rw[<-Wb (λp j=>(p,j/s.2.2,j %s.2.2)) (s.2.1*s.2.2)];congr 1;funext p;exact Wb (λy x=>(p,y,x)) s.2.2 s.2.1
def bV(hp:p<s.1)(hy:y<s.2.1)(hx:x<s.2.2):index s p y x<count s:=by
 unfold index count
 calc (p*s.2.1+y)*s.2.2+x<(p*s.2.1+y)*s.2.2+s.2.2:=by lia
  _=(p*s.2.1+y+1)*s.2.2:=by rw[BE _ 1,BQ]
  _<=(p*s.2.1+s.2.1)*s.2.2:=Bj _ (by lia)
  _=(p+1)*s.2.1*s.2.2:=by rw[BE p 1,BQ]
  _<=s.1*s.2.1*s.2.2:=Bj _ (Bj _ hp)
def uc(hy:y<s.2.1)(hx:x<s.2.2):index s p y x/(s.2.1*s.2.2)=p/\index s p y x %(s.2.1*s.2.2)/s.2.2=y/\index s p y x %(s.2.1*s.2.2) %s.2.2=x:=by
 have hl:y*s.2.2+x<s.2.1*s.2.2:=by
  calc y*s.2.2+x<y*s.2.2+s.2.2:=by lia
   _=(y+1)*s.2.2:=by rw[BE,BQ]
   _<=_:=Bj _ hy
 have e:index s p y x=s.2.1*s.2.2*p+(y*s.2.2+x):=by
  unfold index;rw[BE,B6,BV p,PQ]
 have h1:index s p y x/(s.2.1*s.2.2)=p:=by rw[e,Gz (by lia),Ff hl,JE]
 have h2:index s p y x %(s.2.1*s.2.2)=y*s.2.2+x:=by rw[e,Kn,Fh hl]
 refine⟨h1,?_,?_⟩
 .rw[h2,BV,Gz (by lia),Ff hx,JE]
 .rw[h2,BV,Kn,Fh hx]
def ud:index s (i/(s.2.1*s.2.2)) (i %(s.2.1*s.2.2)/s.2.2) (i %(s.2.1*s.2.2) %s.2.2)=i:=by
 unfold index;have h1:=Gx i (s.2.1*s.2.2);have h2:=Gx (i %(s.2.1*s.2.2)) s.2.2;rw[BE,B6,BV (i/_),PQ,BV (_/s.2.2),h2,h1]
def ua(h:i<count s):i/(s.2.1*s.2.2)<s.1/\i %(s.2.1*s.2.2)/s.2.2<s.2.1/\i %(s.2.1*s.2.2) %s.2.2<s.2.2:=by
 have h:i<s.1*(s.2.1*s.2.2):=by rw[<-B6];exact h
 have hb:0<s.2.1*s.2.2:=Yh λz=>by rw[z,RY]at h;lia
 have hc:0<s.2.2:=Yh λz=>by rw[z,RY]at hb;lia
 refine⟨(NX hb).mpr h,(NX hc).mpr (D5 _ hb),D5 _ hc⟩
open Sn38 (whole negative finite signBit addUp value less count places index at_ moved greatest weightAt)
def AQ(k y:Nat):Nat:=k/2-y
def Aj(k n R y:Nat):Nat:=max (AQ k y) (min n (R+k/2-y))
def b5(a b:Nat):((a-b:Nat):Int)=max 0 ((a:Int)-b):=by lia
def ah9(a b:Nat):((max a b:Nat):Int)=max (a:Int) b:=by omega
def ahA(a b:Nat):((min a b:Nat):Int)=min (a:Int) b:=by omega
def amg(A B n:Int)(h:0<=n):max (max 0 A) (min n B)=max (max 0 A) (min n (max 0 B)):=by
 rcases Int.le_total 0 B with hb|hb
 .rw[ads hb]
 .rw[Z6 hb,adt h,adt (Kp hb h),Z6 (Kp hb (RS ..)),Z6 (RS ..)]
def be{k:Nat}(h:k=1\/k=3\/k=5):k<=5:=by rcases h with rfl|rfl|rfl<;>decide
def Sn{k:Nat}(h:k=1\/k=3\/k=5):0<k*k:=by rcases h with rfl|rfl|rfl<;>decide
def aw(h:AQ k y<Aj k n R y):Aj k n R y<=n/\Aj k n R y<=R+k/2-y:=by
 unfold Aj at*;rcases aer (AQ k y) (min n (R+k/2-y))with c|c
 .rw[Nat.max_eq_right c];exact⟨NY ..,YV ..⟩
 .rw[Nat.max_eq_left c]at h;exact absurd h (GR _)
def tO(k n R y:Nat):max (max 0 (((k/2:Nat):Int)-(y:Int))) (min (n:Int) ((R:Int)+((k/2:Nat):Int)-(y:Int)))=((Aj k n R y:Nat):Int):=by
 unfold Aj AQ;generalize k/2=h;rw[ah9,ahA,b5,b5,IV,amg _ _ _ (U3 n)]
def Ex{α:Type}(xs:List α)(s:BA)(t b l r:Nat):List α:=(A8 s.1).flatMap λp=>(A8 (b-t)).flatMap λi=>(xs.drop ((p*s.2.1+(t+i))*s.2.2+l)).take (r-l)
def Gi:∀{l:List α},(∀x∈l,f x=g x)->l.flatMap f=l.flatMap g
 |[],_=>rfl
 |x::l,h=>by rw[Fx,Fx,h x Bu,Gi λy hy=>h y (Ba _ hy)]
def ahB(f:α->β)(xs:List α)(s:BA)(t b l r:Nat):Ex (xs.map f) s t b l r=(Ex xs s t b l r).map f:=by
 unfold Ex;rw[P7];congr 1;funext p;rw[P7];congr 1;funext i;rw[PR,UN]
def MP(h:x∈Ex xs s t b l r):x∈xs:=by
 unfold Ex at h;obtain⟨p,_,h⟩:=RQ.mp h;obtain⟨i,_,h⟩:=RQ.mp h;exact Hn (GO h)
def afn(h:i<r.length):at_ r i=r[i]:=by
 unfold at_;rw[IQ,E8 h];rfl
def sO(h:q+n<=xs.length):(xs.drop q).take n=(A8 n).map λj=>at_ xs (q+j):=by
 refine FE (by simp;lia) λi h1 h2=>?_;have hi:i<n:=by simpa using h2
 rw[YZ,Y_,Jm,FC,afn (by lia)]
def rg(hx:xs.length=count s)(hb:b<=s.2.1)(hr:r<=s.2.2):Ex xs s t b l r=(A8 s.1).flatMap λp=>(A8 (b-t)).flatMap λi=>(A8 (r-l)).map λj=>at_ xs (index s p (t+i) (l+j)):=by
 unfold Ex;refine Gi λp hp=>Gi λi hi=>?_;have hp:=BD.mp hp;have hi:=BD.mp hi;by_cases h:r<=l
 .rw[show r-l=0 from by lia];rw[oI];rfl
 .rw[sO]
  .refine Lm λj _=>?_;unfold index;congr 1;lia
  .have h1:=bV (s:=s) (p:=p) (y:=t+i) (x:=r-1) hp (by lia) (by lia);unfold index at h1;rw[hx];lia
def avQ{a b:List α}{c d:List β}(h:a.length=c.length):(a++b).zip (c++d)=a.zip c++b.zip d:=List.zip_append h
def mF{f:α->List β}{g:α->List γ}:∀{l:List α},(∀x∈l,(f x).length=(g x).length)->(l.flatMap f).zip (l.flatMap g)=l.flatMap λx=>(f x).zip (g x)
 |[],_=>rfl
 |x::l,h=>by
  rw[Fx,Fx,Fx,avQ (h x Bu),mF λy hy=>h y (Ba _ hy)]
def rC{f:α->List β}{g:α->List γ}:∀{l:List α},(∀x∈l,(f x).length=(g x).length)->(l.flatMap f).length=(l.flatMap g).length
 |[],_=>rfl
 |x::l,h=>by rw[Fx,Fx,Bo,Bo,h x Bu,rC λy hy=>h y (Ba _ hy)]
def rh{s s':BA}{t b l r t' b' l' r':Nat}(hs:s.1=s'.1)(hx:xs.length=count s)(hy:ys.length=count s')(hb:b<=s.2.1)(hr:r<=s.2.2)(KR:b'<=s'.2.1)(FX:r'<=s'.2.2)(e1:b-t=b'-t')(e2:r-l=r'-l'):
 (Ex xs s t b l r).zip (Ex ys s' t' b' l' r')=(A8 s.1).flatMap λp=>(A8 (b-t)).flatMap λi=>(A8 (r-l)).map λj=>(at_ xs (index s p (t+i) (l+j)),at_ ys (index s' p (t'+i) (l'+j))):=by
 rw[rg hx hb hr,rg hy KR FX,<-hs,<-e1,<-e2,mF λp _=>rC λi _=>by rw[AV,AV]];refine Gi λp _=>?_;rw[mF λi _=>by rw[AV,AV]];refine Gi λi _=>?_;exact List.zip_map'
def zU(f:Nat->List α)(h:hi<=n)(hl:lo<=hi):(A8 n).flatMap (λi=>if lo<=i/\i<hi then f i else[])=(A8 (hi-lo)).flatMap λi=>f (lo+i):=by
 obtain⟨d,rfl⟩:=JA h;obtain⟨m,rfl⟩:=JA hl;rw[IS,Yu,UC,Yu,UC];rw[show(A8 lo).flatMap (λi=>if lo<=i/\i<lo+m then f i else[])=[]from ?_,show((A8 d).map λx=>lo+m+x).flatMap (λi=>if lo<=i/\i<lo+m then f i else[])=[]from ?_,Ko,JD,adu]
 .refine Gi λi hi=>?_;have:=BD.mp hi;rw[if_pos (by lia)]
 .rw[P5];intro x hx;obtain⟨i,_,rfl⟩:=Ca.mp hx;rw[if_neg (by lia)]
 .rw[P5];intro x hx;have:=BD.mp hx;rw[if_neg (by lia)]
def r6(f:α->Option β)(l:List α):l.filterMap f=l.flatMap λx=>(f x).toList:=by
 induction l with
 |nil=>rfl
 |cons x l ih=>rw[Ho,Fx,ih];cases f x<;>rfl
def vx(hi:i<n):moved R k y i=if AQ k y<=i/\i<Aj k n R y then some (y+i-k/2)else none:=by
 unfold moved;rw[Fi];by_cases c:k/2<=i+y/\i+y<R+k/2
 .rw[if_pos c,if_pos ⟨U8 c.1,CT (Nat.lt_min.2 ⟨hi,Nat.lt_sub_of_add_lt c.2⟩) (YW ..)⟩]
 .rw[if_neg c,if_neg λc'=>c ⟨NV c'.1,Nat.add_lt_of_lt_sub (UR.1 λg=>Nj.2 (Rg.2 ⟨c'.1,Ao (YV ..) g⟩) c'.2)⟩]
def vz(R k y i:Nat):moved R k y i=moved R k i y:=by
 unfold moved;rw[Fi]
def iY(f:α->β)(l:List α):l.map f=l.flatMap λx=>[f x]:=by
 induction l with
 |nil=>rfl
 |cons x l ih=>rw[BW,Fx,ih];rfl
def Ql(hn:k/2<=n+y):AQ k y<=Aj k n R y/\Aj k n R y<=n:=by
 exact⟨NZ ..,Rg.2 ⟨U8 hn,NY ..⟩⟩
def acT(hn:k/2<=n+y)(hm:k/2<=m+x)(F:Nat->Nat->Nat->Nat->α):
 ((A8 n).flatMap λi=>(A8 m).filterMap λj=>(moved R k y i).bind λyy=>(moved C k x j).map λcc=>F i j yy cc)=
  (A8 (Aj k n R y-AQ k y)).flatMap λi=>(A8 (Aj k m C x-AQ k x)).map λj=>F (AQ k y+i) (AQ k x+j) (y+(AQ k y+i)-k/2) (x+(AQ k x+j)-k/2):=by
 obtain⟨h1,h2⟩:=Ql (R:=R) hn;obtain⟨h3,h4⟩:=Ql (R:=C) hm;rw[<-zU (λi=>(A8 (Aj k m C x-AQ k x)).map λj=>F i (AQ k x+j) (y+i-k/2) (x+(AQ k x+j)-k/2)) h2 h1];refine Gi λi hi=>?_;rw[vx (BD.mp hi)];by_cases c:AQ k y<=i/\i<Aj k n R y
 .rw[if_pos c,if_pos c,r6];rw[iY,<-zU (λj=>[F i j (y+i-k/2) (x+j-k/2)]) h4 h3];refine Gi λj hj=>?_;rw[vx (BD.mp hj)];by_cases c2:AQ k x<=j/\j<Aj k m C x
  .rw[if_pos c2,if_pos c2];rfl
  .rw[if_neg c2,if_neg c2];rfl
 .rw[if_neg c,if_neg c];rw[r6,P5];intro j _;rfl
def iW(f:α->List β)(F:β->Option γ):∀(l:List α),(l.flatMap f).mapM F=(l.mapM λa=>(f a).mapM F).map Lx
 |[]=>rfl
 |x::l=>by
  rw[Fx,Cm,List.mapM_append,iW f F l];cases(f x).mapM F with
  |none=>rfl
  |some ys=>
   cases(l.mapM λa=>(f a).mapM F)with
   |none=>rfl
   |some zs=>rfl
def OQ(f:α->β)(F:β->Option γ):∀(l:List α),(l.map f).mapM F=l.mapM λa=>F (f a)
 |[]=>rfl
 |x::l=>by rw[BW,Cm,Cm,OQ f F l]
def XG{l h y m:Nat}(a:m<=l+y)(b:l<=h):h-l=h+y-m-(l+y-m):=by
 rw[mj a,mn]
def XH{l y m i:Nat}(a:m<=l+y):l+y-m+i=y+(l+i)-m:=by
 rw[<-adv a,Fi l y,PQ]
def acU{l h i R m:Nat}(a:l<h)(b:h<=R+m-i):h+i-m<=R:=
 U8 (adZ (Ht (Nat.lt_of_sub_pos (CT (aeI a) b))) b)
def XI{l h R y:Nat}(c:h<=R)(d:y<h-l):l+y<R:=CT (adm d) c
def acV{l h i R m y:Nat}(a:m<=l+i)(b:l<h)(c:h+i-m<=R)(d:y<h-l):l+i-m+y<R:=by
 rw[<-adv a,Nat.add_right_comm];exact CT (Nat.sub_lt_sub_right (Ao a (RI (Fy ..) _)) (adY (adm d) i)) c
def P1{l y m:Nat}(a:m<=l+y):(l:Int)+(0+(y:Int)-(m:Int))=((l+y-m:Nat):Int):=by
 rw[IW,Int.ofNat_sub a,IV,Int.add_sub_assoc]
def acX{l h y m R:Nat}(a:m<=l+y)(b:h-l<=R):h+y-m-(l+y-m)<=R:=by
 rw[mj a,mn];exact b
def acW{l h y m k:Nat}(a:m<=l+y)(b:h<=k):h+y-m-(l+y-m)<=k:=by
 rw[mj a,mn];exact Ao (Kx ..) b
end SN
namespace L2
open PySem PySem.Spec PyProof.Rows
abbrev Key:=Sum Int Str
def NN:Key->A5->Bool
 | .inl k,v=>af4 k v
 | .inr x,v=>aef x v
def alf(w:Bg):Key->Int
 | .inl k=>hashInt k
 | .inr x=>hashStr w x
def NO:∀{k:Key}{v:A5},NN k v=true->(∃i t,k=G_ i/\v=Rk i t)\/(∃x t,k=Pj x/\v=ZX x t)
 | .inl i,v,h=>by
  obtain⟨t,e⟩:=Value.isInt_shape (k:=i) (v:=v) h;exact .inl ⟨i,t,rfl,e⟩
 | .inr x,v,h=>by
  obtain⟨t,e⟩:=Value.isStrOf_shape (x:=x) (v:=v) h;exact .inr ⟨x,t,rfl,e⟩
def alg(i:Int)(t:Tok):NN (.inl i) (.int i t)=true:=by simp[NN,af4]
def alh(x:Str)(t:Tok):NN (.inr x) (.str x t)=true:=by simp[NN,aef]
def ali(a b:Int):decide ((G_ a:Key)=G_ b)=(a==b):=by
 by_cases e:a=b
 .subst e;simp
 .have h:¬(G_ a:Key)=G_ b:=λq=>e (Sum.inl.inj q);rw[decide_eq_false h];exact(beq_eq_false_iff_ne.mpr e).symm
def alm(a b:Str):decide ((Pj a:Key)=Pj b)=decide (a=b):=by
 by_cases e:a=b
 .subst e;simp
 .have h:¬(Pj a:Key)=Pj b:=λq=>e (Sum.inr.inj q);rw[decide_eq_false h,decide_eq_false e]
def alj(a:Int)(b:Str):decide ((G_ a:Key)=Pj b)=false:=decide_eq_false (λq=>nomatch q)
def alk(a:Str)(b:Int):decide ((Pj a:Key)=G_ b)=false:=decide_eq_false (λq=>nomatch q)
def F7(prog:Bs)(w:Bg):PySem.KeyKind prog w Key where
 is:=NN
 hash:=alf w
 inj:=λv a b ha hb=>by
  rcases NO ha with⟨i,t,rfl,rfl⟩|⟨x,t,rfl,rfl⟩
  .rcases NO hb with⟨j,u,rfl,e⟩|⟨y,u,rfl,e⟩
   .injection e with e1 _;rw[e1]
   .exact nomatch e
  .rcases NO hb with⟨j,u,rfl,e⟩|⟨y,u,rfl,e⟩
   .exact nomatch e
   .injection e with e1 _;rw[e1]
 byValue:=λk v h=>by
  rcases NO h with⟨i,t,rfl,rfl⟩|⟨x,t,rfl,rfl⟩<;>rfl
 pyHash:=λhv h=>by
  rcases NO hv with⟨i,t,rfl,rfl⟩|⟨x,t,rfl,rfl⟩
  .exact wpAny_pyHash_int h
  .exact wpAny_pyHash_str h
 eqBool:=λhu hv h=>by
  rcases NO hu with⟨i,t,rfl,rfl⟩|⟨x,t,rfl,rfl⟩
  .rcases NO hv with⟨j,u,rfl,rfl⟩|⟨y,u,rfl,rfl⟩
   .rw[ali]at h;exact wpAny_eqBool_int h
   .rw[alj]at h;exact ae8 i t y u _ _ _ _ h
  .rcases NO hv with⟨j,u,rfl,rfl⟩|⟨y,u,rfl,rfl⟩
   .rw[alk]at h;exact ae9 x t j u _ _ _ _ h
   .rw[alm]at h;exact wpAny_eqBool_str h
 «strs»:=λk x t v h=>by
  rcases NO h with⟨i,u,rfl,e⟩|⟨y,u,rfl,e⟩
  .exact nomatch e
  .injection e with e1 _
   subst e1;cases v<;>rfl
def amm(prog:Bs)(w:Bg)(i:Int)(t:Tok):(F7 prog w).is (.inl i) (.int i t)=true:=alg i t
def amn(prog:Bs)(w:Bg)(x:Str)(t:Tok):(F7 prog w).is (.inr x) (.str x t)=true:=alh x t
inductive V where
 |Ah|bl (b:Bool)|int (i:Int)|str (x:Str)|HS (b:Array UInt8)|Uz (b:UInt64)|ref (a:A0)|ty (n:String)
 deriving DecidableEq
def RelV:V->A5->Prop
 | .Ah,u=>u=Ky
 | .bl b,u=>u=Rh b
 | .int i,u=>∃t,u=Rk i t
 | .str x,u=>∃t,u=ZX x t
 | .HS b,u=>∃t,u=af5 b t
 | .Uz b,u=>∃t,u=af6 b t
 | .ref a,u=>u=Cc a
 | .ty n,u=>u=afI n
abbrev Ai:List V->List A5->Prop:=M7 RelV
def Ai.length(r:Ai xs us):xs.length=us.length:=ZK r
def Ai.get:∀{xs:List V}{us:List A5}{i:Nat}{x:V},Ai xs us->xs[i]? =some x->∃u,us[i]? =some u/\RelV x u
 |_,_,_,_,.nil,e=>by simp at e
 |_,_,0,_,.cons r _,e=>by simp at e;subst e;exact⟨_,rfl,r⟩
 |_,_,i+1,x,.cons _ t,e=>by
  obtain⟨u,h1,h2⟩:=Ai.get (i:=i) (x:=x) t (by simpa using e);exact⟨u,by simpa using h1,h2⟩
def Ai.set(r:RelV x u):∀{xs:List V}{us:List A5}(i:Nat),Ai xs us->Ai (xs.set i x) (us.set i u)
 |_,_,_,.nil=> .nil
 |_,_,0,.cons _ t=> .cons r t
 |_,_,i+1,.cons q t=> .cons q (Ai.set r i t)
def Ai.append:∀{xs ys:List V}{us ws:List A5},Ai xs us->Ai ys ws->Ai (xs++ys) (us++ws)
 |_,_,_,_,.nil,s=>s
 |_,_,_,_,.cons r t,s=> .cons r (Ai.append t s)
def Ai.take:∀{xs:List V}{us:List A5}(n:Nat),Ai xs us->Ai (xs.take n) (us.take n)
 |_,_,0,_=> .nil
 |_,_,_+1,.nil=> .nil
 |_,_,n+1,.cons r t=> .cons r (Ai.take n t)
def Ai.drop:∀{xs:List V}{us:List A5}(n:Nat),Ai xs us->Ai (xs.drop n) (us.drop n)
 |_,_,0,r=>r
 |_,_,_+1,.nil=> .nil
 |_,_,n+1,.cons _ t=>Ai.drop n t
def Ai.none_of:∀{xs:List V}{us:List A5}{i:Nat},Ai xs us->xs[i]? =none->us[i]? =none:=λ{xs us i}r e=>by
 have h1:=r.length;have h2:xs.length<=i:=nK.mp e;exact nK.mpr (by lia)
def Gh:Option V->Option A5->Prop
 |some v,some u=>RelV v u
 |none,none=>True
 |_,_=>False
def KV{κ:Type}:List (κ×V)->List (κ×A5)->Prop:=M7 λ(p:κ×V)(q:κ×A5)=>p.1=q.1/\RelV p.2 q.2
def kV:Key->V
 | .inl i=> .int i
 | .inr x=> .str x
inductive HO where
 |lst (xs:List V)
 |tup (xs:List V)
 |dK (A9:List (Key×V))|dT (A9:List (List Key×V))
 |set (S:Int->Bool) (n:Nat)
 |ins (C dx:A0) (fs:List (Str×V))
 |own (x:A0)
 |xd (fs:List (Str×V))
 |met (f x:A0)
 |XU (lo hi:Int)
 |CY (o:Obj) (u:HO)
 |Oj (ps:Array A5)
 |ext (φ:B5->Prop)
abbrev Hp:=A0->Option HO
def upd(H:Hp)(a:A0)(o:HO):Hp:=λb=>if b=a then some o else H b
def AB:upd H a o a=some o:=by unfold upd;rw[if_pos rfl]
def AY(h:b≠a):upd H a o b=H b:=by unfold upd;rw[if_neg h]
def Ds:upd (upd H a o) a u=upd H a u:=by
 funext b;unfold upd;split<;>rfl
def anl{H:Hp}(h:H a=some o)(h':H b=some u)(d:o≠u):a≠b:=by
 intro e;subst e;rw[h]at h';exact d (GW h')
def Dm{H:Hp}(h:H a=some o)(h':H b=none):a≠b:=by
 intro e;subst e;rw[h]at h';cases h'
section
variable(P:Bs)(w:Bg)
def Dg(H:Hp)(h:B5)(a:A0):HO->Prop
 | .lst xs=>xs.length<=Al/\∃(its:List A5)(n:Nat),Ai xs its/\h.get? a=some {cls:=.type "list",data:=.seq its.toArray n}
 | .tup xs=>xs.length<=Al/\∃its:List A5,Ai xs its/\IsTup h a its.toArray
 | .dK A9=>A9.length<=Al/\(a==Jv)=false/\∃vs,KV A9 vs/\h.DictOf (F7 P w) a vs
 | .dT A9=>A9.length<=Al/\(a==Jv)=false/\∃xs:List (List Key×A0×A5),
  M7 (λ(p:List Key×V)(q:List Key×A0×A5)=>p.1=q.1/\H q.2.1=some (.tup (p.1.map kV))/\RelV p.2 q.2.2) A9 xs/\
  ∃o es ep,h.get? a=some o/\o.ExactDict/\o.data=.dict es ep/\es.toList=xs.map (entryOfKey (UY (F7 P w)))/\(xs.map (·.1)).Nodup
 | .set S n=>h.SetOf (intKind P w) a S n
 | .ins C dx fs=>H dx=some (.own a)/\fs.length<=1000/\dx≠a/\h.get? a=some (N_ C dx)/\
  ∃mA,h.Ns1 dx mA/\(∀f,Gh (fs.lookup f) (mA f))/\oU mA (fs.map (·.1))
 | .own _=>∃o,h.get? a=some o
 | .xd fs=>∃mA,h.Ns1 a mA/\∀f,Gh (fs.lookup f) (mA f)
 | .XU lo hi=>∃t u v,h.get? a=some {cls:=.type "range",data:=.fields #[.int lo t,.int hi u,.int 1 v]}
 | .CY o u=>h.get? a=some o/\Dg H h a u
 | .Oj ps=>h.get? a=some {cls:=.none,data:=.fields ps}
 | .met f x=>h.get? a=some (oC (.ref f) (.ref x))
 | .ext φ=>φ h/\(∃o,h.get? a=some o)/\∀h1 h2:B5,φ h1->(∀o,h1.get? a=some o->h2.get? a=some o)->φ h2
def Co(H:Hp)(h:B5):Prop:=∀a o,H a=some o->Dg P w H h a o
end
section
variable{P:Bs}{w:Bg}{H H':Hp}{h h':B5}{a:A0}{o:HO}
def Dg.lt(x:Dg P w H h a o):a<h.objs.size:=by
 cases o with
 |lst xs=>obtain⟨_,_,_,_,e⟩:=x;exact BZ e
 |tup xs=>obtain⟨_,_,_,p⟩:=x;exact p.lt
 |dK A9=>obtain⟨_,_,_,_,o,_,_,e,_⟩:=x;exact BZ e
 |dT A9=>obtain⟨_,_,_,_,o,_,_,e,_⟩:=x;exact BZ e
 |set S n=>obtain⟨o,_,_,_,e,_⟩:=x;exact BZ e
 |ins C dx fs=>obtain⟨_,_,_,e,_⟩:=x;exact BZ e
 |own y=>obtain⟨_,e⟩:=x;exact BZ e
 |xd fs=>obtain⟨_,⟨_,_,_,e,_⟩,_⟩:=x;exact BZ e
 |XU lo hi=>obtain⟨_,_,_,e⟩:=x;exact BZ e
 |CY ob u=>obtain⟨e,_⟩:=x;exact BZ e
 |Oj ps=>exact BZ (show h.get? a=some _ from x)
 |met f y=>exact BZ (show h.get? a=some _ from x)
 |ext φ=>obtain⟨_,⟨_,e⟩,_⟩:=x;exact BZ e
def Paired.iX:∀{l₁:List α}{l₂:List β},M7 F l₁ l₂->(∀a b,F a b->G a b)->M7 G l₁ l₂
 |_,_,.nil,_=> .nil
 |_,_,.cons r t,f=> .cons (f _ _ r) (Paired.iX t f)
def Dg.KZ(x:Dg P w H h a o)(k:∀b u,(b=a\/H b=some (.own a))->h.get? b=some u->h'.get? b=some u)
 (ho:∀b,H b=some (.own a)->H' b=some (.own a))(ht:∀b xs,H b=some (.tup xs)->H' b=some (.tup xs)):Dg P w H' h' a o:=by
 induction o with
 |lst xs=>obtain⟨z,its,n,r,e⟩:=x;exact⟨z,its,n,r,k _ _ (.inl rfl) e⟩
 |tup xs=>obtain⟨z,its,r,ob,e,c⟩:=x;exact⟨z,its,r,ob,k _ _ (.inl rfl) e,c⟩
 |dK A9=>obtain⟨z,y,vs,r,ob,es,ep,e,c⟩:=x;exact⟨z,y,vs,r,ob,es,ep,k _ _ (.inl rfl) e,c⟩
 |dT A9=>
  obtain⟨z,y,xs,r,ob,es,ep,e,c⟩:=x;exact⟨z,y,xs,Paired.iX r λp q z=>⟨z.1,ht _ _ z.2.1,z.2.2⟩,ob,es,ep,k _ _ (.inl rfl) e,c⟩
 |set S n=>obtain⟨ob,es,ep,t,e,c⟩:=x;exact⟨ob,es,ep,t,k _ _ (.inl rfl) e,c⟩
 |ins C dx fs=>
  obtain⟨d,z,ne,e,mA,⟨od,es,ep,e2,c⟩,r⟩:=x;exact⟨ho _ d,z,ne,k _ _ (.inl rfl) e,mA,⟨od,es,ep,k _ _ (.inr d) e2,c⟩,r⟩
 |own y=>obtain⟨ob,e⟩:=x;exact⟨ob,k _ _ (.inl rfl) e⟩
 |xd fs=>obtain⟨mA,⟨od,es,ep,e,c⟩,r⟩:=x;exact⟨mA,⟨od,es,ep,k _ _ (.inl rfl) e,c⟩,r⟩
 |XU lo hi=>obtain⟨t,u,v,e⟩:=x;exact⟨t,u,v,k _ _ (.inl rfl) e⟩
 |CY ob u ih=>obtain⟨e,q⟩:=x;exact⟨k _ _ (.inl rfl) e,ih q⟩
 |Oj ps=>
  have e:h.get? a=some {cls:=.none,data:=.fields ps}:=x;show h'.get? a=some {cls:=.none,data:=.fields ps};exact k a _ (.inl rfl) e
 |met f y=>
  have e:h.get? a=some (oC (.ref f) (.ref y)):=x;show h'.get? a=some (oC (.ref f) (.ref y));exact k a _ (.inl rfl) e
 |ext φ=>obtain⟨p,⟨o,e⟩,st⟩:=x;exact⟨st _ _ p λo q=>k _ _ (.inl rfl) q,⟨o,k _ _ (.inl rfl) e⟩,st⟩
def Co.lt(x:Co P w H h)(e:H a=some o):a<h.objs.size:=(x a o e).lt
def Co.fresh(x:Co P w H h)(e:h.objs.size<=a):H a=none:=by
 cases q:H a with
 |none=>rfl
 |some u=>exact absurd (CT (x.lt q) e) (GR _)
def Co.kept(x:Co P w H h)(k:∀b u,h.get? b=some u->h'.get? b=some u):Co P w H h':=λa o e=>
 (x a o e).KZ (λb u _ q=>k b u q) (λ_ q=>q) λ_ _ q=>q
def Co.laid(x:Co P w H h)(k:∀b u,h.get? b=some u->h'.get? b=some u)(hp:h.objs.size<=a)(new:Dg P w (upd H a o) h' a o):Co P w (upd H a o) h':=λb u e=>by
 have hn:=x.fresh hp;by_cases hb:b=a
 .subst hb;rw[AB]at e;cases e;exact new
 .rw[AY hb]at e;exact(x b u e).KZ (λc v _ q=>k c v q) (λc q=>by rw[AY (Dm q hn)];exact q) λc xs q=>by rw[AY (Dm q hn)];exact q
end
def Rd(H:Hp)(a:A0)(u:HO):Prop:=H a=some u\/∃o,H a=some (.CY o u)
def Rd.ok(r:Rd H a u)(x:Co P w H h):Dg P w H h a u:=by
 rcases r with r|⟨o,r⟩
 .exact x a u r
 .obtain⟨_,q⟩:=x a _ r;exact q
def OO:Option HO->Prop
 |some (.lst _)=>True
 |some (.dK _)=>True
 |some (.dT _)=>True
 |some (.set _ _)=>True
 |some (.ins _ _ _)=>True
 |some (.ext _)=>True
 |_=>False
section
variable{P:Bs}{w:Bg}{H:Hp}{h h':B5}{x e:A0}{o':HO}
def Co.write(ok:Co P w H h)(mu:OO (H x))(he:e=x\/H e=some (.own x))(k:∀b u,b≠e->h.get? b=some u->h'.get? b=some u)(SX:∃u,h'.get? e=some u)
 (new:Dg P w (upd H x o') h' x o'):Co P w (upd H x o') h':=λb u q=>by
 have xC:∀c y,H c=some (.own y)->c≠x:=λc y r z=>by subst z;rw[r]at mu;exact mu
 have anX:∀c xs,H c=some (.tup xs)->c≠x:=λc xs r z=>by subst z;rw[r]at mu;exact mu
 by_cases hb:b=x
 .subst hb;rw[AB]at q;cases q;exact new
 .rw[AY hb]at q;by_cases QA:b=e
  .have q':H b=some (.own x):=by
    rcases he with z|z
    .exact absurd (QA.trans z) hb
    .rw[QA];exact z
   rw[q]at q';cases q';obtain⟨v,hv⟩:=SX;exact⟨v,by rw[QA];exact hv⟩
  .refine(ok b u q).KZ (λc v hc r=>k c v ?_ r) (λc r=>by rw[AY (xC c b r)];exact r) λc xs r=>by rw[AY (anX c xs r)];exact r
   rcases hc with rfl|hc
   .exact QA
   .rintro rfl;rcases he with z|z
    .exact xC c b hc z
    .rw[hc]at z;cases z;exact hb rfl
end
structure Un(fs ex:List A0)(H H':Hp)(h h':B5):Prop where
 keep:∀b o,h.get? b=some o->H b=none->b∉fs->b∉ex->h'.get? b=some o
 slot:∀b o,h.get? b=some o->H b=none->b∈fs->b∉ex->∃sl,h'.get? b=some {o with slots:=sl}
 free:∀b o,h.get? b=some o->H b=none->b∉ex->H' b=none
 there:∀b o,h.get? b=some o->b∉ex->∃o',h'.get? b=some o'
 NB:∀b xs,H b=some (.tup xs)->H' b=some (.tup xs)
 KL:∀b o u,H b=some (.CY o u)->H' b=some (.CY o u)
 N8:∀b ps,H b=some (.Oj ps)->∃more,H' b=some (.Oj (ps++more))
section
variable{fs Gj ex ex':List A0}{H H1 H2:Hp}{h h1 h2 h':B5}{a x e:A0}{o:HO}
def Un.any(u:Un fs ex H H1 h h1)(q:h.get? b=some ob)(n:H b=none)(hx:b∉ex):∃sl,h1.get? b=some {ob with slots:=sl}:=by
 by_cases hb:b∈fs
 .exact u.slot b ob q n hb hx
 .exact⟨ob.slots,u.keep b ob q n hb hx⟩
def Un.kept(k:∀b u,h.get? b=some u->h'.get? b=some u):Un fs ex H H h h':=
 ⟨λb ob q _ _ _=>k b ob q,λb ob q _ _ _=>⟨ob.slots,k b ob q⟩,λ_ _ _ n _=>n,λb ob q _=>⟨ob,k b ob q⟩,λ_ _ q=>q,λ_ _ _ q=>q,λ_ ps q=>⟨#[],by rw[q];simp⟩⟩
def Un.refl:Un fs ex H H h h:=Un.kept λ_ _ q=>q
def Un.laid(k:∀b u,h.get? b=some u->h'.get? b=some u)(hp:h.objs.size<=a)(hn:H a=none):Un fs ex H (upd H a o) h h' where
 keep:=λb u q _ _ _=>k b u q
 slot:=λb u q _ _ _=>⟨u.slots,k b u q⟩
 free:=λb u q n _=>by rw[AY (DU (CT (BZ q) hp))];exact n
 there:=λb u q _=>⟨u,k b u q⟩
 NB:=λb xs q=>by rw[AY (Dm q hn)];exact q
 KL:=λb u xs q=>by rw[AY (Dm q hn)];exact q
 N8:=λb ps q=>⟨#[],by rw[AY (Dm q hn),q];simp⟩
def Un.write(mu:OO (H x))(he:e=x\/H e=some (.own x))(k:∀b u,b≠e->h.get? b=some u->h'.get? b=some u)(SX:∃u,h'.get? e=some u):Un fs ex H (upd H x o) h h':=by
 have hx:∀b,H b=none->b≠x:=λb n z=>by subst z;rw[n]at mu;exact mu
 have hb:∀b,H b=none->b≠e:=λb n z=>by
  subst z;rcases he with r|r
  .exact hx b n r
  .rw[n]at r;cases r
 have hm:∀b u,H b=some u->¬OO (some u)->b≠x:=λb u q nm z=>by subst z;rw[q]at mu;exact nm mu
 refine⟨λb u q n _ _=>k b u (hb b n) q,λb u q n _ _=>⟨u.slots,k b u (hb b n) q⟩,λb u q n _=>by rw[AY (hx b n)];exact n,λb u q _=>?_,
  λb xs q=>by rw[AY (hm b _ q λz=>z)];exact q,λb u xs q=>by rw[AY (hm b _ q λz=>z)];exact q,λb ps q=>⟨#[],by rw[AY (hm b _ q λz=>z),q];simp⟩⟩
 by_cases QA:b=e
 .subst QA;exact SX
 .exact⟨u,k b u QA q⟩
end
def XB(h:B5)(H:Hp):List A0:=(A8 h.objs.size).filter λa=>(H a).isSome
def LN(h:B5)(H:Hp):B5:=PySem.W.hideAll h (XB h H)
def alK(h:B5)(H:Hp):(LN h H).objs.size=h.objs.size:=PySem.W.hideAll_size _ _
def alJ(e:h.get? b=some o)(n:H b=none):(LN h H).get? b=some o:=
 PySem.W.hideAll_get _ e λhm=>by
  have q:(H b).isSome=true:=(oO.mp hm).2;rw[n]at q;simp at q
def anD(e:(LN h H).get? b=some o):h.get? b=some o/\H b=none:=by
 have e':h.get? b=some o:=PySem.W.of_hideAll (XB h H) e;refine⟨e',?_⟩;cases q:H b with
 |none=>rfl
 |some x=>
  have hm:b∈XB h H:=oO.mpr ⟨BD.mpr (BZ e'),by simp[q]⟩;have z:(LN h H).get? b=none:=PySem.W.hideAll_none (XB h H) hm;rw[z]at e;cases e
def afh(g h:B5)(L:A0):List (A0×Obj):=(A8 h.objs.size).filterMap λa=>if a=L\/(g.get? a).isSome=true then none else(h.get? a).map λo=>(a,o)
def rest(g h:B5)(L d:A0):List (A0×Obj):=(afh g h L).filter λp=>decide (p.1≠d)
def ze:∀p∈rest g h L d,p.1≠d:=λp hp=>of_decide_eq_true (oO.mp hp).2
structure Mod(K:Ae)(mg:Str->Option A5)(base:B5):Prop where
 Oy:K.In base
 glob:base.Ns UT mg
 blt:∃mb,base.Ns oq mb/\∀x:Str,x≠"__name__"->mb x=IX x
 nolimit:base.NoLimit
structure Cx where
 prog:Bs
 w:Bg
 K:Ae
 mg:Str->Option A5
 base:B5
 A:CB
 N:List Str
 EV:AA
 MH:Hp
 env:Env
 outer:List Env
 stack:List Env
 ex:List A0
 fn:Str->Bool
 calm:Bool
 pn:List (A0×Obj)
 xe:A5->AA->Prop
def ET(l:List Env):List A0:=l.filterMap (·.frame)
abbrev Cx.fs(X:Cx):List A0:=ET X.outer
def Ny(sc:G3)(x:Str):Prop:=sc.names.lookup x=some .local\/sc.names.lookup x=some .cell\/sc.names.lookup x=some .free
def Loc(sc:G3)(x:Str):Prop:=sc.names.lookup x=some .local\/sc.names.lookup x=some .cell
def Look(env:Env)(h:B5)(m:Str->Option A5)(x:Str)(u:A5):Prop:=
 (env.kindOf x=some .local/\m x=some u)\/((env.kindOf x=some .cell\/env.kindOf x=some .free)/\∃c,env.cells.lookup x=some c/\h.IsCell c (some u))
structure Cx.Ok(X:Cx):Prop where
 mod:Mod X.K X.mg X.base
 kind:X.env.scope.kind=.function
 glob:X.env.globals=UT
 blt:X.env.builtins=oq
 above:X.EV.heap.objs.size<=X.env.locals
 inj:∀x y c,X.env.cells.lookup x=some c->X.env.cells.lookup y=some c->x=y
 has:∀x,(X.env.kindOf x=some .cell\/X.env.kindOf x=some .free)->∃c,X.env.cells.lookup x=some c
 Px:∀x c,X.fn x=true->X.env.cells.lookup x=some c->X.EV.heap.objs.size<=c
 hd:X.calm=true->X.A.handled=none
 frames:X.A.frames=some X.stack
 Tn:X.stack=X.outer\/(X.stack=X.env::X.outer/\X.env.frame=some X.env.locals)
 O3:∀b∈X.ex,b≠X.env.locals/\∀x c,X.env.cells.lookup x=some c->c≠b
 bs:∀b o,X.base.get? b=some o->X.EV.heap.get? b=some o/\X.MH b=none
 L9:X.base.objs.size<=X.EV.heap.objs.size
 QU:∀b o,X.base.get? b=some o->b∉X.ex
 O4:∀b∈X.ex,b∉X.fs
 HV:X.EV.heap.FunFrames X.base X.outer
 MS:∀b∈X.fs,X.MH b=none
structure Inv(X:Cx)(pins:List (A0×Obj))(σ:List (Option V))(H:Hp)(s:AA):Prop where
 ok:X.Ok
 os:s.os=X.EV.os
 bare:M5 s.gens
 base:Un X.fs X.ex X.MH H X.EV.heap s.heap
 loc:∃m,s.heap.Ns X.env.locals m/\∀(i:Nat)(x:Str)(v:V),X.N[i]? =some x->σ[i]? =some (some v)->Ny X.env.scope x->∃u,RelV v u/\Look X.env s.heap m x u
 cell:∀x c,X.env.cells.lookup x=some c->∃v,s.heap.IsCell c v
 free:H X.env.locals=none
 G8:∀x c,X.env.cells.lookup x=some c->H c=none
 pin:∀p∈X.pn++pins,s.heap.get? p.1=some p.2/\H p.1=none/\p.1≠X.env.locals/\p.1∉X.fs/\∀v,p.2.data≠.cell v
 AZ:Co X.prog X.w H s.heap
 len:σ.length=X.N.length
section
variable{X:Cx}{pins:List (A0×Obj)}{σ:List (Option V)}{H H':Hp}{s:AA}{h':B5}
def Cx.Ok.anR(ok:X.Ok)(e:X.base.get? b=some o):b∉X.fs:=λhb=>by
 have:=(ok.HV.mem hb).1;rw[e]at this;cases this
def Inv.bs(I:Inv X pins σ H s):∀b o,X.base.get? b=some o->s.heap.get? b=some o/\H b=none:=λb o e=>
 ⟨I.base.keep b o (I.ok.bs b o e).1 (I.ok.bs b o e).2 (I.ok.anR e) (I.ok.QU b o e),I.base.free b o (I.ok.bs b o e).1 (I.ok.bs b o e).2 (I.ok.QU b o e)⟩
def Inv.bk(I:Inv X pins σ H s):∀b o,X.base.get? b=some o->s.heap.get? b=some o:=λb o e=>(I.bs b o e).1
def Inv.mod(I:Inv X pins σ H s):Mod X.K X.mg X.base:=I.ok.mod
def Inv.F5(I:Inv X pins σ H s):X.K.In s.heap:=I.ok.mod.Oy.keeps I.bk
def Inv.lt(I:Inv X pins σ H s):X.env.locals<s.heap.objs.size:=let⟨_,hn,_⟩:=I.loc;hn.lt
def Inv.sz(I:Inv X pins σ H s):X.EV.heap.objs.size<=s.heap.objs.size:=Ao I.ok.above (Ht I.lt)
def Inv.anU(I:Inv X pins σ H s)(h:s.heap.objs.size<=a):a∉X.fs:=λhb=>by
 obtain⟨_,o,ho,_⟩:=I.ok.HV.mem hb;exact absurd (CT (BZ ho) (Ao I.sz h)) (GR _)
def Inv.Py(I:Inv X pins σ H s):∀x c,X.env.cells.lookup x=some c->c≠X.env.locals:=λx c e z=>by
 obtain⟨v,o,ho,hd⟩:=I.cell x c e;obtain⟨m,⟨o',es,ep,JX,MW,_⟩,_⟩:=I.loc;rw[z,JX]at ho;cases ho;rw[MW]at hd;cases hd
def Inv.HV(I:Inv X pins σ H s):s.heap.FunFrames X.base X.outer:=by
 have all:∀(l:List Env),(∀b∈ET l,b∈X.fs)->X.EV.heap.FunFrames X.base l->s.heap.FunFrames X.base l:=by
  intro l;induction l with
  |nil=>intro _ _;trivial
  |cons env r ih=>
   intro hs hl;obtain⟨hk,⟨L,o,hf,hn,ho,hd⟩,hr⟩:=hl;have hL:L∈X.fs:=hs L (by unfold ET;rw[Ho,hf];exact Bu);obtain⟨sl,e⟩:=I.base.slot L o ho (I.ok.MS L hL) hL λz=>I.ok.O4 L z hL;exact⟨hk,⟨L,_,hf,hn,e,hd⟩,ih (λb hb=>hs b (by unfold ET;rw[Ho,hf];exact Ba _ hb)) hr⟩
 exact all X.outer (λ_ hb=>hb) I.ok.HV
def Inv.stack(I:Inv X pins σ H s):s.heap.FunFrames X.base X.stack:=by
 rcases I.ok.Tn with e|⟨e,hf⟩
 .rw[e];exact I.HV
 .rw[e];obtain⟨m,hn,_⟩:=I.loc;refine .cons (by rw[I.ok.kind];decide) hf hn ?_ I.HV;exact ad_ (Ao I.ok.L9 I.ok.above)
def Inv.Xi(I:Inv X pins σ H s):∀b∈ET X.stack,b∈X.env.locals::X.fs:=λb hb=>by
 rcases I.ok.Tn with e|⟨e,hf⟩
 .rw[e]at hb;exact Ba _ hb
 .rw[e]at hb;unfold ET at hb;rw[Ho,hf]at hb;exact hb
def Inv.kj(I:Inv X pins σ H s):∀b∈ET X.stack,H b=none:=λb hb=>by
 rcases B2.mp (I.Xi b hb)with e|hb
 .rw[e];exact I.free
 .obtain⟨_,o,ho,_⟩:=I.ok.HV.mem hb;exact I.base.free b o ho (I.ok.MS b hb) λz=>I.ok.O4 b z hb
def Inv.step{d':Drawn}{ch:List A0}(I:Inv X pins σ H s)
 (Gn:∀b∈ch,(b∈X.ex\/X.EV.heap.get? b=none)/\b≠X.env.locals/\(∀x c,X.env.cells.lookup x=some c->c≠b)/\∀p∈X.pn++pins,p.1≠b)
 (keep:∀b o,b≠X.env.locals->b∉X.fs->b∉ch->s.heap.get? b=some o->H b=none->h'.get? b=some o)
 (slot:∀b o,b≠X.env.locals->b∈X.fs->b∉ch->s.heap.get? b=some o->H b=none->∃sl,h'.get? b=some {o with slots:=sl})(free:∀b o,b∉ch->s.heap.get? b=some o->H b=none->H' b=none)
 (there:∀b o,b∉ch->s.heap.get? b=some o->∃o',h'.get? b=some o')
 (NB:∀b xs,H b=some (.tup xs)->H' b=some (.tup xs))(KL:∀b o u,H b=some (.CY o u)->H' b=some (.CY o u))(N8:∀b ps,H b=some (.Oj ps)->∃more,H' b=some (.Oj (ps++more)))
 (ns:∀m,s.heap.Ns X.env.locals m->h'.Ns X.env.locals m)(AZ:Co X.prog X.w H' h')(hg:M5 g'):
 Inv X pins σ H' {s with heap:=h',gens:=g',drawn:=d',toks:=t'}:=by
 have xi:∀b o,X.EV.heap.get? b=some o->b≠X.env.locals:=λb o e=>DU (CT (BZ e) I.ok.above);have Xo:∀b o,X.EV.heap.get? b=some o->b∉X.ex->b∉ch:=λb o e hx hb=>by
  rcases(Gn b hb).1 with z|z
  .exact hx z
  .rw[e]at z;cases z
 have cellK:∀x c,X.env.cells.lookup x=some c->∀v,s.heap.IsCell c v->h'.IsCell c v:=λx c e v⟨o,ho,hd⟩=>by
  have VY:c∉ch:=λz=>(Gn c z).2.2.1 x c e rfl;by_cases hc:c∈X.fs
  .obtain⟨sl,q⟩:=slot c o (I.Py x c e) hc VY ho (I.G8 x c e);exact⟨_,q,hd⟩
  .exact⟨o,keep c o (I.Py x c e) hc VY ho (I.G8 x c e),hd⟩
 refine⟨I.ok,I.os,hg,⟨λb o e n hb hx=>?_,λb o e n hb hx=>?_,λb o e n hx=>?_,λb o e hx=>?_,λb xs e=>NB b xs (I.base.NB b xs e),λb o xs e=>KL b o xs (I.base.KL b o xs e),λb ps e=>?_⟩,?_,λx c e=>?_,?_,λx c e=>?_,λp hp=>?_,AZ,I.len⟩
 .exact keep b o (xi b o e) hb (Xo b o e hx) (I.base.keep b o e n hb hx) (I.base.free b o e n hx)
 .obtain⟨sl,e1⟩:=I.base.slot b o e n hb hx;obtain⟨sl',e2⟩:=slot b _ (xi b o e) hb (Xo b o e hx) e1 (I.base.free b o e n hx);exact⟨sl',e2⟩
 .obtain⟨o',e1⟩:=I.base.there b o e hx;exact free b o' (Xo b o e hx) e1 (I.base.free b o e n hx)
 .obtain⟨o',e1⟩:=I.base.there b o e hx;exact there b o' (Xo b o e hx) e1
 .obtain⟨m1,e1⟩:=I.base.N8 b ps e;obtain⟨m2,e2⟩:=N8 b _ e1;exact⟨m1++m2,by rw[e2,Array.append_assoc]⟩
 .obtain⟨m,hn,hl⟩:=I.loc;refine⟨m,ns m hn,λi x v e1 e2 e3=>?_⟩;obtain⟨u,r,l⟩:=hl i x v e1 e2 e3;refine⟨u,r,?_⟩;rcases l with l|⟨k,c,e,z⟩
  .exact .inl l
  .exact .inr ⟨k,c,e,cellK x c e _ z⟩
 .obtain⟨v,z⟩:=I.cell x c e;exact⟨v,cellK x c e v z⟩
 .obtain⟨m,⟨o,_,_,ho,_⟩,_⟩:=I.loc;exact free _ o (λz=>(Gn _ z).2.1 rfl) ho I.free
 .obtain⟨v,o,ho,hd⟩:=I.cell x c e;exact free c o (λz=>(Gn c z).2.2.1 x c e rfl) ho (I.G8 x c e)
 .obtain⟨e,n,ne,nf,d⟩:=I.pin p hp;have VY:p.1∉ch:=λz=>(Gn p.1 z).2.2.2 p hp rfl;exact⟨keep p.1 p.2 ne nf VY e n,free p.1 p.2 VY e n,ne,nf,d⟩
def Inv.un{t':Nat}(I:Inv X pins σ H s)(u:Un X.fs [] H H' s.heap h')(AZ:Co X.prog X.w H' h'):Inv X pins σ H' {s with heap:=h',toks:=t'}:=by
 w_up;obtain⟨m,⟨o,es,ep,ho,r⟩,_⟩:=id I.loc;obtain⟨sl,hL⟩:=u.any ho I.free (by simp);fin2;exact I.step (g':=s.gens) (d':=s.drawn) (ch:=[]) (λ_ z=>nomatch z) (λb o _ hb _ e n=>u.keep b o e n hb (by simp)) (λb o _ hb _ e n=>u.slot b o e n hb (by simp)) (λb o _ e n=>u.free b o e n (by simp)) (λb o _ e=>u.there b o e (by simp)) u.NB u.KL u.N8 (λm' hm=>by
  w_up;obtain⟨o',f7,ek,JX,r'⟩:=hm;fin2;rw[ho]at JX;cases JX;exact⟨_,f7,ek,hL,r'⟩) AZ I.bare
def Inv.call{d':Drawn}{ch:List A0}(I:Inv X pins σ H s)(u:Un (ET X.stack) ch H H' s.heap h')(AZ:Co X.prog X.w H' h')(hg:M5 g')
 (Gn:∀b∈ch,(b∈X.ex\/X.EV.heap.get? b=none)/\b≠X.env.locals/\(∀x c,X.env.cells.lookup x=some c->c≠b)/\∀p∈X.pn++pins,p.1≠b):
 Inv X pins σ H' {s with heap:=h',gens:=g',drawn:=d',toks:=t'}:=by
 w_up;obtain⟨m,⟨o,es,ep,ho,r⟩,_⟩:=id I.loc;obtain⟨sl,hL⟩:=u.any ho I.free λz=>(Gn _ z).2.1 rfl;fin2;exact I.step (ch:=ch) Gn (λb o hL hb hc e n=>u.keep b o e n (λz=>(B2.mp (I.Xi b z)).elim hL hb) hc) (λb o _ _ hc e n=>u.any e n hc) (λb o hc e n=>u.free b o e n hc) (λb o hc e=>u.there b o e hc) u.NB u.KL u.N8 (λm' hm=>by
  w_up;obtain⟨o',f7,ek,JX,r'⟩:=hm;fin2;rw[ho]at JX;cases JX;exact⟨_,f7,ek,hL,r'⟩) AZ hg
def Inv.turned{it:A0}(I:Inv X pins σ H s)(k:∀b o,b≠it->s.heap.get? b=some o->h'.get? b=some o)(hn:H it=none)(hL:it≠X.env.locals)
 (h1:it∈X.ex\/X.EV.heap.get? it=none)(h2:∀x c,X.env.cells.lookup x=some c->c≠it)(h3:∀p∈X.pn++pins,p.1≠it):Inv X pins σ H {s with heap:=h',toks:=t'}:=by
 have OU:∀b u,H b=some u->b≠it:=λb u e z=>by rw[z,hn]at e;cases e
 refine I.step (g':=s.gens) (d':=s.drawn) (ch:=[it]) (λb hb=>?_) (λb o _ _ hc e _=>k b o (λz=>hc (by simp[z])) e) (λb o _ _ hc e _=>⟨o.slots,k b o (λz=>hc (by simp[z])) e⟩) (λ_ _ _ _ n=>n)
  (λb o hc e=>⟨o,k b o (λz=>hc (by simp[z])) e⟩) (λ_ _ e=>e) (λ_ _ _ e=>e) (λb ps e=>⟨#[],by rw[e];simp⟩) (λm hm=>?_) (λb u e=>?_) I.bare
 .have e:b=it:=by simpa using hb
  subst e;exact⟨h1,hL,h2,h3⟩
 .obtain⟨o,es,ep,ho,r⟩:=hm;exact⟨o,es,ep,k _ o (Ct hL) ho,r⟩
 .refine(I.AZ b u e).KZ (λc v hc q=>k c v ?_ q) (λ_ q=>q) λ_ _ q=>q;rcases hc with z|z
  .rw[z];exact OU b u e
  .exact OU c _ z
def Inv.tok(I:Inv X pins σ H s)(t:Nat):Inv X pins σ H {s with toks:=t}:=I.un (h':=s.heap) (t':=t) Un.refl I.AZ
def Inv.kept(I:Inv X pins σ H s)(k:∀b u,s.heap.get? b=some u->h'.get? b=some u):Inv X pins σ H {s with heap:=h',toks:=t'}:=I.un (Un.kept k) (I.AZ.kept k)
def Inv.laid(I:Inv X pins σ H s)(k:∀b u,s.heap.get? b=some u->h'.get? b=some u)(hp:s.heap.objs.size<=a)(new:Dg X.prog X.w (upd H a o) h' a o):
 Inv X pins σ (upd H a o) {s with heap:=h',toks:=t'}:=I.un (Un.laid k hp (I.AZ.fresh hp)) (I.AZ.laid k hp new)
def Inv.write(I:Inv X pins σ H s)(mu:OO (H x))(he:e=x\/H e=some (.own x))(k:∀b u,b≠e->s.heap.get? b=some u->h'.get? b=some u)(SX:∃u,h'.get? e=some u)
 (new:Dg X.prog X.w (upd H x o) h' x o):Inv X pins σ (upd H x o) {s with heap:=h',toks:=t'}:=I.un (Un.write mu he k SX) (I.AZ.write mu he k SX new)
def Inv.weak(I:Inv X pins σ H s)(hl:B1.length=σ.length)(w:∀(i:Nat)v,B1[i]? =some (some v)->σ[i]? =some (some v)):Inv X pins B1 H s:=
 ⟨I.ok,I.os,I.bare,I.base,let⟨m,hn,FV⟩:=I.loc;⟨m,hn,λi x v e1 e2 e3=>FV i x v e1 (w i v e2) e3⟩,I.cell,I.free,I.G8,I.pin,I.AZ,hl.trans I.len⟩
def Inv.yK(I:Inv X pins σ H s)(h:∀p∈jq,s.heap.get? p.1=some p.2/\H p.1=none/\p.1≠X.env.locals/\p.1∉X.fs/\∀v,p.2.data≠.cell v):Inv X jq σ H s:=
 ⟨I.ok,I.os,I.bare,I.base,I.loc,I.cell,I.free,I.G8,λp hp=>(Hr.mp hp).elim (λz=>I.pin p (U9 _ z)) (h p),I.AZ,I.len⟩
def kR{N:List Str}(hN:N.Nodup){i j:Nat}{x:Str}(a:N[i]? =some x)(b:N[j]? =some x):i=j:=by
 obtain⟨h1,e1⟩:=Gu.mp a;obtain⟨h2,e2⟩:=Gu.mp b;exact(List.getElem_inj hN).mp (e1.trans e2.symm)
def lJ{M:Model}{A:CB}{E:A5->AA->Prop}{i:Nat}{x:Str}{v:V}{u:A5}{Q:Unit->AA->Prop}(I:Inv X pins σ H s)(hN:X.N.Nodup)(hi:X.N[i]? =some x)(hx:Loc X.env.scope x)(r:RelV v u)
 (h:∀s',Inv X pins (σ.set i (some v)) H s'->(∃a,UM a s.heap s'.heap/\(a=X.env.locals\/X.env.cells.lookup x=some a))->Q () s')(hf:X.fn x=true\/X.env.scope.names.lookup x=some .local:=by first|exact .inl rfl|exact .inr rfl|assumption):AJ M A (storeName X.env x u) Q E s:=by
 obtain⟨m,hn,hl⟩:=id I.loc;have akS:(X.env.scope.kind==.class||(X.env.scope.kind==.module&&X.env.locals !=X.env.globals))=false:=by rw[I.ok.kind];rfl
 have sY:i<σ.length:=by rw[I.len];exact(Gu.mp hi).1
 have Py:=I.Py;have tracked:∀{a:A0}{h':B5},(∃o,s.heap.get? a=some o/\H a=none)->UM a s.heap h'->Co X.prog X.w H h':=λ{a h'}ha hs b ob e=>by
  obtain⟨_,_,OE⟩:=ha;refine(I.AZ b ob e).KZ (λc w' hc q=>(hs.2 c ?_).trans q) (λ_ q=>q) λ_ _ q=>q;rintro rfl;rcases hc with rfl|hc
  .rw[OE]at e;cases e
  .rw[OE]at hc;cases hc
 rcases hx with hk|hk
 .refine wpAny_storeName_local hk hn (λh' uh hs=>?_) akS;obtain⟨oL,_,_,hoL,_⟩:=id hn;refine h _ ⟨I.ok,I.os,I.bare,⟨λb o e n hb hx=>?_,λb o e n hb hx=>?_,I.base.free,λb o e hx=>?_,I.base.NB,I.base.KL,I.base.N8⟩,⟨_,uh,λj y v' e1 e2 e3=>?_⟩,λy c e=>?_,I.free,I.G8,λp hp=>?_,tracked ⟨oL,hoL,I.free⟩ hs,by simpa using I.len⟩ ⟨_,hs,.inl rfl⟩
  .exact(hs.2 b (DU (CT (BZ e) I.ok.above))).trans (I.base.keep b o e n hb hx)
  .obtain⟨sl,e1⟩:=I.base.slot b o e n hb hx;exact⟨sl,(hs.2 b (DU (CT (BZ e) I.ok.above))).trans e1⟩
  .obtain⟨o',e1⟩:=I.base.there b o e hx;exact⟨o',(hs.2 b (DU (CT (BZ e) I.ok.above))).trans e1⟩
  .by_cases hj:j=i
   .subst hj;rw[hi]at e1;cases e1;rw[Tw sY]at e2;cases e2;exact⟨u,r,.inl ⟨hk,by simp⟩⟩
   .rw[UA (Ct hj)]at e2;obtain⟨u',r',q⟩:=hl j y v' e1 e2 e3;refine⟨u',r',?_⟩;rcases q with⟨k,e⟩|⟨k,c,e,z⟩
    .refine .inl ⟨k,?_⟩;have:y≠x:=λe=>hj (kR hN e1 (e▸hi));simp[this,e]
    .exact .inr ⟨k,c,e,z.sameBut hs (Py y c e)⟩
  .obtain⟨w',z⟩:=I.cell y c e;exact⟨w',z.sameBut hs (Py y c e)⟩
  .obtain⟨e,n,ne,nf,d⟩:=I.pin p hp;exact⟨(hs.2 p.1 ne).trans e,n,ne,nf,d⟩
 .have gu:X.fn x=true:=by
   rcases hf with z|z
   .exact z
   .rw[z]at hk;cases hk
  obtain⟨c,hc⟩:=I.ok.has x (.inl hk);obtain⟨w',z⟩:=I.cell x c hc;refine wpAny_storeName_cell I.ok.kind hk hc z (λh' uB hs=>?_);obtain⟨oc,jC,alD⟩:=id z;refine h {s with heap:=h'} ⟨I.ok,I.os,I.bare,⟨λb o e n hb hx=>?_,λb o e n hb hx=>?_,I.base.free,λb o e hx=>?_,I.base.NB,I.base.KL,I.base.N8⟩,⟨m,hn.sameBut hs (Ct (Py x c hc)),λj y v' e1 e2 e3=>?_⟩,λy c' e=>?_,I.free,I.G8,λp hp=>?_,tracked ⟨oc,jC,I.G8 x c hc⟩ hs,by simpa using I.len⟩ ⟨c,hs,.inr hc⟩
  .exact(hs.2 b (DU (CT (BZ e) (I.ok.Px x c gu hc)))).trans (I.base.keep b o e n hb hx)
  .obtain⟨sl,e1⟩:=I.base.slot b o e n hb hx;exact⟨sl,(hs.2 b (DU (CT (BZ e) (I.ok.Px x c gu hc)))).trans e1⟩
  .obtain⟨o',e1⟩:=I.base.there b o e hx;exact⟨o',(hs.2 b (DU (CT (BZ e) (I.ok.Px x c gu hc)))).trans e1⟩
  .by_cases hj:j=i
   .subst hj;rw[hi]at e1;cases e1;rw[Tw sY]at e2;cases e2;exact⟨u,r,.inr ⟨.inl hk,c,hc,uB⟩⟩
   .rw[UA (Ct hj)]at e2;obtain⟨u',r',q⟩:=hl j y v' e1 e2 e3;refine⟨u',r',?_⟩;rcases q with q|⟨k,c',e,z'⟩
    .exact .inl q
    .refine .inr ⟨k,c',e,z'.sameBut hs ?_⟩;rintro rfl;exact hj (kR hN e1 (I.ok.inj _ _ _ e hc▸hi))
  .by_cases t7:c'=c
   .subst t7;exact⟨_,uB⟩
   .obtain⟨w2,z2⟩:=I.cell y c' e;exact⟨w2,z2.sameBut hs t7⟩
  .obtain⟨e,n,ne,nf,d⟩:=I.pin p hp;refine⟨(hs.2 p.1 ?_).trans e,n,ne,nf,d⟩;intro q;rw[q,jC]at e;have q':oc=p.2:=GW e;exact d w' (by rw[<-q'];exact alD)
def km(I:Inv X pins σ H s)(hN:X.N.Nodup)(hi:X.N[i]? =some x)(hx:Loc X.env.scope x)(r:RelV v u)
 (h:∀s',Inv X pins (σ.set i (some v)) H s'->Q () s')(hf:X.fn x=true\/X.env.scope.names.lookup x=some .local:=by first|exact .inl rfl|exact .inr rfl|assumption):AJ M A (storeName X.env x u) Q E s:=
 lJ I hN hi hx r (λs' I' _=>h s' I') hf
def Inv.Uj(I:Inv X pins σ H s)(ho:s'.os=s.os)(u:Un (ET X.stack) ch H H' s.heap s'.heap)(AZ:Co X.prog X.w H' s'.heap)(hg:M5 s'.gens)
 (Gn:∀b∈ch,(b∈X.ex\/X.EV.heap.get? b=none)/\b≠X.env.locals/\(∀x c,X.env.cells.lookup x=some c->c≠b)/\∀p∈X.pn++pins,p.1≠b):Inv X pins σ H' s':=by
 obtain⟨h',g',d',t',o'⟩:=s';have e:o'=s.os:=ho;subst e;exact I.call (g':=g') (t':=t') (d':=d') u AZ hg Gn
end
abbrev XK:=A5->Option A0->Hp->Prop
abbrev St:=List (Option V)
abbrev VK:=V->Hp->Prop
abbrev TE:=St->Hp->VK->Prop
abbrev TT:=St->Hp->(Bool->Hp->Prop)->Prop
abbrev TA:=St->Hp->(List V->Hp->Prop)->Prop
structure Ends where
 nx:St->Hp->Prop
 rt:VK
 bk:St->Hp->Prop:=λ_ _=>False
 ct:St->Hp->Prop:=λ_ _=>False
abbrev TS:=Ends->St->Hp->Prop
def EP(X:Cx)(pins:List (A0×Obj))(σ:St)(Q:VK)(u:A5)(s':AA):Prop:=∃v H',Inv X pins σ H' s'/\RelV v u/\Q v H'
def TP(X:Cx)(pins:List (A0×Obj))(σ:St)(Q:Bool->Hp->Prop)(b:Bool)(s':AA):Prop:=∃H',Inv X pins σ H' s'/\Q b H'
def AP(X:Cx)(pins:List (A0×Obj))(σ:St)(Q:List V->Hp->Prop)(us:List A5)(s':AA):Prop:=∃vs H',Inv X pins σ H' s'/\Ai vs us/\Q vs H'
def SP(X:Cx)(pins:List (A0×Obj))(D:Ends)(f:Flow)(s':AA):Prop:=
 match f with
 | .next=>∃B1 H',Inv X pins B1 H' s'/\D.nx B1 H'
 | .brk=>∃B1 H',Inv X pins B1 H' s'/\D.bk B1 H'
 | .cont=>∃B1 H',Inv X pins B1 H' s'/\D.ct B1 H'
 | .ret u=>∃v B1 H',Inv X pins B1 H' s'/\RelV v u/\D.rt v H'
def PE(X:Cx)(e:B7)(t:TE):Prop:=
 ∀(pins:List (A0×Obj))(s:AA)(σ:St)(H:Hp)(Q:VK),Inv X pins σ H s->t σ H Q->AJ (AU X.prog X.w) X.A (As e X.env) (EP X pins σ Q) X.xe s
def PT(X:Cx)(e:B7)(t:TT):Prop:=
 ∀(pins:List (A0×Obj))(s:AA)(σ:St)(H:Hp)(Q:Bool->Hp->Prop),Inv X pins σ H s->t σ H Q->AJ (AU X.prog X.w) X.A (Ru e X.env (As e X.env)) (TP X pins σ Q) X.xe s
def PW(X:Cx)(e:B7)(t:TT):Prop:=
 ∀(whole:Sem A5)(pins:List (A0×Obj))(s:AA)(σ:St)(H:Hp)(Q:Bool->Hp->Prop),Inv X pins σ H s->t σ H Q->AJ (AU X.prog X.w) X.A (Ru e X.env whole) (TP X pins σ Q) X.xe s
def PW.pt(h:PW X e t):PT X e t:=h _
def PA(X:Cx)(es:List B7)(t:TA):Prop:=
 ∀(pos:Pos)(pins:List (A0×Obj))(s:AA)(σ:St)(H:Hp)(Q:List V->Hp->Prop),Inv X pins σ H s->t σ H Q->AJ (AU X.prog X.w) X.A (spliced (D7 pos (B0 es X.env))) (AP X pins σ Q) X.xe s
def PS(X:Cx)(st:D8)(t:TS):Prop:=
 ∀(pins:List (A0×Obj))(s:AA)(σ:St)(H:Hp)(D:Ends),Inv X pins σ H s->t D σ H->AJ (AU X.prog X.w) X.A (exec st X.env) (SP X pins D) X.xe s
def JQ(X:Cx)(st:List D8)(t:TS):Prop:=
 ∀(pins:List (A0×Obj))(s:AA)(σ:St)(H:Hp)(D:Ends),Inv X pins σ H s->t D σ H->AJ (AU X.prog X.w) X.A (execs st X.env) (SP X pins D) X.xe s
def Be(h:AJ M A t Q E s)(hQ:∀a s,Q a s->Q' a s):AJ M A t Q' E s:=GY h hQ λ_ _ x=>x
def Bi(h:AJ M A t (EP X pins σ Q) E s)(hQ:∀u s' v H,Inv X pins σ H s'->RelV v u->Q v H->Q' u s'):AJ M A t Q' E s:=Be h λu s'⟨v,H,I,r,q⟩=>hQ u s' v H I r q
def J9(h:AJ M A t (AP X pins σ Q) E s)(hQ:∀u s' v H,Inv X pins σ H s'->Ai v u->Q v H->Q' u s'):AJ M A t Q' E s:=Be h λu s'⟨v,H,I,r,q⟩=>hQ u s' v H I r q
section
variable{X:Cx}
def Wr(o:Option (Option V))(R:V->Prop):Prop:=match o with
 |some (some v)=>R v
 |_=>False
def Le(x:V)(R:Bool->Prop):Prop:=match x with
 | .bl c=>R c
 |_=>False
def Bl(x:V)(R:Int->Prop):Prop:=match x with
 | .int c=>R c
 |_=>False
def Bm(x:V)(R:A0->Prop):Prop:=match x with
 | .ref c=>R c
 |_=>False
def Wq(x:V)(R:Str->Prop):Prop:=match x with
 | .str c=>R c
 |_=>False
def yj(h:Wr o R):∃v,o=some (some v)/\R v:=by
 cases o with
 |none=>exact h.elim
 |some o=>
 cases o with
 |none=>exact h.elim
 |some v=>exact⟨v,rfl,h⟩
def Wp(h:Le x R):∃v,x=.bl v/\R v:=by
 cases x<;>first|exact⟨_,rfl,h⟩|exact h.elim
def Mj(h:Bl x R):∃v,x=.int v/\R v:=by
 cases x<;>first|exact⟨_,rfl,h⟩|exact h.elim
def Jf(h:Bm x R):∃v,x=.ref v/\R v:=by
 cases x<;>first|exact⟨_,rfl,h⟩|exact h.elim
def aoP(h:Wq x R):∃v,x=.str v/\R v:=by
 cases x<;>first|exact⟨_,rfl,h⟩|exact h.elim
def TU{R:Int->Int->Prop}(h:Bl x λi=>Bl y λj=>R i j):∃i j,x=.int i/\y=.int j/\R i j:=
 let⟨i,e,h⟩:=Mj h;let⟨j,e',h⟩:=Mj h
 ⟨i,j,e,e',h⟩
def OW(vs:List V)(R:V->List V->Prop):Prop:=match vs with
 |x::r=>R x r
 |[]=>False
def FY(vs:List V)(R:V->Prop):Prop:=OW vs λx r=>match r with
 |[]=>R x
 |_::_=>False
def K5(vs:List V)(R:V->V->Prop):Prop:=OW vs λx r=>FY r (R x)
def Mi(vs:List V)(R:V->V->V->Prop):Prop:=OW vs λx r=>K5 r (R x)
def QX(h:OW vs R):∃x r,vs=x::r/\R x r:=by
 cases vs with
 |nil=>exact h.elim
 |cons x r=>exact⟨x,r,rfl,h⟩
def TR(h:FY vs R):∃x,vs=[x]/\R x:=by
 obtain⟨x,r,rfl,h⟩:=QX h;cases r with
 |nil=>exact⟨x,rfl,h⟩
 |cons _ _=>exact h.elim
def jf(h:K5 vs R):∃x y,vs=[x,y]/\R x y:=by
 obtain⟨x,r,rfl,h⟩:=QX h;obtain⟨y,rfl,h⟩:=TR h;exact⟨x,y,rfl,h⟩
def yh(h:Mi vs R):∃x y z,vs=[x,y,z]/\R x y z:=by
 obtain⟨x,r,rfl,h⟩:=QX h;obtain⟨y,z,rfl,h⟩:=jf h;exact⟨x,y,z,rfl,h⟩
def ka(h:FY vs λx=>Bm x R):∃a,vs=[.ref a]/\R a:=
 let⟨_,e,h⟩:=TR h;let⟨a,e',h⟩:=Jf h
 ⟨a,e'▸e,h⟩
def ye(h:FY vs λx=>Bl x R):∃a,vs=[.int a]/\R a:=
 let⟨_,e,h⟩:=TR h;let⟨a,e',h⟩:=Mj h
 ⟨a,e'▸e,h⟩
def yf(h:FY vs λx=>Wq x R):∃a,vs=[.str a]/\R a:=
 let⟨_,e,h⟩:=TR h;let⟨a,e',h⟩:=aoP h
 ⟨a,e'▸e,h⟩
def yi{R:A0->A0->Prop}(h:Bm x λa=>Bm y λb=>R a b):∃a b,x=.ref a/\y=.ref b/\R a b:=
 let⟨a,e,h⟩:=Jf h;let⟨b,e',h⟩:=Jf h
 ⟨a,b,e,e',h⟩
def jg{R:A0->Int->Prop}(h:Bm x λa=>Bl y λb=>R a b):∃a b,x=.ref a/\y=.int b/\R a b:=
 let⟨a,e,h⟩:=Jf h;let⟨b,e',h⟩:=Mj h
 ⟨a,b,e,e',h⟩
def aoN{R:A0->A0->Prop}(h:K5 vs λx y=>Bm x λa=>Bm y λb=>R a b):∃a b,vs=[.ref a,.ref b]/\R a b:=
 let⟨_,_,e,h⟩:=jf h;let⟨a,b,e1,e2,h⟩:=yi h
 ⟨a,b,e1▸e2▸e,h⟩
def kb{R:Int->Int->Prop}(h:K5 vs λx y=>Bl x λa=>Bl y λb=>R a b):∃a b,vs=[.int a,.int b]/\R a b:=
 let⟨_,_,e,h⟩:=jf h;let⟨a,b,e1,e2,h⟩:=TU h
 ⟨a,b,e1▸e2▸e,h⟩
def aoO{R:A0->A0->A0->Prop}(h:Mi vs λx y z=>Bm x λa=>Bm y λb=>Bm z λc=>R a b c):∃a b c,vs=[.ref a,.ref b,.ref c]/\R a b c:=
 let⟨_,_,_,e,h⟩:=yh h;let⟨a,e1,h⟩:=Jf h;let⟨b,e2,h⟩:=Jf h;let⟨c,e3,h⟩:=Jf h
 ⟨a,b,c,e1▸e2▸e3▸e,h⟩
def yg{R:Int->Int->Int->Prop}(h:Mi vs λx y z=>Bl x λa=>Bl y λb=>Bl z λc=>R a b c):∃a b c,vs=[.int a,.int b,.int c]/\R a b c:=
 let⟨_,_,_,e,h⟩:=yh h;let⟨a,e1,h⟩:=Mj h;let⟨b,e2,h⟩:=Mj h;let⟨c,e3,h⟩:=Mj h
 ⟨a,b,c,e1▸e2▸e3▸e,h⟩
def RB(i:Nat):TE:=λσ H Q=>Wr σ[i]? λv=>Q v H
def tC(v:V):TE:=λ_ H Q=>Q v H
def yF(hN:X.N[i]? =some x)(hv:Ny X.env.scope x)(hd:autoParam ((x==("__debug__":Str))=false) auD)(J0:autoParam ((x==("__classdict__":Str))=false) auD):PE X (.Name x pos) (RB i):=by
 intro pins s σ H Q I h;w_up;obtain⟨v,e,h⟩:=yj h;obtain⟨m,hn,hl⟩:=I.loc;obtain⟨u,r,l⟩:=hl i x v hN e hv;fin2;have fin:EP X pins σ Q u s:=⟨v,H,I,r,h⟩;rcases l with⟨hk,hm⟩|⟨hk,c,hc,Pn⟩
 .exact ot (ada I.ok.kind hk hn hm fin) hd
 .rcases hk with hk|hk
  .exact ot (adO I.ok.kind hk hc Pn fin) hd
  .exact ot (wpAny_loadName_free I.ok.kind hk hc Pn fin J0) hd
def Am:PE X (.Constant (.int i) j pos) (tC (.int i)):=λ_ _ _ H _ I h=>wpAny_Constant_int ⟨.int i,H,I.tok _,⟨_,rfl⟩,h⟩
def apO:PE X (.Constant (.bool b) j pos) (tC (.bl b)):=λ_ _ _ H _ I h=>Constant_bool ⟨.bl b,H,I,rfl,h⟩
def yC:PE X (.Constant .none j pos) (tC .Ah):=λ_ _ _ H _ I h=>Constant_none ⟨.Ah,H,I,rfl,h⟩
def EK:PE X (.Constant (.str x) j pos) (tC (.str x)):=λ_ _ _ H _ I h=>Calls.Constant_str ⟨.str x,H,I.tok _,⟨_,rfl⟩,h⟩
def Gl(X:Cx)(x:Str):Prop:=X.env.kindOf x=some .globalImplicit
def R9(I:Inv X pins σ H s)(hg:Gl X x)(hm:X.mg x=some u)(h:Q u s)
 (hd:autoParam ((x==("__debug__":Str))=false) auD):AJ (AU X.prog X.w) X.A (As (.Name x pos) X.env) Q E s:=
 ad5 I.ok.kind hg (Calls.loadGlobal_global (by rw[I.ok.glob];exact I.mod.glob.keeps I.bk) hm h) hd
def NP(I:Inv X pins σ H s)(hg:Gl X x)(hm:X.mg x=none)(hv:IX x=some u)(h:Q u s)
 (hn:autoParam (x≠"__name__") auD)(hd:autoParam ((x==("__debug__":Str))=false) auD):AJ (AU X.prog X.w) X.A (As (.Name x pos) X.env) Q E s:=by
 obtain⟨mb,h1,h2⟩:=I.mod.blt;exact ad5 I.ok.kind hg (Calls.loadGlobal_builtin (by rw[I.ok.glob];exact I.mod.glob.keeps I.bk) hm (by rw[I.ok.blt];exact h1.keeps I.bk) ((h2 x hn).trans hv) h) hd
def Y3(hg:Gl X x)(hm:X.mg x=some u)(r:RelV v u)(hd:autoParam ((x==("__debug__":Str))=false) auD):PE X (.Name x pos) (tC v):=
 λ_ _ _ H _ I h=>R9 I hg hm ⟨v,H,I,r,h⟩ hd
variable{a b:B7}{ta tb:TE}{pos:Pos}
def PC(X:Cx)(op:CmpOp)(a b:B7)(t:TE):Prop:=
 ∀(pins:List (A0×Obj))(s:AA)(σ:St)(H:Hp)(Q:VK),Inv X pins σ H s->t σ H Q->
  AJ (AU X.prog X.w) X.A (As a X.env) (λv Bz=>AJ (AU X.prog X.w) X.A (As b X.env) (λu Ef=>AJ (AU X.prog X.w) X.A (Ic op v u) (EP X pins σ Q) X.xe Ef) X.xe Bz) X.xe s
def anQ(b:B7)(h:op≠.In)(h2:op≠.NotIn):PU op b=false:=by
 have e1:(op==CmpOp.In)=false:=by cases op<;>first|rfl|exact absurd rfl h
 have e2:(op==af7)=false:=by cases op<;>first|rfl|exact absurd rfl h2
 cases b<;>simp[PU,e1,e2]
def abz(ta:TE):TE:=λσ H Q=>ta σ H λx H1=>Q (.bl (decide (x=.Ah))) H1
def RelV.anV(r:RelV x v):(v==Ky)=decide (x=.Ah):=by
 cases x with
 |Ah=>cases r;rfl
 |bl _=>cases r;rfl
 |int _=>obtain⟨t,rfl⟩:=r;rfl
 |str _=>obtain⟨t,rfl⟩:=r;rfl
 |HS _=>obtain⟨t,rfl⟩:=r;rfl
 |Uz _=>obtain⟨t,rfl⟩:=r;rfl
 |ref _=>cases r;rfl
 |ty _=>cases r;rfl
def Y2(ha:PE X a ta):PC X .Is a (.Constant .none j pos') (abz ta):=by
 intro pins s σ H Q I h;refine Bi (ha pins s σ H _ I h) λv s1 x H1 I1 r1 q1=>?_;exact Constant_none (is_none_gen ⟨.bl _,H1,I1,by rw[r1.anV];rfl,q1⟩)
def tB(t:TE):TT:=λσ H Q=>t σ H λx H1=>Le x λc=>Q c H1
def Tb(h:PC X op a b t)(h1:PU op b=false:=by first|exact anQ _ (by decide) (by decide)|rfl):PT X (.Compare a [op] [b] pos) (tB t):=by
 intro pins s σ H Q I hw;refine adn (Be (h pins s σ H _ I hw) λv s1 h1=>Be h1 λu s2 h2=>Be h2 λc s3 AG=>?_) h1;obtain⟨x,H1,I1,r1,q1⟩:=AG;obtain⟨d,rfl,q⟩:=Wp q1;cases r1;exact Nd ⟨H1,I1,q⟩
def Hh(h:PE X e t)(he:autoParam (∀whole,Ru e X.env whole=(do let v<-whole;M6 e.pos;I0 [v] (truthy v))) auI):PT X e (tB t):=by
 intro pins s σ H Q I hw;refine isTrue_plain (Bi (h pins s σ H _ I hw) λv s1 x H1 I1 r1 q1=>?_) (he _);obtain⟨d,rfl,q⟩:=Wp q1;cases r1;exact Nd ⟨H1,I1,q⟩
variable{tA Xj:TT}{rest:List B7}
def abm(t u:TT):TT:=λσ H Q=>t σ H λc H1=>if c=true then u σ H1 Q else Q false H1
def abh(t u:TT):TT:=λσ H Q=>t σ H λc H1=>if c=true then Q true H1 else u σ H1 Q
def abg(t:TT):TT:=λσ H Q=>t σ H λc H1=>Q (!c) H1
def Te(ha:PT X a tA):PW X (.BoolOp .And [a] pos) tA:=by
 intro wh pins s σ H Q I h;refine isTrue_and (Be (ha pins s σ H Q I h) λc s1 e=>?_);cases c with
 |true=>exact isTrue_and_nil e
 |false=>exact e
def Od(ha:PT X a tA):PW X (.BoolOp .Or [a] pos) tA:=by
 intro wh pins s σ H Q I h;refine isTrue_or (Be (ha pins s σ H Q I h) λc s1 e=>?_);cases c with
 |false=>exact isTrue_or_nil e
 |true=>exact e
def Td(ha:PT X a tA)(hb:PW X (.BoolOp .And (b::rest) pos) Xj):PW X (.BoolOp .And (a::b::rest) pos) (abm tA Xj):=by
 intro wh pins s σ H Q I h;refine isTrue_and (Be (ha pins s σ H _ I h) λc s1 AG=>?_);obtain⟨H1,I1,q1⟩:=AG;cases c with
 |true=>exact hb wh pins s1 σ H1 Q I1 q1
 |false=>exact⟨H1,I1,q1⟩
def Mr(ha:PT X a tA)(hb:PW X (.BoolOp .Or (b::rest) pos) Xj):PW X (.BoolOp .Or (a::b::rest) pos) (abh tA Xj):=by
 intro wh pins s σ H Q I h;refine isTrue_or (Be (ha pins s σ H _ I h) λc s1 AG=>?_);obtain⟨H1,I1,q1⟩:=AG;cases c with
 |true=>exact⟨H1,I1,q1⟩
 |false=>exact hb wh pins s1 σ H1 Q I1 q1
def Mq(ha:PT X a tA):PT X (.UnaryOp .Not a pos) (abg tA):=by
 intro pins s σ H Q I h;exact isTrue_not (ha pins s σ H (λc H1=>Q (!c) H1) I h)
def abn(ta tb:TE):TE:=λσ H Q=>ta σ H λx H1=>Le x λc=>if c=true then tb σ H1 Q else Q (.bl false) H1
def apb(h:PE X a t):PE X (.BoolOp op [a] pos) t:=λpins s σ H Q I hw=>BoolOp_one (h pins s σ H Q I hw)
def apM(ha:PE X a ta)(hb:PE X (.BoolOp .And (b::rest) pos) tb):PE X (.BoolOp .And (a::b::rest) pos) (abn ta tb):=by
 intro pins s σ H Q I h;refine BoolOp_and (Bi (ha pins s σ H _ I h) λv s1 x H1 I1 r1 q1=>?_);obtain⟨c,rfl,q1⟩:=Wp q1;cases r1;refine Nd ?_;cases c with
 |true=>exact hb pins s1 σ H1 Q I1 q1
 |false=>exact⟨.bl false,H1,I1,rfl,q1⟩
def abx(t:TT)(ta tb:TE):TE:=λσ H Q=>t σ H λc H1=>if c=true then ta σ H1 Q else tb σ H1 Q
def WS(hc:PT X c tA)(ha:PE X a ta)(hb:PE X b tb):PE X (.IfExp c a b pos) (abx tA ta tb):=by
 intro pins s σ H Q I h;refine wpAny_IfExp (Be (hc pins s σ H _ I h) λd s1 AG=>?_);obtain⟨H1,I1,q1⟩:=AG;cases d with
 |true=>exact ha pins s1 σ H1 Q I1 q1
 |false=>exact hb pins s1 σ H1 Q I1 q1
end
def A4(K:Ae)(H:Hp)(a:A0)(xs:List V):Prop:=
 Rd H a (.lst xs)\/
  ∃(o:Obj)(its:Array A5)(n:Nat),K.lookup a=some o/\o.cls=.type "list"/\o.dict=none/\o.data=.seq its n/\its.size<=Al/\Ai xs its.toList
def C6(K:Ae)(H:Hp)(a:A0)(xs:List V):Prop:=
 Rd H a (.tup xs)\/
  ∃(o:Obj)(its:Array A5)(n:Nat),K.lookup a=some o/\o.cls=.type "tuple"/\o.data=.seq its n/\its.size<=Al/\Ai xs its.toList
def afe:A5->Option V
 | .none=>some .Ah
 | .bool b=>some (.bl b)
 | .int i _=>some (.int i)
 | .str x _=>some (.str x)
 | .bytes b _=>some (.HS b)
 | .float b _=>some (.Uz b)
 | .ref a=>some (.ref a)
 | .type n=>some (.ty n)
 |_=>none
def RelV.abs(r:RelV x u):afe u=some x:=by
 cases x with
 |Ah=>cases r;rfl
 |bl _=>cases r;rfl
 |int _=>obtain⟨t,rfl⟩:=r;rfl
 |str _=>obtain⟨t,rfl⟩:=r;rfl
 |HS _=>obtain⟨t,rfl⟩:=r;rfl
 |Uz _=>obtain⟨t,rfl⟩:=r;rfl
 |ref _=>cases r;rfl
 |ty _=>cases r;rfl
def RelV.inj(r:RelV x u)(q:RelV y u):x=y:=GW (r.abs.symm.trans q.abs)
def Ai.inj:∀{xs ys:List V}{us:List A5},Ai xs us->Ai ys us->xs=ys
 |_,_,_,.nil,.nil=>rfl
 |_,_,_,.cons r t,.cons r' t'=>by rw[r.inj r',Ai.inj t t']
section
variable{X:Cx}{pins:List (A0×Obj)}{σ:St}{H:Hp}{s:AA}{a:A0}{xs ys:List V}
def A4.of{K:Ae}(h:H a=some (.lst xs)):A4 K H a xs:=.inl (.inl h)
def C6.of{K:Ae}(h:H a=some (.tup xs)):C6 K H a xs:=.inl (.inl h)
def Inv.list(I:Inv X pins σ H s)(h:A4 X.K H a xs):∃its:List A5,Ai xs its/\PlainL s.heap a its.toArray/\xs.length<=Al:=by
 rcases h with h|⟨o,its,n,hk,hc,hd,hs,hz,r⟩
 .obtain⟨z,its,n,r,e⟩:=h.ok I.AZ;exact⟨its,r,⟨_,n,e,rfl,rfl,rfl⟩,z⟩
 .refine⟨its.toList,r,⟨o,n,I.F5 a o hk,hc,hd,by simpa using hs⟩,?_⟩;have e:=r.length;simp only[RJ]at e;lia
def Inv.tuple(I:Inv X pins σ H s)(h:C6 X.K H a xs):∃its:List A5,Ai xs its/\IsTup s.heap a its.toArray/\xs.length<=Al:=by
 rcases h with h|⟨o,its,n,hk,hc,hs,hz,r⟩
 .obtain⟨z,its,r,p⟩:=h.ok I.AZ;exact⟨its,r,p,z⟩
 .refine⟨its.toList,r,⟨o,I.F5 a o hk,hc,n,by simpa using hs⟩,?_⟩;have e:=r.length;simp only[RJ]at e;omega
def Inv.QK(I:Inv X pins σ H s)(h:A4 X.K H a xs)(h':A4 X.K H a ys):xs=ys:=by
 obtain⟨its,r,⟨o,n,e,_,_,d⟩,_⟩:=I.list h;obtain⟨IP,r',⟨o',n',e',_,_,d'⟩,_⟩:=I.list h';rw[e]at e';cases e';rw[d]at d';injection d' with d1 _
 have:its=IP:=by simpa using congrArg aeu d1
 subst this;exact r.inj r'
def Inv.auG(I:Inv X pins σ H s)(h:C6 X.K H a xs)(h':C6 X.K H a ys):xs=ys:=by
 obtain⟨its,r,⟨o,e,_,n,d⟩,_⟩:=I.tuple h;obtain⟨IP,r',⟨o',e',_,n',d'⟩,_⟩:=I.tuple h';rw[e]at e';cases e';rw[d]at d';injection d' with d1 _
 have:its=IP:=by simpa using congrArg aeu d1
 subst this;exact r.inj r'
end
abbrev Cx.JM(X:Cx)(E:A5->AA->Prop):Cx:={X with xe:=E}
abbrev Cx.nox(X:Cx):Cx:=X.JM λ_ _=>False
def Cx.Ok.JM{X:Cx}(ok:X.Ok)(E:A5->AA->Prop):(X.JM E).Ok:=
 ⟨ok.mod,ok.kind,ok.glob,ok.blt,ok.above,ok.inj,ok.has,ok.Px,ok.hd,ok.frames,ok.Tn,ok.O3,ok.bs,ok.L9,ok.QU,ok.O4,ok.HV,ok.MS⟩
def Cx.Ok.Md{X:Cx}(ok:(X.JM E).Ok):X.Ok:=
 ⟨ok.mod,ok.kind,ok.glob,ok.blt,ok.above,ok.inj,ok.has,ok.Px,ok.hd,ok.frames,ok.Tn,ok.O3,ok.bs,ok.L9,ok.QU,ok.O4,ok.HV,ok.MS⟩
section
variable{X:Cx}{pins:List (A0×Obj)}{σ:St}{H:Hp}{s:AA}{E:A5->AA->Prop}
def Inv.JM(I:Inv X pins σ H s)(E:A5->AA->Prop):Inv (X.JM E) pins σ H s:=⟨I.ok.JM E,I.os,I.bare,I.base,I.loc,I.cell,I.free,I.G8,I.pin,I.AZ,I.len⟩
def Inv.Md(I:Inv (X.JM E) pins σ H s):Inv X pins σ H s:=⟨I.ok.Md,I.os,I.bare,I.base,I.loc,I.cell,I.free,I.G8,I.pin,I.AZ,I.len⟩
def SP.Md(h:SP (X.JM E) pins D f s'):SP X pins D f s':=by
 cases f with
 |next=>obtain⟨B1,H',I,q⟩:=h;exact⟨B1,H',I.Md,q⟩
 |brk=>obtain⟨B1,H',I,q⟩:=h;exact⟨B1,H',I.Md,q⟩
 |cont=>obtain⟨B1,H',I,q⟩:=h;exact⟨B1,H',I.Md,q⟩
 |ret u=>obtain⟨v,B1,H',I,r,q⟩:=h;exact⟨v,B1,H',I.Md,r,q⟩
end
section
variable{X:Cx}{st:D8}{rest:List D8}{t u:TS}{e:B7}{te:TE}{pos:Pos}
def abe:TS:=λD σ H=>D.nx σ H
def X4(t u:TS):TS:=λD σ H=>t {D with nx:=u D} σ H
def BO:JQ X [] abe:=λ_ _ σ H _ I h=>UI ⟨σ,H,I,h⟩
def A7(h1:PS X st t)(h2:JQ X rest u):JQ X (st::rest) (X4 t u):=by
 intro pins s σ H D I h;refine n_ (Be (h1 pins s σ H {D with nx:=u D} I h) λf s1 q=>?_);cases f with
 |next=>
  obtain⟨B1,H',I',q⟩:=q;exact h2 pins s1 B1 H' D I' q
 |ret v=>exact q
 |brk=>exact q
 |cont=>exact q
def AE(h1:PS X st t):JQ X [st] t:=by
 intro pins s σ H D I h;refine n_ (Be (h1 pins s σ H D I h) λf s1 q=>?_);cases f with
 |next=>exact UI q
 |ret v=>exact q
 |brk=>exact q
 |cont=>exact q
def Inv.quiet(I:Inv X pins σ H s):interactive X.env=false:=by simp[interactive,I.ok.kind]
def abv(te:TE):TS:=λD σ H=>te σ H λ_ H1=>D.nx σ H1
def Df(he:PE X e te)(hs:autoParam (M2 e none pos.line X.env=pure false) auR):PS X (.Expr e pos) (abv te):=by
 intro pins s σ H D I h;exact wpAny_Expr_any (Bi (he pins s σ H _ I h) λv s1 x H1 I1 r1 q1=>⟨σ,H1,I1,q1⟩) I.quiet hs
def acd(te:TE):TS:=λD σ H=>te σ H D.rt
def Aa(he:PE X e te):PS X (.Return (some e) pos) (acd te):=by
 intro pins s σ H D I h;exact wpAny_Return_some (Bi (he pins s σ H _ I h) λv s1 x H1 I1 r1 q1=>⟨x,σ,H1,I1,r1,q1⟩)
def aty:TS:=λD _ H=>D.rt .Ah H
def aby(c:TT)(t u:TS):TS:=λD σ H=>c σ H λb H1=>if b=true then t D σ H1 else u D σ H1
def BR(hc:PT X c tc)(ha:JQ X a t)(hb:JQ X b u):PS X (.If c a b pos) (aby tc t u):=by
 intro pins s σ H D I h;refine wpAny_If (Be (hc pins s σ H _ I h) λd s1 AG=>?_);obtain⟨H1,I1,q1⟩:=AG;cases d with
 |true=>exact ha pins s1 σ H1 D I1 q1
 |false=>exact hb pins s1 σ H1 D I1 q1
def atx:TS:=λ_ _ _=>False
def ap6:PS X st atx:=λ_ _ _ _ _ _ h=>h.elim
end
abbrev TG:=V->St->Hp->(St->Hp->Prop)->Prop
abbrev VP:=List V->St->Hp->(St->Hp->Prop)->Prop
def PG(X:Cx)(target:B7)(t:TG):Prop:=
 ∀(pins:List (A0×Obj))(s:AA)(σ:St)(H:Hp)(v:V)(u:A5)(Q:St->Hp->Prop),Inv X pins σ H s->RelV v u->t v σ H Q->
  AJ (AU X.prog X.w) X.A (M8 target X.env u) (λ_ s'=>∃B1 H',Inv X pins B1 H' s'/\Q B1 H') X.xe s
def VJ(X:Cx)(ts:List B7)(t:VP):Prop:=
 ∀(pins:List (A0×Obj))(s:AA)(σ:St)(H:Hp)(vs:List V)(us:List A5)(Q:St->Hp->Prop),Inv X pins σ H s->Ai vs us->t vs σ H Q->
  AJ (AU X.prog X.w) X.A (assignInOrder ((Nk ts X.env).map (·.2)) us) (λ_ s'=>∃B1 H',Inv X pins B1 H' s'/\Q B1 H') X.xe s
abbrev qZ:=V->V->V->Hp->(Hp->Prop)->Prop
def qV(X:Cx)(t:qZ):Prop:=
 ∀(pins:List (A0×Obj))(s:AA)(σ:St)(H:Hp)(o i v:V)(ov iv u:A5)(Q:Hp->Prop),Inv X pins σ H s->RelV o ov->RelV i iv->RelV v u->t o i v H Q->
  AJ (AU X.prog X.w) X.A (setItem ov iv u) (λ_ s'=>∃H',Inv X pins σ H' s'/\Q H') X.xe s
abbrev Zq:=V->V->Hp->VK->Prop
def dY(X:Cx)(op:Operator)(t:Zq):Prop:=
 ∀(pins:List (A0×Obj))(s:AA)(σ:St)(H:Hp)(x y:V)(v u:A5)(Q:VK),Inv X pins σ H s->RelV x v->RelV y u->t x y H Q->
  AJ (AU X.prog X.w) X.A (inplaceOp op v u) (EP X pins σ Q) X.xe s
section
variable{X:Cx}{pos:Pos}
def DD(i:Nat):TG:=λv σ H Q=>Q (σ.set i (some v)) H
def Ay(hN:X.N.Nodup)(hi:X.N[i]? =some x)(hx:Loc X.env.scope x)(hf:X.fn x=true\/X.env.scope.names.lookup x=some .local:=by first|exact .inl rfl|exact .inr rfl|assumption):PG X (.Name x pos) (DD i):=by
 intro pins s σ H v u Q I r h;exact oE (km I hN hi hx r (λs' I'=>⟨_,H,I',h⟩) hf)
def Q6:VP:=λvs σ H Q=>vs=[]/\Q σ H
def HZ(t:TG)(u:VP):VP:=λvs σ H Q=>∃v r,vs=v::r/\t v σ H λB1 H'=>u r B1 H' Q
def Hg:VJ X [] Q6:=by
 intro pins s σ H vs us Q I r h;obtain⟨e,h⟩:=h;subst e;cases r;exact assignInOrder_nil ⟨σ,H,I,h⟩
def Cs(h1:PG X e t)(h2:VJ X es u)
 (hs:autoParam ((Nk (e::es) X.env).map (·.2)=M8 e X.env::(Nk es X.env).map (·.2)) auR):VJ X (e::es) (HZ t u):=by
 intro pins s σ H vs us Q I r h;obtain⟨v,vr,e1,h⟩:=h;subst e1;cases r with
 |cons r rr=>
  rw[hs];refine assignInOrder_cons (Be (h1 pins s σ H _ _ _ I r h) λ_ s1 AG=>?_);obtain⟨JN,H1,I1,q1⟩:=AG;exact h2 pins s1 JN H1 _ _ Q I1 rr q1
def O8(K:Ae)(n:Nat)(t:VP):TG:=λv σ H Q=>∃a xs,v=.ref a/\C6 K H a xs/\xs.length=n/\t xs σ H Q
def Lg(hc:X.calm=true)(h:VJ X es t)
 (hn:autoParam ((Nk es X.env).length=n) auR)(Bt:autoParam ((Nk es X.env).findIdx? (·.1)=none) auR):PG X (.Tuple es k pos) (O8 X.K n t):=by
 intro pins s σ H v u Q I r hw;w_up;obtain⟨a,xs,e1,hq,hl,hw⟩:=hw;fin2;subst e1;cases r;w_up;obtain⟨its,rv,ht,hz⟩:=I.tuple hq;fin2;refine assign_Tuple_tuple (I.ok.hd hc) ht (by simp[hn,<-hl,rv.length]) Bt λh' hx=>?_;have I1:Inv X pins σ H {s with heap:=h'}:=I.kept (t':=s.toks) λb o e=>hx b o (DU (BZ e)) e;exact h pins _ σ H xs _ Q I1 (by simpa using rv) hw
def SK(to ti:TE)(t:qZ):TG:=λv σ H Q=>to σ H λo H1=>ti σ H1 λi H2=>t o i v H2 λH3=>Q σ H3
def WT(ho:PE X o to)(hi:PE X i ti)(hs:qV X t)
 (ha:autoParam (∀v,M8 (.Subscript o i pos) X.env v=(do
  let ov<-I0 [v] (As o X.env);let iv<-I0 [v,ov] (As i X.env)
  M6 pos
  I0 [v,ov,iv] (setItem ov iv v)
  release [v,ov,iv] [])) auI):PG X (.Subscript o i pos) (SK to ti t):=by
 intro pins s σ H v u Q I r h;rw[ha];refine AN (PX (Bi (ho pins s σ H _ I h) λov s1 x H1 I1 r1 q1=>?_));refine AN (PX (Bi (hi pins s1 σ H1 _ I1 q1) λiv s2 y H2 I2 r2 q2=>?_));refine AN (ZL (AN (PX (Be (hs pins s2 σ H2 x y v ov iv u _ I2 r1 r2 r q2) λ_ s3 AG=>?_))));obtain⟨H3,I3,q3⟩:=AG;exact wpAny_release ⟨σ,H3,I3,q3⟩
def X0(te:TE)(g:TG):TS:=λD σ H=>te σ H λx H1=>g x σ H1 D.nx
def WY(he:PE X e te)(hg:PG X tg g)(hs:autoParam (swapsWithSole [tg] e pos.line X.env=pure false) auR)(hw:autoParam (swappedStores [tg] e X.env=pure none) auR)
 (h1:autoParam ((Nk [tg] X.env).map (·.2)=[M8 tg X.env]) auR):PS X (.Assign [tg] e pos) (X0 te g):=by
 intro pins s σ H D I h;refine wpAny_Assign_stores (Bi (he pins s σ H _ I h) λv s1 x H1 I1 r1 q1=>?_) hs hw;rw[h1];exact Be (hg pins s1 σ H1 x v _ I1 r1 q1) λ_ s2 q=>q
def AW(hN:X.N.Nodup)(hi:X.N[i]? =some x)(hx:Loc X.env.scope x)(he:PE X e te)(hs:autoParam (M2 e (some (.Name x pos')) pos.line X.env=pure false) auR)(hf:X.fn x=true\/X.env.scope.names.lookup x=some .local:=by first|exact .inl rfl|exact .inr rfl|assumption):
 PS X (.Assign [.Name x pos'] e pos) (X0 te (DD i)):=by
 intro pins s σ H D I h;refine wpAny_Assign_Name (Bi (he pins s σ H _ I h) λv s1 y H1 I1 r1 q1=>?_) hs;exact km I1 hN hi hx r1 (λs2 I2=>⟨_,H1,I2,q1⟩) hf
def abo(i:Nat)(te:TE)(ti:Zq):TS:=λD σ H=>Wr σ[i]? λx=>te σ H λy H1=>ti x y H1 λz H2=>D.nx (σ.set i (some z)) H2
def WZ(hN:X.N.Nodup)(hi:X.N[i]? =some x)(hx:Loc X.env.scope x)(he:PE X e te)(ho:dY X op ti)(hf:X.fn x=true\/X.env.scope.names.lookup x=some .local:=by first|exact .inl rfl|exact .inr rfl|assumption):
 PS X (.AugAssign (.Name x pos') op e pos) (abo i te ti):=by
 intro pins s σ H D I h;w_up;obtain⟨v,e1,h⟩:=yj h;obtain⟨m,hn,hl⟩:=I.loc;have vis:Ny X.env.scope x:=by rcases hx with k|k;exact .inl k;exact .inr (.inl k)
 obtain⟨u,r,l⟩:=hl i x v hi e1 vis;fin2;refine wpAny_AugAssign_Name ?_;have go:AJ (AU X.prog X.w) X.A (As e X.env) (λw Ef=>AJ (AU X.prog X.w) X.A (inplaceOp op u w) (λr Oh=>AJ (AU X.prog X.w) X.A (storeName X.env x r) (λ_=>SP X pins D .next) X.xe Oh) X.xe Ef) X.xe s:=by
  refine Bi (he pins s σ H _ I h) λw s1 y H1 I1 r1 q1=>?_;refine Bi (ho pins s1 σ H1 v y u w _ I1 r r1 q1) λz s2 zv H2 I2 r2 q2=>?_;exact km I2 hN hi hx r2 (λs3 I3=>⟨_,H2,I3,q2⟩) hf
 rcases l with⟨hk,hm⟩|⟨hk,c,hc,Pn⟩
 .exact ada I.ok.kind hk hn hm go
 .rcases hk with hk|hk
  .exact adO I.ok.kind hk hc Pn go
  .rcases hx with k|k
   .have:X.env.scope.names.lookup x=some .free:=hk;rw[k]at this;cases this
   .have:X.env.scope.names.lookup x=some .free:=hk;rw[k]at this;cases this
def ip(f:Int->Int->Int):Zq:=λx y H Q=>Bl x λi=>Bl y λj=>Q (.int (f i j)) H
def bW:dY X .Add (ip λi j=>i+j):=by
 intro pins s σ H x y v u Q I r1 r2 h;obtain⟨i,j,e1,e2,q⟩:=TU h;subst e1;subst e2;obtain⟨t,rfl⟩:=r1;obtain⟨t',rfl⟩:=r2;exact aeU ⟨.int _,H,I.tok _,⟨_,rfl⟩,q⟩
def amC:dY X .Sub (ip λi j=>i-j):=by
 intro pins s σ H x y v u Q I r1 r2 h;obtain⟨i,j,e1,e2,q⟩:=TU h;subst e1;subst e2;obtain⟨t,rfl⟩:=r1;obtain⟨t',rfl⟩:=r2;exact isub_int ⟨.int _,H,I.tok _,⟨_,rfl⟩,q⟩
end
section
variable{X:Cx}{pos:Pos}
def atz(c:TT)(tb:TS):TS:=λD σ H=>∃W:Nat->St->Hp->Prop,(∃m,W m σ H)/\∀m σ H,W m σ H->
 c σ H λb H1=>if b=true then∃N:St->Hp->Prop,(∀B1 H',N B1 H'->∃m',m'<m/\W m' B1 H')/\tb {D with nx:=N,ct:=N,bk:=D.nx} σ H1 else D.nx σ H1
def xj(hp:PassesOwn (AU X.prog X.w) X.A X.env X.xe)(hc:PT X c tc)(hb:JQ X body tb):PS X (.While c body [] pos) (atz tc tb):=by
 intro pins s σ H D I h;w_up;obtain⟨W,⟨m0,w0⟩,turn⟩:=h;fin2;refine wpAny_While (codeAny_whileLoop (λn s'=>∃B1 H',Inv X pins B1 H' s'/\W n B1 H') ?_ m0 ⟨σ,H,I,w0⟩);intro n s1 AG;w_up;obtain⟨JN,H1,I1,w1⟩:=AG;fin2;refine P_ hp (Be (hc pins s1 JN H1 _ I1 (turn n JN H1 w1)) λb s2 AG=>?_);obtain⟨H2,I2,q2⟩:=AG;cases b with
 |true=>
  w_up;obtain⟨N,hN,q2⟩:=q2;fin2;rw[if_pos rfl];refine P_ hp (Be (hb pins s2 JN H2 _ I2 q2) λf s3 q3=>?_);cases f with
  |next=>
   w_up;obtain⟨Kh,H3,I3,n3⟩:=q3;obtain⟨m',hm,w3⟩:=hN Kh H3 n3;fin2;exact⟨m',hm,Kh,H3,I3,w3⟩
  |cont=>
   w_up;obtain⟨Kh,H3,I3,n3⟩:=q3;obtain⟨m',hm,w3⟩:=hN Kh H3 n3;fin2;exact⟨m',hm,Kh,H3,I3,w3⟩
  |brk=>exact q3
  |ret v=>exact q3
 |false=>
  rw[if_neg DR];exact UI ⟨JN,H2,I2,q2⟩
end
structure It where
 go:Nat->Hp->Prop
 FA:Nat->Hp->V->Hp->Prop
 stop:Nat->Hp->Prop
def Dj(X:Cx)(pins:List (A0×Obj))(H:Hp)(b:A0):Prop:=
 H b=none/\b≠X.env.locals/\b∉X.fs/\(b∈X.ex\/X.EV.heap.get? b=none)/\(∀x c,X.env.cells.lookup x=some c->c≠b)/\∀p∈X.pn++pins,p.1≠b
def Inv.V0(I:Inv X pins σ H s)(hb:s.heap.get? b=none)(hx:b∉X.ex)(hn:H' b=none):Dj X pins H' b:=by
 refine⟨hn,λz=>?_,λz=>?_,.inr ?_,λx c e z=>?_,λp hp z=>?_⟩
 .obtain⟨m,⟨o,_,_,ho,_⟩,_⟩:=I.loc;rw[z,ho]at hb;cases hb
 .obtain⟨_,o,ho,_⟩:=I.HV.mem z;rw[ho]at hb;cases hb
 .cases e:X.EV.heap.get? b with
  |none=>rfl
  |some o=>
   obtain⟨o',q⟩:=I.base.there b o e hx;rw[q]at hb;cases hb
 .obtain⟨v,o,q,_⟩:=I.cell x c e;rw[z,hb]at q;cases q
 .have q:=(I.pin p hp).1;rw[z,hb]at q;cases q
def Inv.KJ(I:Inv X pins σ H s)(hb:s.heap.objs.size<=b)(hn:H' b=none):Dj X pins H' b:=by
 refine⟨hn,Ly (CT I.lt hb),I.anU hb,.inr (ad_ (Ao I.sz hb)),λx c e z=>?_,λp hp z=>?_⟩
 .obtain⟨v,q⟩:=I.cell x c e;exact absurd (CT q.lt (by rw[z];exact hb)) (GR _)
 .exact absurd (CT (BZ (I.pin p hp).1) (by rw[z];exact hb)) (GR _)
structure Turn(P:Bs)(w:Bg)(K:Ae)(tg:B7)(J:It)(fp:List A0)(it:A0)(tn:Nat->B5->Prop):Prop where
 mem:it∈fp
 obj:∀i h,tn i h->∀b∈fp,∃o,h.get? b=some o/\∀v,o.data≠.cell v
 keep:∀i h h',tn i h->(∀b∈fp,∀o,h.get? b=some o->h'.get? b=some o)->tn i h'
 item:∀(X:Cx),X.prog=P->X.w=w->X.K=K->X.calm=true->∀(i:Nat)(pins:List (A0×Obj))(s:AA)(σ:St)(H:Hp)(E:A5->AA->Prop),Inv X pins σ H s->(∀b∈fp,Dj X pins H b)->tn i s.heap->J.go i H->
  AJ (AU P w) X.A (JG (.ref it)) (λr s1=>∃u,r=some u/\
   AJ (AU P w) X.A (Z7 tg (.ref it) u) (λ_ s2=>∃x H',Inv X pins σ H' s2/\RelV x u/\J.FA i H x H'/\tn (i+1) s2.heap/\∀b∈fp,H' b=none) E s1) E s
 done:∀(X:Cx),X.prog=P->X.w=w->X.K=K->X.calm=true->∀(i:Nat)(pins:List (A0×Obj))(s:AA)(σ:St)(H:Hp)(E:A5->AA->Prop),Inv X pins σ H s->(∀b∈fp,Dj X pins H b)->tn i s.heap->J.stop i H->
  AJ (AU P w) X.A (JG (.ref it)) (λr s1=>r=none/\Inv X pins σ H s1) E s
 self:∀(A:CB)(i:Nat)(s:AA)(Q:A5->AA->Prop)(E:A5->AA->Prop),tn i s.heap->Q (.ref it) s->AJ (AU P w) A (pyIter (.ref it)) Q E s
abbrev TI:=St->Hp->(It->Hp->Prop)->Prop
def dX(X:Cx)(pins:List (A0×Obj))(σ:St)(tg:B7)(R:It->Hp->Prop)(bX:A5)(s2:AA):Prop:=
 ∃(it:A0)(fp:List A0)(tn:Nat->B5->Prop)(J:It)(H':Hp),bX=.ref it/\Inv X pins σ H' s2/\Turn X.prog X.w X.K tg J fp it tn/\tn 0 s2.heap/\(∀b∈fp,Dj X pins H' b)/\R J H'
def PI(X:Cx)(tg iter:B7)(wi:TI):Prop:=
 ∀(pins:List (A0×Obj))(s:AA)(σ:St)(H:Hp)(R:It->Hp->Prop),Inv X pins σ H s->wi σ H R->
  AJ (AU X.prog X.w) X.A (As iter X.env) (λv s1=>AJ (AU X.prog X.w) X.A (pyIter v) (dX X pins σ tg R) X.xe s1) X.xe s
def Ug(ho:s.heap.get? it=some o)(hc:o.cls=.type n)(hd:o.data=.fields vs)
 (hn:["enumerate","zip","dict_itemiterator","dict_reverseitemiterator","odict_iterator","itertools.zip_longest","itertools.pairwise"].contains n=false)(hQ:Q () s):AJ M A (Z7 tg (.ref it) u) Q E s:=by
 unfold Z7;cases tg<;>first
  |exact BN hQ
  |(cases u<;>first
     |exact BN hQ
     |(refine AN (wpAny_load ho ?_)
       rw[hc,hd];show AJ M A (if(["enumerate","zip","dict_itemiterator","dict_reverseitemiterator","odict_iterator","itertools.zip_longest","itertools.pairwise"].contains n&&vs[0]? ==some (Jx _))=true then _ else _) Q E s;rw[if_neg (by intro h;rw[hn,aeJ]at h;cases h)];exact BN hQ))
def S3(K:Ae)(a:A0):It:=
 ⟨λi H=>∃xs x,A4 K H a xs/\xs[i]? =some x,λi H x H'=>H'=H/\∀xs,A4 K H a xs->xs[i]? =some x,λi H=>∃xs,A4 K H a xs/\xs.length<=i⟩
def Zg(K:Ae)(a:A0):It:=
 ⟨λi H=>∃xs x,C6 K H a xs/\xs[i]? =some x,λi H x H'=>H'=H/\∀xs,C6 K H a xs->xs[i]? =some x,λi H=>∃xs,C6 K H a xs/\xs.length<=i⟩
def QH(lo:Int)(n:Nat):It:=⟨λi _=>i<n,λi H x H'=>H'=H/\x=.int (lo+i),λi _=>n<=i⟩
def auP{K:Ae}{tg:B7}(a it:A0):Turn P w K tg (S3 K a) [it] it (λi h=>h.IsListIter it a i)where
 mem:=by simp
 obj:=λi h st b hb=>by
  have e:b=it:=by simpa using hb
  subst e;w_up;obtain⟨o,e,c,d⟩:=st;fin2;exact⟨o,e,λv z=>by rw[d]at z;cases z⟩
 keep:=λi h h' st k=>st.at λo e=>k it (by simp) o e
 item:=by
  intro X hP hw hK hc i pins s σ H E I hf st hg;subst hP hw hK;w_up;obtain⟨xs,x,hq,hx⟩:=hg;obtain⟨its,rv,p,hz⟩:=I.list hq;obtain⟨u,hu,ru⟩:=rv.get hx;obtain⟨f0,f1,f2,f3,f4,f5⟩:=hf it (by simp);fin2;refine ad8 st p.isList (x:=u) (by simpa using hu) λh' GL sb=>?_;have I1:Inv X pins σ H {s with heap:=h'}:=I.turned (t':=s.toks) (λb o hb e=>(sb.2 b hb).trans e) f0 f1 f3 f4 f5;w_up;obtain⟨o,e,c,d⟩:=id GL;fin2;exact⟨u,rfl,Ug (s:={s with heap:=h'}) e c d (by decide) ⟨x,H,I1,ru,⟨rfl,λys hy=>by rw[I.QK hy hq];exact hx⟩,GL,λb hb=>(hf b hb).1⟩⟩
 done:=by
  intro X hP hw hK hc i pins s σ H E I hf st hg;subst hP hw hK;w_up;obtain⟨xs,hq,hx⟩:=hg;obtain⟨its,rv,p,hz⟩:=I.list hq;obtain⟨f0,f1,f2,f3,f4,f5⟩:=hf it (by simp);fin2;have hl:=rv.length;exact adV (I.ok.hd hc) st p.isList (by simp;lia) λh' eb=>⟨rfl,I.turned (t':=s.toks) (λb o hb e=>eb b o hb e) f0 f1 f3 f4 f5⟩
 self:=λ_ _ _ _ _ st h=>wpAny_pyIter_listiter st h
def auU{K:Ae}{tg:B7}(a it:A0):Turn P w K tg (Zg K a) [it] it (λi h=>h.IsTupleIter it a i)where
 mem:=by simp
 obj:=λi h st b hb=>by
  have e:b=it:=by simpa using hb
  subst e;w_up;obtain⟨o,e,c,d⟩:=st;fin2;exact⟨o,e,λv z=>by rw[d]at z;cases z⟩
 keep:=λi h h' st k=>st.at λo e=>k it (by simp) o e
 item:=by
  intro X hP hw hK hc i pins s σ H E I hf st hg;subst hP hw hK;w_up;obtain⟨xs,x,hq,hx⟩:=hg;obtain⟨its,rv,p,hz⟩:=I.tuple hq;obtain⟨u,hu,ru⟩:=rv.get hx;obtain⟨f0,f1,f2,f3,f4,f5⟩:=hf it (by simp);fin2;refine wpAny_pyNext_tuple_item st (show s.heap.IsTuple a its.toArray from p) (x:=u) (by simpa using hu) λh' GL sb=>?_;have I1:Inv X pins σ H {s with heap:=h'}:=I.turned (t':=s.toks) (λb o hb e=>(sb.2 b hb).trans e) f0 f1 f3 f4 f5;w_up;obtain⟨o,e,c,d⟩:=id GL;fin2;exact⟨u,rfl,Ug (s:={s with heap:=h'}) e c d (by decide) ⟨x,H,I1,ru,⟨rfl,λys hy=>by rw[I.auG hy hq];exact hx⟩,GL,λb hb=>(hf b hb).1⟩⟩
 done:=by
  intro X hP hw hK hc i pins s σ H E I hf st hg;subst hP hw hK;w_up;obtain⟨xs,hq,hx⟩:=hg;obtain⟨its,rv,p,hz⟩:=I.tuple hq;obtain⟨f0,f1,f2,f3,f4,f5⟩:=hf it (by simp);fin2;have hl:=rv.length;exact wpAny_pyNext_tuple_end (I.ok.hd hc) st (show s.heap.IsTuple a its.toArray from p) (by simp;omega) λh' eb=>⟨rfl,I.turned (t':=s.toks) (λb o hb e=>eb b o hb e) f0 f1 f3 f4 f5⟩
 self:=λ_ _ _ _ _ st h=>wpAny_pyIter_tupleiter st h
def auS{K:Ae}{tg:B7}(it:A0)(lo:Int)(n:Nat):Turn P w K tg (QH lo n) [it] it (λi h=>ZN h it (lo+(i:Nat)*1) ((n:Int)-(i:Nat)) 1)where
 mem:=by simp
 obj:=λi h st b hb=>by
  have e:b=it:=by simpa using hb
  subst e;exact⟨_,st,λv z=>by
   have z':Data.fields _=Data.cell v:=z;cases z'⟩
 keep:=λi h h' st k=>k it (by simp) _ st
 item:=by
  intro X hP hw hK hc i pins s σ H E I hf st hg;subst hP hw hK;w_up;obtain⟨f0,f1,f2,f3,f4,f5⟩:=hf it (by simp);fin2;have W:=af8 (prog:=X.prog) (w:=X.w) (I.ok.hd hc) it lo 1 n;refine W.item i s _ _ hg st λv h' tk hv GL kk=>?_;obtain⟨t,rfl⟩:=hv;have I1:Inv X pins σ H {s with heap:=h',toks:=tk}:=I.turned (λb o hb e=>kk b o (by simpa using hb) e) f0 f1 f3 f4 f5;refine⟨_,rfl,Ug (s:={s with heap:=h',toks:=tk}) (n:="range_iterator") GL rfl rfl (by decide) ⟨.int (lo+i),H,I1,⟨t,?_⟩,⟨rfl,rfl⟩,GL,λb hb=>(hf b hb).1⟩⟩;rw[Int.mul_one]
 done:=by
  intro X hP hw hK hc i pins s σ H E I hf st hg;subst hP hw hK;w_up;obtain⟨f0,f1,f2,f3,f4,f5⟩:=hf it (by simp);fin2;exact ad9 (I.ok.hd hc) st (by have:n<=i:=hg;lia) λh' eb=>⟨rfl,I.turned (t':=s.toks) (λb o hb e=>eb b o hb e) f0 f1 f3 f4 f5⟩
 self:=λ_ _ _ _ _ st h=>adA st h
section
variable{X:Cx}{tg:B7}
def uQ(K:Ae)(tl:TE):TI:=λσ H R=>tl σ H λx H1=>Bm x λa=>(∃xs,A4 K H1 a xs)/\R (S3 K a) H1
def uV(K:Ae)(tl:TE):TI:=λσ H R=>tl σ H λx H1=>Bm x λa=>(∃xs,C6 K H1 a xs)/\R (Zg K a) H1
def De{tl:TE}(hl:PE X l tl):PI X tg l (uQ X.K tl):=by
 intro pins s σ H R I h;refine Be (hl pins s σ H _ I h) λv s1 AG=>?_;obtain⟨x,H1,I1,r1,q1⟩:=AG;obtain⟨a,e,⟨xs,hq⟩,q⟩:=Jf q1;subst e;cases r1;obtain⟨its,rv,p,hz⟩:=I1.list hq;refine RW p.isList ?_;refine⟨s1.heap.objs.size,[s1.heap.objs.size],_,_,H1,rfl,I1.kept (t':=s1.toks) λb o e=>BK _ e,auP a _,⟨_,C_ _ rfl,rfl,rfl⟩,λb hb=>?_,q⟩;have e:b=s1.heap.objs.size:=by simpa using hb
 subst e;exact I1.KJ (Az _) (I1.AZ.fresh (Az _))
def apg{tl:TE}(hl:PE X l tl):PI X tg l (uV X.K tl):=by
 intro pins s σ H R I h;refine Be (hl pins s σ H _ I h) λv s1 AG=>?_;obtain⟨x,H1,I1,r1,q1⟩:=AG;obtain⟨a,e,⟨xs,hq⟩,q⟩:=Jf q1;subst e;cases r1;obtain⟨its,rv,p,hz⟩:=I1.tuple hq;refine wpAny_pyIter_tuple (show s1.heap.IsTuple a its.toArray from p) ?_;refine⟨s1.heap.objs.size,[s1.heap.objs.size],_,_,H1,rfl,I1.kept (t':=s1.toks) λb o e=>BK _ e,auU a _,⟨_,C_ _ rfl,rfl,rfl⟩,λb hb=>?_,q⟩;have e:b=s1.heap.objs.size:=by simpa using hb
 subst e;exact I1.KJ (Az _) (I1.AZ.fresh (Az _))
def zS{R:It->Hp->Prop}{E:A5->AA->Prop}{lo hi:Int}{t u v:Tok}{tk:Nat}(I:Inv X pins σ H s)(h1: -(2^62)<=lo)(h2:lo<2^62)(h3: -(2^62)<=hi)(h4:hi<2^62)
 (q:R (QH lo (hi-lo).toNat) H):AJ (AU X.prog X.w) X.A (pyIter (.ref s.heap.objs.size)) (dX X pins σ tg R) E {s with heap:=s.heap.push {cls:=.type "range",data:=.fields #[.int lo t,.int hi u,.int 1 v]},toks:=tk}:=by
 refine aeA (af2 ..) (small_one h1 h2 h3 h4) ?_;have I1:Inv X pins σ H {s with heap:=s.heap.push {cls:=.type "range",data:=.fields #[.int lo t,.int hi u,.int 1 v]},toks:=tk}:=I.kept λb o e=>BK _ e;refine⟨(s.heap.push {cls:=.type "range",data:=.fields #[.int lo t,.int hi u,.int 1 v]}).objs.size,[(s.heap.push {cls:=.type "range",data:=.fields #[.int lo t,.int hi u,.int 1 v]}).objs.size],_,_,H,rfl,
  I1.kept (t':=tk) λb o e=>BK _ e,auS _ lo (hi-lo).toNat,?_,λb hb=>?_,q⟩
 .have e1:lo+((0:Nat):Int)*1=lo:=by simp
  have e2:(((hi-lo).toNat:Nat):Int)-((0:Nat):Int)=Tx lo hi 1:=by rw[rangeSize_one];split<;>lia
  show ZN _ _ (lo+((0:Nat):Int)*1) ((((hi-lo).toNat:Nat):Int)-((0:Nat):Int)) 1;rw[e1,e2];exact C_ _ rfl
 .have e:b=(s.heap.push {cls:=.type "range",data:=.fields #[.int lo t,.int hi u,.int 1 v]}).objs.size:=by simpa using hb
  subst e;exact I1.KJ (Az _) (I1.AZ.fresh (Az _))
def uR(ta:TA):TI:=λσ H R=>ta σ H λvs H1=>FY vs λx=>Bl x λj=> -(2^62)<=j/\j<2^62/\R (QH 0 j.toNat) H1
def uS(ta:TA):TI:=λσ H R=>ta σ H λvs H1=>K5 vs λx y=>Bl x λi=>Bl y λj=>(-(2^62)<=i/\i<2^62/\ -(2^62)<=j/\j<2^62)/\R (QH i (j-i).toNat) H1
def Oa{ta:TA}{p pos:Pos}(hg:Gl X "range")(hm:X.mg "range"=none)(ha:PA X [a] ta)(hs:autoParam (B0 [a] X.env=[(false,As a X.env)]) auR):PI X tg (.Call (.Name "range" p) [a] [] pos) (uR ta):=by
 intro pins s σ H R I h;refine Call_ (NP I hg hm ox (P4 (J9 (ha pos pins s σ H _ I h) λus s1 vs H1 I1 r1 q1=>?_) hs rfl));replace q1:=ye q1;obtain⟨j,e,q1,q2,q⟩:=q1;subst e;cases r1 with
 |cons r rr=>
  cases rr;obtain⟨t,rfl⟩:=r;exact call_range_1 (zS I1 (by lia) (by lia) q1 q2 (by simpa using q))
def ape(hg:Gl X "range")(hm:X.mg "range"=none)(ha:PA X [a,b] ta)(hs:autoParam (B0 [a,b] X.env=[(false,As a X.env),(false,As b X.env)]) auR)(Fq:autoParam (B0 [b] X.env=[(false,As b X.env)]) auR):
 PI X tg (.Call (.Name "range" p) [a,b] [] pos) (uS ta):=by
 intro pins s σ H R I h;refine Call_ (NP I hg hm ox (P4 (J9 (ha pos pins s σ H _ I h) λus s1 vs H1 I1 r1 q1=>?_) (by rw[hs,Fq]) (by rw[Fq];rfl)));replace q1:=kb q1;obtain⟨i,j,e,⟨q1,q2,q3,q4⟩,q⟩:=q1;subst e;cases r1 with
 |cons r rr=>
  cases rr with
  |cons r' rr=>
   cases rr;obtain⟨t,rfl⟩:=r;obtain⟨t',rfl⟩:=r';exact call_range_2 (zS I1 q1 q2 q3 q4 q)
def abw(wi:TI)(g:TG)(tb:TS):TS:=λD σ H=>wi σ H λJ H1=>∃W:Nat->Nat->St->Hp->Prop,(∃m,W 0 m σ H1)/\∀i m σ H,W i m σ H->
 (J.stop i H/\D.nx σ H)\/(J.go i H/\∃N:St->Hp->Prop,(∀B1 H',N B1 H'->∃m',m'<m/\W (i+1) m' B1 H')/\∀x H',J.FA i H x H'->g x σ H' λKg H2=>tb {D with nx:=N,ct:=N,bk:=D.nx} Kg H2)
def K7(fp:List A0)(h:B5):List (A0×Obj):=fp.filterMap λb=>(h.get? b).map λo=>(b,o)
def VW(hb:b∈fp)(e:h.get? b=some o):(b,o)∈K7 fp h:=nV.mpr ⟨b,hb,by rw[e];rfl⟩
def anE(hp:p∈K7 fp h):p.1∈fp/\h.get? p.1=some p.2:=by
 obtain⟨b,hb,e⟩:=nV.mp hp;cases q:h.get? b with
 |none=>rw[q]at e;cases e
 |some o=>
  rw[q]at e;have e':(b,o)=p:=GW e;subst e';exact⟨hb,q⟩
def Inv.pinned(I:Inv X pins σ H s)(hf:∀b∈fp,Dj X pins H b)(ho:∀b∈fp,∃o,s.heap.get? b=some o/\∀v,o.data≠.cell v):Inv X (pins++K7 fp s.heap) σ H s:=
 I.yK λp hp=>(Hr.mp hp).elim (λz=>I.pin p (Jl _ z)) λz=>by
  w_up;obtain⟨hb,e⟩:=anE z;obtain⟨f0,f1,f2,_⟩:=hf p.1 hb;obtain⟨o,e',d⟩:=ho p.1 hb;fin2;rw[e]at e';cases e';exact⟨e,f0,f1,f2,d⟩
def Inv.TC(I:Inv X (pins++pl) σ H s):Inv X pins σ H s:=I.yK λp hp=>I.pin p (Jl _ (U9 _ hp))
def E5(hp:PassesOwn (AU X.prog X.w) X.A X.env X.xe)(hc:X.calm=true)(hi:PI X tg iter wi)(hg:PG X tg g)(hb:JQ X body tb)
 (hs:autoParam (∀x,PF iter X.env x=pure x) auI):PS X (.For tg iter body [] pos) (abw wi g tb):=by
 intro pins s σ H D I h;refine wpAny_For (Be (hi pins s σ H _ I h) λv s1 h1=>Be h1 λbX s2 h2=>?_) hs;w_up;obtain⟨it,fp,tn,J,H2,e,I2,T,Li,f2,W,⟨m0,w0⟩,turn⟩:=h2;fin2;subst e;have stat:∀{H':Hp},(∀b∈fp,H' b=none)->∀b∈fp,Dj X pins H' b:=λhn b hb=>⟨hn b hb,(f2 b hb).2⟩;refine codeAny_forLoop_any (λn s'=>∃i B1 H',Inv X pins B1 H' s'/\tn i s'.heap/\(∀b∈fp,H' b=none)/\W i n B1 H') ?_ m0 ⟨0,σ,H2,I2,Li,λb hb=>(f2 b hb).1,w0⟩;intro n s3 AG;w_up;obtain⟨i,Kh,H3,I3,Tj,rK,w3⟩:=AG;fin2;rcases turn i n Kh H3 w3 with⟨stop,qn⟩|⟨go,N,hN,step⟩
 .refine P_ hp (Be (T.done X rfl rfl rfl hc i pins s3 Kh H3 X.xe I3 (stat rK) Tj stop) λr s4 AG=>?_);obtain⟨hr,I4⟩:=AG;subst hr;exact UI ⟨Kh,H3,I4,qn⟩
 .refine P_ hp (Be (T.item X rfl rfl rfl hc i pins s3 Kh H3 X.xe I3 (stat rK) Tj go) λr s4 EI=>?_);obtain⟨u,hr,h4⟩:=EI;subst hr;refine P_ hp (Be h4 λ_ s5 Uh=>?_);obtain⟨x,H5,I5,r5,y5,My,V1⟩:=Uh;have afz:=I5.pinned (stat V1) (T.obj _ _ My);refine P_ hp (Be (hg _ s5 Kh H5 x u _ afz r5 (step x H5 y5)) λ_ s6 Ui=>?_);obtain⟨σ6,H6,I6,q6⟩:=Ui;refine P_ hp (Be (hb _ s6 σ6 H6 _ I6 q6) λf s7 q7=>?_);have again:∀{Ki:St}{H7:Hp},Inv X (pins++K7 fp s5.heap) Ki H7 s7->N Ki H7->∃m,m<n/\∃i B1 H',Inv X pins B1 H' s7/\tn i s7.heap/\(∀b∈fp,H' b=none)/\W i m B1 H':=λ{Ki H7}I7 n7=>by
   w_up;obtain⟨m',hm,w7⟩:=hN Ki H7 n7;fin2;refine⟨m',hm,i+1,Ki,H7,I7.TC,T.keep _ _ _ My λb hb o e=>(I7.pin (b,o) (Jl _ (Jl _ (VW hb e)))).1,λb hb=>?_,w7⟩;w_up;obtain⟨o,e,d⟩:=T.obj _ _ My b hb;fin2;exact(I7.pin (b,o) (Jl _ (Jl _ (VW hb e)))).2.1
  cases f with
  |next=>obtain⟨Ki,H7,I7,n7⟩:=q7;exact again I7 n7
  |cont=>obtain⟨Ki,H7,I7,n7⟩:=q7;exact again I7 n7
  |brk=>obtain⟨Ki,H7,I7,q7⟩:=q7;exact⟨Ki,H7,I7.TC,q7⟩
  |ret v=>obtain⟨x7,Ki,H7,I7,r7,q7⟩:=q7;exact⟨x7,Ki,H7,I7.TC,r7,q7⟩
end
abbrev R2:=V->V->Hp->VK->Prop
def DM(X:Cx)(f:A5->A5->Sem A5)(r:R2):Prop:=
 ∀(pins:List (A0×Obj))(s:AA)(σ:St)(H:Hp)(x y:V)(v u:A5)(Q:VK),Inv X pins σ H s->RelV x v->RelV y u->r x y H Q->
  AJ (AU X.prog X.w) X.A (f v u) (EP X pins σ Q) X.xe s
def gE(X:Cx)(f:A5->Sem A5)(r:V->Hp->VK->Prop):Prop:=
 ∀(pins:List (A0×Obj))(s:AA)(σ:St)(H:Hp)(x:V)(v:A5)(Q:VK),Inv X pins σ H s->RelV x v->r x H Q->
  AJ (AU X.prog X.w) X.A (f v) (EP X pins σ Q) X.xe s
def JO(X:Cx)(f:A5)(r:List V->Hp->VK->Prop):Prop:=
 ∀(pins:List (A0×Obj))(s:AA)(σ:St)(H:Hp)(xs:List V)(us:List A5)(Q:VK),Inv X pins σ H s->Ai xs us->r xs H Q->
  AJ (AU X.prog X.w) X.A (HQ f us) (EP X pins σ Q) X.xe s
def af_(X:Cx)(r:V->Hp->(Bool->Hp->Prop)->Prop):Prop:=
 ∀(pins:List (A0×Obj))(s:AA)(σ:St)(H:Hp)(x:V)(v:A5)(Q:Bool->Hp->Prop),Inv X pins σ H s->RelV x v->r x H Q->
  AJ (AU X.prog X.w) X.A (truthy v) (TP X pins σ Q) X.xe s
def X3(r:R2)(ta tb:TE):TE:=λσ H Q=>ta σ H λx H1=>tb σ H1 λy H2=>r x y H2 Q
def aci(r:V->Hp->VK->Prop)(ta:TE):TE:=λσ H Q=>ta σ H λx H1=>r x H1 Q
def rI(C:Int->Int->Prop)(g:Int->Int->V):R2:=λx y H Q=>Bl x λi=>Bl y λj=>C i j/\Q (g i j) H
def IG(g:Int->Int->V):R2:=λx y H Q=>Bl x λi=>Bl y λj=>Q (g i j) H
def rU(g:Int->V):V->Hp->VK->Prop:=λx H Q=>Bl x λi=>Q (g i) H
section
variable{X:Cx}{a b c:B7}{ta tb tc:TE}{pos:Pos}
def fK(ha:PE X a ta)(hb:PE X b tb){H:Hp}{R:V->V->Hp->Prop}(I:Inv X pins σ H s)
 (h:ta σ H λx H1=>tb σ H1 λy H2=>R x y H2){Q:A5->AA->Prop}{f:A5->A5->Sem A5}
 (hf:∀v u s2 x y H2,Inv X pins σ H2 s2->RelV x v->RelV y u->R x y H2->AJ (AU X.prog X.w) X.A (f v u) Q X.xe s2):
 AJ (AU X.prog X.w) X.A (As a X.env) (λv Bz=>AJ (AU X.prog X.w) X.A (As b X.env) (λu Ef=>AJ (AU X.prog X.w) X.A (f v u) Q X.xe Ef) X.xe Bz) X.xe s:=by
 refine Bi (ha pins s σ H _ I h) λv s1 x H1 I1 r1 q1=>?_;refine Bi (hb pins s1 σ H1 _ I1 q1) λu s2 y H2 I2 r2 q2=>?_;exact hf v u s2 x y H2 I2 r1 r2 q2
def AM{r:R2}(ho:DM X (Ib op) r)(ha:PE X a ta)(hb:PE X b tb):PE X (.BinOp a op b pos) (X3 r ta tb):=by
 intro pins s σ H Q I h;exact wpAny_BinOp (fK ha hb I h λv u s2 x y H2 I2 rx ry q=>ho pins s2 σ H2 x y v u Q I2 rx ry q)
def Hf(ho:gE X (unaryOp op) r)(ha:PE X a ta):PE X (.UnaryOp op a pos) (aci r ta):=by
 intro pins s σ H Q I h;exact UnaryOp_ (Bi (ha pins s σ H _ I h) λv s1 x H1 I1 r1 q1=>ho pins s1 σ H1 x v Q I1 r1 q1)
def Ws{C:Int->Int->Prop}{g:Int->Int->Int}
 (Gc:∀(i j:Int)(t u:Tok)(s:AA)(Q:A5->AA->Prop)(E:A5->AA->Prop),C i j->Q (.int (g i j) s.toks) {s with toks:=s.toks+1}->AJ (AU X.prog X.w) X.A (f (.int i t) (.int j u)) Q E s):
 DM X f (rI C λi j=> .int (g i j)):=by
 intro pins s σ H x y v u Q I rx ry h;obtain⟨i,j,rfl,rfl,hc,q⟩:=TU h;obtain⟨t,rfl⟩:=rx;obtain⟨t',rfl⟩:=ry;exact Gc i j t t' s _ _ hc ⟨.int (g i j),H,I.tok _,⟨_,rfl⟩,q⟩
def Wt{g:Int->Int->Int}
 (Gc:∀(i j:Int)(t u:Tok)(s:AA)(Q:A5->AA->Prop)(E:A5->AA->Prop),Q (.int (g i j) s.toks) {s with toks:=s.toks+1}->AJ (AU X.prog X.w) X.A (f (.int i t) (.int j u)) Q E s):
 DM X f (IG λi j=> .int (g i j)):=by
 intro pins s σ H x y v u Q I rx ry h;obtain⟨i,j,rfl,rfl,q⟩:=TU h;obtain⟨t,rfl⟩:=rx;obtain⟨t',rfl⟩:=ry;exact Gc i j t t' s _ _ ⟨.int (g i j),H,I.tok _,⟨_,rfl⟩,q⟩
def jh{g:Int->Int->Bool}
 (Gc:∀(i j:Int)(t u:Tok)(s:AA)(Q:A5->AA->Prop)(E:A5->AA->Prop),Q (.bool (g i j)) s->AJ (AU X.prog X.w) X.A (f (.int i t) (.int j u)) Q E s):
 DM X f (IG λi j=> .bl (g i j)):=by
 intro pins s σ H x y v u Q I rx ry h;obtain⟨i,j,rfl,rfl,q⟩:=TU h;obtain⟨t,rfl⟩:=rx;obtain⟨t',rfl⟩:=ry;exact Gc i j t t' s _ _ ⟨.bl (g i j),H,I,rfl,q⟩
def awh(i j:Int):Prop:=(-(2^64)<i/\i<2^64)\/(-(2^64)<j/\j<2^64)
def atr(k:Nat):(0:Int)<=2^k:=by
 rw[ZA];exact U3 _
def Cr:DM X (Ib .Add) (IG λi j=> .int (i+j)):=Wt λ_ _ _ _ _ _ _ q=>add_int q
def Dn:DM X (Ib .Sub) (IG λi j=> .int (i-j)):=Wt λ_ _ _ _ _ _ _ q=>sub_int q
def ji:DM X (Ib .Mod) (rI (λ_ j=>0<j) λi j=> .int (i %j)):=Ws λi j _ _ _ _ _ hc q=>by
 have h1:(0:Int)<j:=hc;exact mod_int' (by lia) (by rw[Int.fmod_eq_emod_of_nonneg i (by lia)];exact q)
def OZ:DM X (Ib .RShift) (rI (λ_ j=>0<=j) λi j=> .int (i/2^j.toNat)):=Ws λi j _ _ _ _ _ hc q=>
 rshift_int hc (by rw[ad6 i (atr _)];exact q)
def Ig:DM X (Ib .BitAnd) (IG λi j=> .int (Hq i j)):=Wt λ_ _ _ _ _ _ _ q=>and_int q
def WM:DM X (Ib .BitOr) (IG λi j=> .int (Lo i j)):=Wt λ_ _ _ _ _ _ _ q=>or_int q
def jj:DM X (Ib .BitXor) (IG λi j=> .int (Yv i j)):=Wt λ_ _ _ _ _ _ _ q=>xor_int q
def unI{g:Int->Int}
 (Gc:∀(i:Int)(t:Tok)(s:AA)(Q:A5->AA->Prop)(E:A5->AA->Prop),Q (.int (g i) s.toks) {s with toks:=s.toks+1}->AJ (AU X.prog X.w) X.A (f (.int i t)) Q E s):
 gE X f (rU λi=> .int (g i)):=by
 intro pins s σ H x v Q I rx h;obtain⟨i,rfl,q⟩:=Mj h;obtain⟨t,rfl⟩:=rx;exact Gc i t s _ _ ⟨.int (g i),H,I.tok _,⟨_,rfl⟩,q⟩
def Hj:gE X (unaryOp .USub) (rU λi=> .int (-i)):=unI λ_ _ _ _ _ q=>neg_int q
end
def Xa:V->V->Bool
 | .Ah,.Ah=>true| .Ah,.int _=>true| .int _,.Ah=>true| .Ah,.bl _=>true| .bl _,.Ah=>true| .Ah,.str _=>true| .str _,.Ah=>true
 | .int _,.int _=>true| .bl _,.bl _=>true| .str _,.str _=>true| .HS _,.HS _=>true
 | .int _,.str _=>true| .str _,.int _=>true| .bl _,.str _=>true| .str _,.bl _=>true
 |_,_=>false
def Wa:R2:=λx y H Q=>match x,y with
 | .int i,.int j=>Q (.bl (decide (i=j))) H
 | .str i,.str j=>Q (.bl (decide (i=j))) H
 |x,y=>Xa x y=true/\Q (.bl (decide (x=y))) H
def YA:R2:=λx y H Q=>match x,y with
 | .int i,.int j=>Q (.bl (!decide (i=j))) H
 |x,y=>Xa x y=true/\Q (.bl (!decide (x=y))) H
def aos(h:Wa x y H Q):Xa x y=true/\Q (.bl (decide (x=y))) H:=by
 unfold Wa at h;split at h
 .exact⟨rfl,by simpa using h⟩
 .exact⟨rfl,by simpa using h⟩
 .exact h
def aot(h:YA x y H Q):Xa x y=true/\Q (.bl (!decide (x=y))) H:=by
 unfold YA at h;split at h
 .exact⟨rfl,by simpa using h⟩
 .exact h
def rp:decide (V.int i=V.int j)=(i==j):=by
 rw[Lv];simp
def rm:decide (V.bl i=V.bl j)=(i==j):=by
 rw[Lv];simp
def rq:decide (V.str i=V.str j)=(i==j):=by
 rw[Lv];simp
def rn:decide (V.HS i=V.HS j)=(i.toList==j.toList):=by
 rw[Lv];cases i;cases j;simp
section
variable{X:Cx}{a b c:B7}{ta tb tc:TE}{pos:Pos}
def Cv(I:Inv X pins σ H s)(q:Q (.bl k) H)(e:k=k'):EP X pins σ Q (.bool k') s:=by
 subst e;exact⟨.bl k,H,I,rfl,q⟩
def Fs:DM X (Ic .Eq) Wa:=by
 intro pins s σ H x y v u Q I rx ry h;obtain⟨hs,q⟩:=aos h;cases x with
 |Ah=>
  cases rx;cases y with
  |Ah=>cases ry;exact aw8 (Cv I q (by simp))
  |bl j=>cases ry;exact aw9 (Cv I q (by simp))
  |int j=>obtain⟨t',rfl⟩:=ry;exact avs (Cv I q (by simp))
  |str j=>obtain⟨t',rfl⟩:=ry;exact avw (Cv I q (by simp))
  |_=>exact absurd (show false=true from hs) DR
 |bl i=>
  cases rx;cases y with
  |Ah=>cases ry;exact awA (Cv I q (by simp))
  |bl j=>cases ry;exact eq_bool (Cv I q rm)
  |str j=>obtain⟨t',rfl⟩:=ry;exact awB (Cv I q (by simp))
  |_=>exact absurd (show false=true from hs) DR
 |int i=>
  obtain⟨t,rfl⟩:=rx;cases y with
  |Ah=>cases ry;exact avx (Cv I q (by simp))
  |int j=>obtain⟨t',rfl⟩:=ry;exact eq_int (Cv I q rp)
  |str j=>obtain⟨t',rfl⟩:=ry;exact avy (Cv I q (by simp))
  |_=>exact absurd (show false=true from hs) DR
 |str i=>
  obtain⟨t,rfl⟩:=rx;cases y with
  |Ah=>cases ry;exact avz (Cv I q (by simp))
  |bl j=>cases ry;exact avg (Cv I q (by simp))
  |int j=>obtain⟨t',rfl⟩:=ry;exact aw3 (Cv I q (by simp))
  |str j=>obtain⟨t',rfl⟩:=ry;exact eq_str (Cv I q rq)
  |_=>exact absurd (show false=true from hs) DR
 |HS i=>
  obtain⟨t,rfl⟩:=rx;cases y with
  |HS j=>obtain⟨t',rfl⟩:=ry;exact PySem.W.eq_bytes (Cv I q rn)
  |_=>exact absurd (show false=true from hs) DR
 |_=>cases y<;>exact absurd (show false=true from hs) DR
def IE:DM X (Ic .NotEq) YA:=by
 intro pins s σ H x y v u Q I rx ry h;obtain⟨hs,q⟩:=aot h;cases x with
 |Ah=>
  cases rx;cases y with
  |Ah=>cases ry;exact avm (Cv I q (by simp))
  |bl j=>cases ry;exact avn (Cv I q (by simp))
  |int j=>obtain⟨t',rfl⟩:=ry;exact avY (Cv I q (by simp))
  |str j=>obtain⟨t',rfl⟩:=ry;exact avZ (Cv I q (by simp))
  |_=>exact absurd (show false=true from hs) DR
 |bl i=>
  cases rx;cases y with
  |Ah=>cases ry;exact avp (Cv I q (by simp))
  |bl j=>cases ry;exact ne_bool (Cv I q (congrArg not rm))
  |str j=>obtain⟨t',rfl⟩:=ry;exact avq (Cv I q (by simp))
  |_=>exact absurd (show false=true from hs) DR
 |int i=>
  obtain⟨t,rfl⟩:=rx;cases y with
  |Ah=>cases ry;exact ava (Cv I q (by simp))
  |int j=>obtain⟨t',rfl⟩:=ry;exact ne_int (Cv I q (congrArg not rp))
  |str j=>obtain⟨t',rfl⟩:=ry;exact avb (Cv I q (by simp))
  |_=>exact absurd (show false=true from hs) DR
 |str i=>
  obtain⟨t,rfl⟩:=rx;cases y with
  |Ah=>cases ry;exact avc (Cv I q (by simp))
  |bl j=>cases ry;exact avr (Cv I q (by simp))
  |int j=>obtain⟨t',rfl⟩:=ry;exact avd (Cv I q (by simp))
  |str j=>obtain⟨t',rfl⟩:=ry;exact ne_str (Cv I q (congrArg not rq))
  |_=>exact absurd (show false=true from hs) DR
 |HS i=>
  obtain⟨t,rfl⟩:=rx;cases y with
  |HS j=>obtain⟨t',rfl⟩:=ry;exact PySem.W.ne_bytes (Cv I q (congrArg not rn))
  |_=>exact absurd (show false=true from hs) DR
 |_=>cases y<;>exact absurd (show false=true from hs) DR
def OY:DM X (Ic .Lt) (IG λi j=> .bl (decide (i<j))):=jh λ_ _ _ _ _ _ _ q=>lt_int q
def Ml:DM X (Ic .Gt) (IG λi j=> .bl (decide (j<i))):=jh λ_ _ _ _ _ _ _ q=>gt_int q
def Y0:DM X (Ic .GtE) (IG λi j=> .bl (decide (j<=i))):=jh λ_ _ _ _ _ _ _ q=>ge_int q
def BU(b:B7)(h:autoParam (op≠.In) auD)(h2:autoParam (op≠.NotIn) auD):PU op b=false:=by
 have e1:(op==CmpOp.In)=false:=by cases op<;>first|rfl|exact absurd rfl h
 have e2:(op==af7)=false:=by cases op<;>first|rfl|exact absurd rfl h2
 cases b<;>simp[PU,e1,e2]
def QZ{r:R2}(ho:DM X (Ic op) r)(ha:PE X a ta)(hb:PE X b tb)(hm:PU op b=false):PE X (.Compare a [op] [b] pos) (X3 r ta tb):=by
 intro pins s σ H Q I h;exact wpAny_Compare1 (fK ha hb I h λv u s2 x y H2 I2 rx ry q=>ho pins s2 σ H2 x y v u Q I2 rx ry q) hm
def acf(t:TE):TT:=λσ H Q=>t σ H λx H'=>Le x λk=>Q k H'
def Bc(ho:DM X (Ic op) r)(ha:PE X a ta)(hb:PE X b tb)(hm:PU op b=false):PT X (.Compare a [op] [b] pos) (acf (X3 r ta tb)):=by
 intro pins s σ H Q I h;refine adn (Bi (ha pins s σ H _ I h) λv s1 x H1 I1 r1 q1=>Bi (hb pins s1 σ H1 _ I1 q1) λu s2 y H2 I2 r2 q2=>
  Bi (ho pins s2 σ H2 x y v u _ I2 r1 r2 q2) λc s3 z H3 I3 r3 q3=>?_) hm
 obtain⟨k,e,q3⟩:=Wp q3;subst e;cases r3;exact Nd ⟨H3,I3,q3⟩
def abq(r r':R2)(ta tb tc:TE):TE:=λσ H Q=>ta σ H λx H1=>tb σ H1 λy H2=>r x y H2 λz H3=>Le z λk=>
 (if k=true then tc σ H3 λw' H4=>r' y w' H4 Q else Q (.bl false) H3)
def apS(ho:DM X (Ic op) r)(JX:DM X (Ic yk) r')(ha:PE X a ta)(hb:PE X b tb)(hc:PE X c tc)
 (hm:lastMarks [op,yk] [b,c]=false:=by with_unfolding_all rfl):PE X (.Compare a [op,yk] [b,c] pos) (abq r r' ta tb tc):=by
 intro pins s σ H Q I h;refine Compare_chain (Bi (ha pins s σ H _ I h) λv s1 x H1 I1 r1 q1=>chain_link (Bi (hb pins s1 σ H1 _ I1 q1) λu s2 y H2 I2 r2 q2=>
  Bi (ho pins s2 σ H2 x y v u _ I2 r1 r2 q2) λd s3 z H3 I3 r3 q3=>?_)) hm
 obtain⟨k,e,q3⟩:=Wp q3;subst e;cases r3;refine Nd ?_;cases k with
 |false=>exact ite_ff ⟨.bl false,H3,I3,rfl,q3⟩
 |true=>exact ite_tt (chain_last (Bi (hc pins s3 σ H3 _ I3 q3) λw' s4 z' H4 I4 r4 q4=>JX pins s4 σ H4 y z' u w' Q I4 r2 r4 q4))
def VQ(K:Ae)(x:V)(H:Hp)(k:Bool):Prop:=
 match x with
 | .Ah=>k=false
 | .bl b=>k=b
 | .int i=>k=(i !=0)
 | .str y=>y.length<=Al/\k=((y.length:Int) !=0)
 | .HS y=>y.size<=Al/\k=((y.size:Int) !=0)
 | .ref p=>(∃xs,A4 K H p xs/\k=!xs.isEmpty)\/(∃xs,C6 K H p xs/\k=!xs.isEmpty)\/∃A9,H p=some (.dK A9)/\k=!A9.isEmpty
 |_=>False
def amD(r:KV A9 vs):(!vs.isEmpty)=!A9.isEmpty:=by
 cases r<;>rfl
def uf(r:Ai xs its):(!its.toArray.isEmpty)=!xs.isEmpty:=by
 cases r<;>simp
def Ss:(Al:Nat)<2^63:=by rw[p7];decide
def auC:af_ X (λx H Q=>∃k,VQ X.K x H k/\Q k H):=by
 intro pins s σ H x v Q I rx h;obtain⟨k,e,q⟩:=h;have hl:=Ss;have hs:Al=16777216:=p7;cases x with
 |Ah=>
  cases rx;have e':k=false:=e;subst e';exact truthy_none ⟨H,I,q⟩
 |bl b=>
  cases rx;have e':k=b:=e;subst e';exact Nd ⟨H,I,q⟩
 |int i=>
  obtain⟨t,rfl⟩:=rx;have e':k=(i !=0):=e;subst e';exact PySem.P.truthy_int ⟨H,I,q⟩
 |str y=>
  obtain⟨t,rfl⟩:=rx;obtain⟨hy,e'⟩:y.length<=Al/\k=((y.length:Int) !=0):=e;subst e';exact PySem.P.truthy_str (by lia) ⟨H,I.tok _,q⟩
 |HS y=>
  obtain⟨t,rfl⟩:=rx;obtain⟨hy,e'⟩:y.size<=Al/\k=((y.size:Int) !=0):=e;subst e';exact PySem.W.truthy_bytes (by lia) ⟨H,I.tok _,q⟩
 |ref p=>
  cases rx;have e':(∃xs,A4 X.K H p xs/\k=!xs.isEmpty)\/(∃xs,C6 X.K H p xs/\k=!xs.isEmpty)\/∃A9,H p=some (.dK A9)/\k=!A9.isEmpty:=e;rcases e' with⟨xs,hx,e'⟩|⟨xs,hx,e'⟩|⟨A9,hx,e'⟩
  .subst e';obtain⟨its,r,pl,hz⟩:=I.list hx;have hlen:=r.length;exact wpAny_truthy_list pl.isList (by simp only[DH];lia) ⟨H,I.tok _,by rw[uf r];exact q⟩
  .subst e';obtain⟨its,r,pl,hz⟩:=I.tuple hx;have hlen:=r.length;exact truthy_tuple pl (by simp only[DH];lia) ⟨H,I.tok _,by rw[uf r];exact q⟩
  .subst e';obtain⟨hz,hS,vs,r,m⟩:A9.length<=Al/\(p==Jv)=false/\∃vs,KV A9 vs/\s.heap.DictOf (F7 X.prog X.w) p vs:=I.AZ p _ hx;have hlen:A9.length=vs.length:=ZK r;exact wpAny_truthy_dict hS m (by lia) ⟨H,I.tok _,by rw[amD r];exact q⟩
 |_=>exact(show False from e).elim
def Tc(ha:PE X a ta)(he:∀whole,Ru a X.env whole=(do let v<-whole;M6 a.pos;I0 [v] (truthy v))):
 PT X a (λσ H Q=>ta σ H λx H'=>∃k,VQ X.K x H' k/\Q k H'):=by
 intro pins s σ H Q I h;exact isTrue_plain (Bi (ha pins s σ H _ I h) λv s1 x H1 I1 r1 q1=>auC pins s1 σ H1 x v Q I1 r1 q1) (he _)
def vals1(r:Ai [x] us):∃u,us=[u]/\RelV x u:=by
 cases r with
 |cons r1 r2=>cases r2;exact⟨_,rfl,r1⟩
def vals2(r:Ai [x,y] us):∃u w',us=[u,w']/\RelV x u/\RelV y w':=by
 cases r with
 |cons r1 r2=>
  cases r2 with
  |cons r3 r4=>cases r4;exact⟨_,_,rfl,r1,r3⟩
def fP:JO X (.builtin "abs") (λxs H Q=>FY xs λx=>Bl x λi=>Q (.int (if i<0 then-i else i)) H):=by
 intro pins s σ H xs us Q I r h;obtain⟨i,rfl,q⟩:=ye h;obtain⟨u,rfl,t,rfl⟩:=vals1 r;exact call_abs_int λu tk=>⟨.int (if i<0 then-i else i),H,I.tok _,⟨_,rfl⟩,q⟩
def aD(hc:X.calm=true):JO X (.builtin "max") (λxs H Q=>K5 xs λx y=>Bl x λi=>Bl y λj=>Q (.int (if j>i then j else i)) H):=by
 intro pins s σ H xs us Q I r h;obtain⟨i,j,rfl,q⟩:=kb h;obtain⟨u,w',rfl,⟨t,rfl⟩,⟨t',rfl⟩⟩:=vals2 r;refine max_two_ints (I.ok.hd hc) λh' tk k=>⟨_,H,I.kept k,?_,q⟩;by_cases hj:j>i
 .rw[if_pos hj,if_pos hj];exact⟨_,rfl⟩
 .rw[if_neg hj,if_neg hj];exact⟨_,rfl⟩
def p_(hc:X.calm=true):JO X (.builtin "min") (λxs H Q=>K5 xs λx y=>Bl x λi=>Bl y λj=>Q (.int (if j<i then j else i)) H):=by
 intro pins s σ H xs us Q I r h;obtain⟨i,j,rfl,q⟩:=kb h;obtain⟨u,w',rfl,⟨t,rfl⟩,⟨t',rfl⟩⟩:=vals2 r;refine min_two_ints (I.ok.hd hc) λh' tk k=>⟨_,H,I.kept k,?_,q⟩;by_cases hj:j<i
 .rw[if_pos hj,if_pos hj];exact⟨_,rfl⟩
 .rw[if_neg hj,if_neg hj];exact⟨_,rfl⟩
def agx:JO X (.builtin "ord") (λxs H Q=>FY xs λy=>Wq y λx=>x.length=1/\Q (.int (x.cps.getD 0 0:Nat)) H):=by
 intro pins s σ H xs us Q I r h;obtain⟨x,rfl,hz,q⟩:=yf h;obtain⟨u,rfl,t,rfl⟩:=vals1 r;exact ord_of_one hz ⟨.int _,H,I.tok _,⟨_,rfl⟩,q⟩
end
structure QI(h:B5)(x dx C:A0)(mA:Str->Option A5):Prop where
 obj:h.get? x=some (N_ C dx)
 ns:h.Ns1 dx mA
 ne:dx≠x
set_option tactic.hygienic true in
def alc{h:B5}(n:h.Ns1 dx mA):∃od,h.get? dx=some od/\∀name,Yj name od=some (mA name):=by
 obtain⟨o,es,ep,ho,hd,hk,_,hm⟩:=n;refine⟨o,ho,λname=>?_⟩;have e:=hm name;unfold nsFind findBy at e;rw[<-Array.find?_toList]at e;unfold Yj;rw[hd];dsimp only;split
 .rename_i y q;rw[q]at e;exact congrArg some e
 .rename_i q;rw[q]at e;have a:es.toList.any (·.refKey)=false:=by
   rw[List.any_eq_false];intro y hy;obtain⟨z,t,alO⟩:=hk y (Array.mem_toList_iff.mp hy);simp[DictEntry.refKey,alO]
  have a':¬es.toList.any (·.refKey)=true:=by rw[a];exact DR
  rw[if_neg a'];exact congrArg some e
def QI.look(I:QI h x dx C mA):∃od,PySem.W.InstAt h x (N_ C dx) C (some od)/\∀name,Yj name od=some (mA name):=
 let⟨od,ho,hl⟩:=alc I.ns
 ⟨od,⟨I.obj,rfl,rfl,ho⟩,hl⟩
section
variable{prog:Bs}{w:Bg}{A:CB}{E:A5->AA->Prop}{s:AA}{K:Ae}{x dx C f:A0}{mA:Str->Option A5}{name:Str}{v:A5}
def get_map(X:K.In s.heap)(I:QI s.heap x dx C mA)(hg:YX K C name=true)(hh:oF K C=true)
 (ha:Kv K (.ref C) name=some none)(hv:mA name=some v)(cZ:Ye v=true)(h:Q v {s with toks:=s.toks+1}):
 AJ (AU prog w) A (getAttr (.ref x) name expr) Q E s:=by
 obtain⟨od,J,hl⟩:=I.look;exact PySem.W.get_value X J (nR hg).1 (PySem.W.findObj_own hh ha rfl (by rw[hl,hv])) cZ h
def ajB(X:K.In s.heap)(I:QI s.heap x dx C mA)(hg:YX K C name=true)
 (hf:Kv K (.ref C) name=some (some (.ref f)))(ht:oV K (.ref f)=true)(hv:mA name=none)(h:Q (.ref f,[.ref x]) s):
 AJ (AU prog w) A (Nn (.ref x) name pl) Q E s:=by
 obtain⟨od,J,hl⟩:=I.look;exact PySem.W.method_fn X J (nR hg).1 (nR hg).2 hf (beq_iff_eq.mp ht) (by show(Yj name od).map (·.isSome)=some false;rw[hl,hv];rfl) h
def ath(X:K.In s.heap)(I:QI s.heap x dx C mA)
 (hs:Kv K (.ref C) "__setattr__"=some (some (.builtin "object.__setattr__")))(hp:adw K C=true)(ht:oP K C name=some none)(hh:oF K C=true)
 (hw:oU mA ns)(hsz:ns.length<=Al)
 (h:∀h',QI h' x dx C (λy=>if y=name then some v else mA y)->UM dx s.heap h'->Q () {s with heap:=h',toks:=s.toks+2}):
 AJ (AU prog w) A (setAttr (.ref x) name v) Q E s:=by
 w_up;obtain⟨od,J,hl⟩:=I.look;fin2;refine PySem.W.set_plain X J hs (PySem.W.osa_open (s:={s with toks:=s.toks+1}) (r:=none) X J hp ht λb=>?_);w_up;obtain⟨cd,hc,MW⟩:=PySem.W.any_some hh;fin2;have hx:s.heap.get? x=some ⟨.ref C,some dx,.plain,#[]⟩:=I.obj;refine AN (BN (AN (AN (wpAny_loadPart hx (AN (awe (s:={s with toks:=s.toks+1}) (PySem.W.looks_clsIn X hc) ?_))))));rw[MW];refine BN (a:=some dx) (AN (BN (AN ?_)));refine wpAny_nsSet1 (s:={s with toks:=s.toks+1}) I.ns λh' gW Fq=>?_;w_up;obtain⟨oD,esD,epD,hoD,ak_,akQ⟩:=gW.count (al5 name v hw);fin2;refine AN (wpAny_lookBehind hoD (by rw[ak_];exact pastItsLine_dict (Ao akQ (by rw[B4];lia))) ?_);exact BN (h _ ⟨(Fq.2 _ (Ct I.ne)).trans I.obj,gW,I.ne⟩ Fq)
def ama(X:K.In s.heap)(hm:aeM K C=true)
 (hi:Kv K (.ref C) "__init__"=some (some (.ref f)))(hf:PySem.W.typeIn K (.ref f)=some (.type "function"))
 (h:JF (AU prog w) (A.under (.builtin "type.__call__" ⟨.ref C::vs,kw⟩)) (.call (.ref f) ⟨.ref (s.heap.objs.size+1)::vs,kw⟩) (PySem.W.InitBack (s.heap.objs.size+1) R)
  {s with heap:=(s.heap.push Ll).push (N_ C s.heap.objs.size)}):
 JF (AU prog w) A (.call (.ref C) ⟨vs,kw⟩) R s:=by
 obtain⟨hh,g,d,t,os⟩:=s;exact PySem.W.make_core (PySem.W.makes_of X hm) (PySem.W.looks_findIn X hi) (λself=>PySem.W.bind_fn X self hf) (.inl rfl) h
end
def AS(f:Str)(v:V):List (Str×V)->List (Str×V)
 |[]=>[(f,v)]
 |(g,x)::r=>if g=f then(g,v)::r else(g,x)::AS f v r
def wY(f g:Str)(v:V):∀fs:List (Str×V),(AS f v fs).lookup g=if g=f then some v else fs.lookup g
 |[]=>by
  show Nf g [(f,v)]=_;by_cases h:g=f
  .have hb:(g==f)=true:=beq_iff_eq.mpr h;simp only[Nf,hb,if_pos h]
  .have hb:(g==f)=false:=beq_eq_false_iff_ne.mpr h;simp only[Nf,hb,if_neg h]
 |(k,x)::r=>by
  have ih:=wY f g v r;rw[show AS f v ((k,x)::r)=(if k=f then(k,v)::r else(k,x)::AS f v r)from rfl];by_cases hk:k=f
  .rw[if_pos hk];by_cases h:g=k
   .have hb:(g==k)=true:=beq_iff_eq.mpr h;simp only[Nf,hb,if_pos (h.trans hk)]
   .have hb:(g==k)=false:=beq_eq_false_iff_ne.mpr h;simp only[Nf,hb,if_neg (λe:g=f=>h (e.trans hk.symm))]
  .rw[if_neg hk];by_cases h:g=k
   .have hb:(g==k)=true:=beq_iff_eq.mpr h;simp only[Nf,hb,if_neg (λe:g=f=>hk (h.symm.trans e))]
   .have hb:(g==k)=false:=beq_eq_false_iff_ne.mpr h;simp only[Nf,hb];exact ih
def iz(f:Str)(v:V):∀fs:List (Str×V),f∈(AS f v fs).map (·.1)/\∀g,g∈fs.map (·.1)->g∈(AS f v fs).map (·.1)
 |[]=>⟨by simp[AS],λg h=>by simp at h⟩
 |(k,x)::r=>by
  obtain⟨i1,i2⟩:=iz f v r;rw[show AS f v ((k,x)::r)=(if k=f then(k,v)::r else(k,x)::AS f v r)from rfl];by_cases hk:k=f
  .rw[if_pos hk];subst hk;exact⟨by simp,λg h=>by simpa using h⟩
  .rw[if_neg hk];refine⟨?_,λg h=>?_⟩
   .rw[BW];exact Ba _ i1
   .rw[BW]at h⊢;rcases B2.mp h with e|e
    .exact B2.mpr (.inl e)
    .exact Ba _ (i2 g e)
def wQ(f:Str)(v:V):∀fs:List (Str×V),(AS f v fs).length<=fs.length+1
 |[]=>by simp[AS]
 |(k,x)::r=>by
  have ih:=wQ f v r;rw[show AS f v ((k,x)::r)=(if k=f then(k,v)::r else(k,x)::AS f v r)from rfl];by_cases hk:k=f
  .rw[if_pos hk,B4,B4];lia
  .rw[if_neg hk,B4,B4];lia
def Gh.some_of(r:Gh (some v) o):∃u,o=some u/\RelV v u:=by
 cases o with
 |none=>exact(show False from r).elim
 |some u=>exact⟨u,rfl,r⟩
def Gh.none_of(r:Gh none o):o=none:=by
 cases o with
 |none=>rfl
 |some u=>exact(show False from r).elim
def akz(r:RelV v u):Ye u=true:=by
 cases v with
 |Ah=>cases(show u=Ky from r);rfl
 |bl b=>cases(show u=Rh b from r);rfl
 |int i=>obtain⟨t,e⟩:=(show∃t,u=Rk i t from r);cases e;rfl
 |str x=>obtain⟨t,e⟩:=(show∃t,u=ZX x t from r);cases e;rfl
 |HS b=>obtain⟨t,e⟩:=(show∃t,u=af5 b t from r);cases e;rfl
 |Uz b=>obtain⟨t,e⟩:=(show∃t,u=af6 b t from r);cases e;rfl
 |ref a=>cases(show u=Cc a from r);rfl
 |ty n=>cases(show u=afI n from r);rfl
section
variable{P:Bs}{w:Bg}{H H':Hp}{h h':B5}{a C dx:A0}{fs Gj:List (Str×V)}
def il(AZ:Co P w H h)(e:H a=some (.ins C dx fs)):∃mA,QI h a dx C mA/\(∀f,Gh (fs.lookup f) (mA f))/\oU mA (fs.map (·.1))/\fs.length<=1000/\H dx=some (.own a):=by
 w_up;obtain⟨d,z,ne,ob,mA,n,r,q⟩:=(show Dg P w H h a (.ins C dx fs)from AZ a _ e);fin2;exact⟨mA,⟨ob,n,ne⟩,r,q,z,d⟩
end
structure B8(K:Ae)(C:A0):Prop where
 pg:YX K C Str.empty=true
 hd:oF K C=true
 po:adw K C=true
 sa:Kv K (.ref C) "__setattr__"=some (some (.builtin "object.__setattr__"))
def B8.get{K:Ae}(c:B8 K C)(f:Str):YX K C f=true:=c.pg
def Ap(K:Ae)(C:A0)(f:Str):Prop:=Kv K (.ref C) f=some none
def Ap.au5{K:Ae}(n:Ap K C f):oP K C f=some none:=by
 unfold oP;rw[show Kv K (.ref C) f=some none from n];rfl
structure Bh(K:Ae)(C:A0)(m:Str)(f:A0):Prop where
 at_:Kv K (.ref C) m=some (some (.ref f))
 fn:oV K (.ref f)=true
 kp:Lr K (.ref f)=true
section
variable{X:Cx}{pins:List (A0×Obj)}{σ:St}{H:Hp}{s:AA}{a C dx:A0}{fs:List (Str×V)}{f:Str}{v:V}{A:CB}{E:A5->AA->Prop}
def qw(I:Inv X pins σ H s)(e:H a=some (.ins C dx fs))(c:B8 X.K C)(n:Ap X.K C f)(l:fs.lookup f=some v)
 (h:∀u s',Inv X pins σ H s'->RelV v u->Q u s'):AJ (AU X.prog X.w) A (getAttr (.ref a) f b) Q E s:=by
 w_up;obtain⟨mA,O,r,_,_,_⟩:=il I.AZ e;obtain⟨u,hu,ru⟩:=Gh.some_of (v:=v) (o:=mA f) (by rw[<-l];exact r f);fin2;exact get_map I.F5 O (c.get f) c.hd n hu (akz ru) (h u _ (I.tok _) ru)
def rW(I:Inv X pins σ H s)(e:H a=some (.ins C dx fs))(c:B8 X.K C)(k:Bh X.K C m g)(l:fs.lookup m=none)
 (h:Q (.ref g,[.ref a]) s):AJ (AU X.prog X.w) A (Nn (.ref a) m pl) Q E s:=by
 obtain⟨mA,O,r,_,_,_⟩:=il I.AZ e;have hn:mA m=none:=Gh.none_of (by rw[<-l];exact r m);exact ajB I.F5 O (c.get m) k.at_ k.fn hn h
def aba(I:Inv X pins σ H s)(e:H a=some (.ins C dx fs))(c:B8 X.K C)(n:Ap X.K C f)(hl:fs.length<1000)(ry:RelV y u)
 (h:∀s',Inv X pins σ (upd H a (.ins C dx (AS f y fs))) s'->Q () s'):AJ (AU X.prog X.w) A (setAttr (.ref a) f u) Q E s:=by
 obtain⟨mA,O,r,wi,_,ho⟩:=il I.AZ e;have hz:(fs.map (·.1)).length<=Al:=by rw[AV,p7];lia
 refine ath I.F5 O c.sa c.po n.au5 c.hd wi hz λh' O' sb=>h _ ?_;have hd:∃o,h'.get? dx=some o:=let⟨o,_,_,e',_⟩:=O'.ns;⟨o,e'⟩;refine I.write (x:=a) (e:=dx) (by rw[e];exact Rb) (.inr ho) (λb q hb z=>(sb.2 b hb).trans z) hd ?_;refine⟨by rw[AY O.ne];exact ho,?_,O.ne,O'.obj,_,O'.ns,λg=>?_,λg hg=>?_⟩
 .have:=wQ f y fs;lia
 .show Gh ((AS f y fs).lookup g) (if g=f then some u else mA g);rw[wY];by_cases q:g=f
  .rw[if_pos q,if_pos q];exact ry
  .rw[if_neg q,if_neg q];exact r g
 .by_cases q:g=f
  .rw[q];exact(iz f y fs).1
  .refine(iz f y fs).2 g (wi g λz=>hg ?_);show(if g=f then some u else mA g)=none;rw[if_neg q];exact z
def Inv.made(I:Inv X pins σ H s):Inv X pins σ (upd (upd H s.heap.objs.size (.own (s.heap.objs.size+1))) (s.heap.objs.size+1) (.ins C s.heap.objs.size []))
 {s with heap:=(s.heap.push Ll).push (N_ C s.heap.objs.size)}:=by
 have e1:(s.heap.push Ll).get? s.heap.objs.size=some Ll:=C_ s.heap rfl;have e2:((s.heap.push Ll).push (N_ C s.heap.objs.size)).get? (s.heap.objs.size+1)=some (N_ C s.heap.objs.size):=by
  have:=C_ (s.heap.push Ll) (o:=N_ C s.heap.objs.size) rfl;rwa[FG]at this
 have e3:(s.heap.push Ll).Ns s.heap.objs.size (λ_=>none):=⟨Ll,#[],_,e1,rfl,(λe he=>absurd he (by simp)),λ_=>rfl⟩;have I1:=I.laid (a:=s.heap.objs.size) (o:=.own (s.heap.objs.size+1)) (h':=s.heap.push Ll) (t':=s.toks) (λb u q=>BK _ q) (Az _) ⟨_,e1⟩;refine I1.laid (a:=s.heap.objs.size+1) (o:=.ins C s.heap.objs.size []) (t':=s.toks) (λb u q=>BK _ q) (Kq (FG _ _)) ?_;have ne:s.heap.objs.size≠s.heap.objs.size+1:=DU (RR _);refine⟨by rw[AY ne,AB],Er _,ne,e2,λ_=>none,(Heap.Ns1.of_empty e3).at λo q=>BK _ q,λ_=>Rb,λy hy=>absurd rfl hy⟩
def afo(hb:Kt e f env (As e env)=As e env)
 (h:AJ (AU prog w) A (As e env) (λo Bz=>AJ (AU prog w) A (getAttr o f true) Q E Bz) E s):AJ (AU prog w) A (As (.Attribute e f pos) env) Q E s:=
 Attribute_any_ h (by rw[arm_eval_Attribute,hb])
end
def mP(K:Ae)(ta:TE)(f:Str):TE:=λσ H Q=>ta σ H λx H1=>∃a C dx fs v,x=.ref a/\H1 a=some (.ins C dx fs)/\B8 K C/\Ap K C f/\fs.lookup f=some v/\Q v H1
def m5(K:Ae)(ta tv:TE)(f:Str):TS:=λD σ H=>tv σ H λy H1=>ta σ H1 λx H2=>∃a C dx fs,x=.ref a/\H2 a=some (.ins C dx fs)/\B8 K C/\Ap K C f/\fs.length<1000/\
 D.nx σ (upd H2 a (.ins C dx (AS f y fs)))
def qS(X:Cx)(op:Operator)(rd:V->V->Hp->VK->Prop):Prop:=
 ∀(pins:List (A0×Obj))(s:AA)(σ:St)(H:Hp)(x y:V)(u v:A5)(Q:VK),Inv X pins σ H s->RelV x u->RelV y v->rd x y H Q->AJ (AU X.prog X.w) X.A (inplaceOp op u v) (EP X pins σ Q) X.xe s
def zJ(K:Ae)(ta tv:TE)(rd:V->V->Hp->VK->Prop)(f:Str):TS:=λD σ H=>ta σ H λx H1=>∃a C dx fs v,x=.ref a/\H1 a=some (.ins C dx fs)/\B8 K C/\Ap K C f/\fs.lookup f=some v/\
 tv σ H1 λy H2=>rd v y H2 λz H3=>∃KH Gj,H3 a=some (.ins C KH Gj)/\Gj.length<1000/\D.nx σ (upd H3 a (.ins C KH (AS f z Gj)))
section
variable{X:Cx}{o e value:B7}{f:Str}{pos pos' JK:Pos}{ta tv:TE}
def AH(he:PE X e ta)(hb:Kt e f X.env (As e X.env)=As e X.env):PE X (.Attribute e f pos) (mP X.K ta f):=by
 intro pins s σ H Q I h;refine afo hb (Bi (he pins s σ H _ I h) λu s1 x H1 I1 rx AG=>?_);obtain⟨a,C,dx,fs,v,ex,ea,c,n,l,q⟩:=AG;subst ex;obtain rfl:u=Cc a:=rx;exact qw I1 ea c n l λu' s2 I2 ru=>⟨v,H1,I2,ru,q⟩
def C9(ha:PE X o ta)(hv:PE X value tv)(hs:M2 value (some (.Attribute o f pos')) pos.line X.env=pure false):PS X (.Assign [.Attribute o f pos'] value pos) (m5 X.K ta tv f):=by
 intro pins s σ H D I h;refine plainObj_wpAny_Assign_Attribute (Bi (hv pins s σ H _ I h) λu s1 y H1 I1 ry q=>Bi (ha pins s1 σ H1 _ I1 q) λov s2 x H2 I2 rx AG=>?_) hs;obtain⟨a,C,dx,fs,ex,ea,c,n,l,q2⟩:=AG;subst ex;obtain rfl:ov=Cc a:=rx;exact aba I2 ea c n l ry λs3 I3=>⟨σ,_,I3,q2⟩
def yQ(ha:PE X o ta)(hv:PE X value tv)(hop:qS X op rd):PS X (.AugAssign (.Attribute o f JK) op value pos) (zJ X.K ta tv rd f):=by
 intro pins s σ H D I h;refine wpAny_AugAssign_AttributeAny (Bi (ha pins s σ H _ I h) λov s1 x H1 I1 rx AG=>?_);obtain⟨a,C,dx,fs,v,ex,ea,c,n,l,q⟩:=AG;subst ex;obtain rfl:ov=Cc a:=rx;refine qw I1 ea c n l λu s2 I2 ru=>Bi (hv pins s2 σ H1 _ I2 q) λw3 s3 y H2 I3 ry q3=>Bi (hop pins s3 σ H2 v y u w3 _ I3 ru ry q3) λw4 s4 z H3 I4 rz EI=>?_;obtain⟨KH,Gj,agm,l',q4⟩:=EI;exact aba I4 agm c n l' rz λs5 I5=>⟨σ,_,I5,q4⟩
def aor:V->V->Hp->VK->Prop:=λx y H Q=>∃i j,x=.int i/\y=.int j/\Q (.int (i+j)) H
def uZ:qS X .Add aor:=by
 rintro pins s σ H x y u v Q I rx ry ⟨i,j,rfl,rfl,q⟩;obtain⟨t,rfl⟩:=(show∃t,u=Rk i t from rx);obtain⟨t',rfl⟩:=(show∃t',v=Rk j t' from ry);exact aeU ⟨.int (i+j),H,I.tok _,⟨_,rfl⟩,q⟩
end
structure By(k:Nat)(A:CB):Prop where
 hd:A.handled=none
 dp:A.depth+3*k+5<recursionLimit
 un:A.units+16*k+200<L4
def By.mono(r:By k A)(h:j<=k):By j A:=⟨r.hd,by have:=r.dp;lia,by have:=r.un;lia⟩
def By.deeper(r:By (k+1) A)(env:Env):By k (A.deeper env):=
 ⟨r.hd,by have:=r.dp;show A.depth+1+3*k+5<_;lia,by have:=r.un;show A.units+3+16*k+200<_;lia⟩
def am_{A:CB}{C:A0}:(A.under (.builtin "type.__call__" ⟨.ref C::us,kw⟩)).depth=A.depth+1:=by
 first|rfl|simp[oW,Code.weight,Code.isCreation,Code.isGuard,Code.isCaller,af3,oX,guardIds]
def amb{A:CB}{C:A0}:(A.under (.builtin "type.__call__" ⟨.ref C::us,kw⟩)).units=A.units+1:=by
 first|rfl|simp[oW,Code.cUnits,af3,oX]
def By.make(r:By (k+1) A)(C:A0)(us:List A5)(kw:List (Str×A5)):By k (A.under (.builtin "type.__call__" ⟨.ref C::us,kw⟩)):=
 ⟨r.hd,by have:=r.dp;rw[am_];lia,by have:=r.un;rw[amb];lia⟩
def By.depth(r:By k A):A.depth<recursionLimit:=by have:=r.dp;lia
def By.units(r:By k A):A.units+64<L4:=by have:=r.un;lia
def RA:TA:=λ_ H Q=>Q [] H
def mO(ta:TE)(tr:TA):TA:=λσ H Q=>ta σ H λx H1=>tr σ H1 λxs H2=>Q (x::xs) H2
section
variable{X:Cx}{e:B7}{es:List B7}{te:TE}{t:TA}{pos:Pos}
def A3:PA X [] RA:=λ_ _ _ _ H Q I h=>adx ⟨[],H,I,.nil,h⟩
def A1(ha:PE X e te)(hr:PA X es t)(hs:autoParam (B0 (e::es) X.env=(false,As e X.env)::B0 es X.env) auR):PA X (e::es) (mO te t):=by
 intro pos pins s σ H Q I h;rw[hs];show AJ _ _ (spliced ((false,As e X.env)::D7 pos (B0 es X.env))) _ _ s;refine aeB (Bi (ha pins s σ H _ I h) λu s1 x H1 I1 r1 q1=>?_);exact J9 (hr pos pins s1 σ H1 _ I1 q1) λus s2 xs H2 I2 r2 q2=>⟨x::xs,H2,I2,.cons r1 r2,q2⟩
def ach(t:TA):TE:=λσ H Q=>t σ H λxs H1=>xs.length<=Al/\∀p,H1 p=none->Q (.ref p) (upd H1 p (.tup xs))
def abb(t:TA):TE:=λσ H Q=>t σ H λxs H1=>xs.length<=Al/\∀p,H1 p=none->Q (.ref p) (upd H1 p (.lst xs))
def jn(h:PA X es t):PE X (.Tuple es x1 pos) (ach t):=by
 intro pins s σ H Q I hq;refine wpAny_Tuple_spliced (J9 (h pos pins s σ H _ I hq) λus s1 xs H1 I1 r⟨z,q⟩=>⟨by rw[<-r.length];exact z,?_⟩);have hf:H1 s1.heap.objs.size=none:=I1.AZ.fresh (Az _);refine⟨.ref s1.heap.objs.size,upd H1 s1.heap.objs.size (.tup xs),I1.laid (t':=s1.toks) (λb u e=>BK _ e) (Az _) ?_,rfl,q _ hf⟩;exact⟨z,us,r,⟨_,C_ _ rfl,rfl,_,rfl⟩⟩
def Bn(h:PA X es t):PE X (.List es pos) (abb t):=by
 intro pins s σ H Q I hq;refine wpAny_List_spliced (J9 (h pos pins s σ H _ I hq) λus s1 xs H1 I1 r⟨z,q⟩=>⟨by rw[<-r.length];exact z,?_⟩);have hf:H1 s1.heap.objs.size=none:=I1.AZ.fresh (Az _);refine⟨.ref s1.heap.objs.size,upd H1 s1.heap.objs.size (.lst xs),I1.laid (t':=s1.toks) (λb u e=>BK _ e) (Az _) ?_,rfl,q _ hf⟩;exact⟨z,us,0,r,C_ _ rfl⟩
end
abbrev Sp:=List V->Hp->VK->XK->Prop
abbrev K8:=List Env->Hp->AA->XK->A5->AA->Prop
structure QE(P:Bs)(w:Bg)(K:Ae)(mg:Str->Option A5)(base:B5)(A:CB)(outer:List Env)(s:AA)(H:Hp):Prop where
 frames:A.frames=some outer
 mod:Mod K mg base
 bs:∀b o,base.get? b=some o->s.heap.get? b=some o/\H b=none
 L9:base.objs.size<=s.heap.objs.size
 HV:s.heap.FunFrames base outer
 MS:∀b∈ET outer,H b=none
 AZ:Co P w H s.heap
 bare:M5 s.gens
def CE(outer:List Env)(P:Bs)(w:Bg)(H:Hp)(s:AA)(Q:VK)(u:A5)(s':AA):Prop:=
 ∃v H',s'.os=s.os/\M5 s'.gens/\Un (ET outer) [] H H' s.heap s'.heap/\Co P w H' s'.heap/\RelV v u/\Q v H'
def CR(CX:K8)(outer:List Env)(P:Bs)(w:Bg)(H:Hp)(s:AA)(Q:VK)(E:XK)(r:Result)(s':AA):Prop:=
 match r with
 | .ok (.ret u)=>CE outer P w H s Q u s'
 | .ok _=>False
 | .error e=>CX outer H s E e s'
structure K9(P:Bs)(w:Bg)(K:Ae)(mg:Str->Option A5)(base:B5)(CX:K8)(k:Nat)(f:A0)(fd:Rp)(ps:List Str)(sp:Sp):Prop where
 len:∀vs H Q E,sp vs H Q E->vs.length=ps.length
 run:∀(A:CB)(outer:List Env)(s:AA)(H:Hp)(args:Args)(us:List A5)(vs:List V)(Q:VK)(E:XK),By k A->QE P w K mg base A outer s H->BindsTo s fd args (ps.zip us)->Ai vs us->sp vs H Q E->
  JF (AU P w) A (.call (.ref f) args) (CR CX outer P w H s Q E) s
def QE.make{P:Bs}{w:Bg}{K:Ae}{mg:Str->Option A5}(e:QE P w K mg base A outer s H)(C:A0)(us:List A5)(kw:List (Str×A5)):
 QE P w K mg base (A.under (.builtin "type.__call__" ⟨.ref C::us,kw⟩)) outer s H:=⟨by first|exact e.frames|(simpa[oW,Code.envs,oX,pushEnvs]using e.frames),e.mod,e.bs,e.L9,e.HV,e.MS,e.AZ,e.bare⟩
section
variable{X:Cx}{pins:List (A0×Obj)}{σ:St}{H:Hp}{s s':AA}
def Inv.sU(I:Inv X pins σ H s):QE X.prog X.w X.K X.mg X.base X.A X.stack s H:=
 ⟨I.ok.frames,I.ok.mod,I.bs,Ao I.ok.L9 I.sz,I.stack,I.kj,I.AZ,I.bare⟩
def Inv.after(I:Inv X pins σ H s)(h:CE X.stack X.prog X.w H s Q u s'):EP X pins σ Q u s':=by
 obtain⟨v,H',os,bare,un,AZ,r,q⟩:=h;obtain⟨hh,g,d,t,os'⟩:=s';obtain rfl:os'=s.os:=os;exact⟨v,H',I.call (h':=hh) (g':=g) (d':=d) (t':=t) (ch:=[]) un AZ bare (λb z=>absurd z (by simp)),r,q⟩
end
def T9(sp:Sp)(CW:List V)(E:XK)(t:TA):TE:=λσ H Q=>t σ H λvs H1=>sp (vs++CW) H1 Q E
def X2(C:A0)(m:Str)(sp:Sp)(CW:List V)(E:XK)(ta:TE)(t:TA):TE:=λσ H Q=>ta σ H λx H1=>∃a dx fs,x=.ref a/\H1 a=some (.ins C dx fs)/\fs.lookup m=none/\
 t σ H1 λvs H2=>sp (x::(vs++CW)) H2 Q E
def X1(C:A0)(sp:Sp)(CW:List V)(E:XK)(t:TA):TE:=λσ H Q=>t σ H λvs H1=>∀x dx,H1 x=none->H1 dx=none->dx≠x->
 sp (.ref x::(vs++CW)) (upd (upd H1 dx (.own x)) x (.ins C dx [])) (λv H2=>v=.Ah/\Q (.ref x) H2) E
def Binds(K:Ae)(fd:Rp)(ps:List Str)(ds:List A5):Prop:=
 ∀(s:AA)(us:List A5),K.In s.heap->(us++ds).length=ps.length->BindsTo s fd ⟨us,[]⟩ (ps.zip (us++ds))
def Binds.all{K:Ae}(h:∀us:List A5,us.length=ps.length->M3 fd ⟨us,[]⟩=pure (ps.zip us)):Binds K fd ps []:=λs us _ hl=>by
 rw[JD]at hl⊢;exact .of_eq (h us hl)
def ES(CX:K8)(X:Cx)(E:XK):Prop:=∀(pins:List (A0×Obj))(σ:St)(H:Hp)(s:AA)(e:A5)(s':AA),Inv X pins σ H s->CX X.stack H s E e s'->X.xe e s'
section
variable{X:Cx}{CX:K8}{k:Nat}{f C:A0}{fd:Rp}{ps:List Str}{sp:Sp}{CW:List V}{ds:List A5}{E:XK}{x m:Str}{p pos apos:Pos}{e o:B7}{es:List B7}{ta:TE}{t:TA}
def We(F:K9 X.prog X.w X.K X.mg X.base CX k f fd ps sp)(hr:By k X.A)(hb:Binds X.K fd ps ds)(hd:Ai CW ds)(hx:ES CX X E)
 (I:Inv X pins σ H s)(r:Ai vs us)(h:sp (vs++CW) H Q E):AJ (AU X.prog X.w) X.A (HQ (.ref f) us) (EP X pins σ Q) X.xe s:=by
 have r2:Ai (vs++CW) (us++ds):=r.append hd;have hl:(us++ds).length=ps.length:=by rw[<-r2.length];exact F.len _ _ _ _ h
 refine wpAny_call (ZC (F.run X.A X.stack s H ⟨us,[]⟩ (us++ds) (vs++CW) Q E hr I.sU (hb s us I.F5 hl) r2 h) λr s' hq=>?_);cases r with
 |error e=>exact hx pins σ H s e s' I hq
 |ok fl=>
  cases fl with
  |ret u=>exact I.after hq
  |next=>exact Hw hq
  |brk=>exact Hw hq
  |cont=>exact Hw hq
def apQ(F:K9 X.prog X.w X.K X.mg X.base CX k f fd ps sp)(hr:By k X.A)(hg:Gl X x)(hm:X.mg x=some (.ref f))(hk:Lr X.K (.ref f)=true)(hb:Binds X.K fd ps ds)(hd:Ai CW ds)(hx:ES CX X E)
 (ha:PA X (e::es) t)(DO:autoParam ((x==("__debug__":Str))=false) auD)(he:autoParam (B0 (e::es) X.env=(false,As e X.env)::B0 es X.env) auR)(Ax:autoParam ((D7 pos (B0 es X.env)).any (·.1)=false) auR):
 PE X (.Call (.Name x p) (e::es) [] pos) (T9 sp CW E t):=by
 intro pins s σ H Q I h;refine PD (R9 I hg hm ?_ DO);refine U4 (h₀:=X.base) I.ok.mod.Oy hk (J9 (ha pos pins s σ H _ I h) λus s1 vs H1 I1 r q=>⟨I1.F5,?_⟩) he Ax;exact We F hr hb hd hx I1 r q
def ap_(he:PE X o ta)(c:B8 X.K C)(hm:Bh X.K C m f)(F:K9 X.prog X.w X.K X.mg X.base CX k f fd ps sp)(hr:By k X.A)(hb:Binds X.K fd ps ds)(hd:Ai CW ds)(hx:ES CX X E)(ha:PA X (e::es) t)
 (Bt:autoParam (B0 (e::es) X.env=(false,As e X.env)::B0 es X.env) auR)(Ax:autoParam ((D7 pos (B0 es X.env)).any (·.1)=false) auR)
 (ht:autoParam (As (.Call (.Attribute o m apos) (e::es) [] pos) X.env=(do
  let ov<-As o X.env
  M6 apos.atName
  let(f,first)<-I0 [ov] (Nn ov m pl)
  Rq pos f first (D7 pos (B0 (e::es) X.env)) (Pd pos (Pa [] X.env)))) auR):
 PE X (.Call (.Attribute o m apos) (e::es) [] pos) (X2 C m sp CW E ta t):=by
 intro pins s σ H Q I h;refine mo (pl:=pl) (Bi (he pins s σ H _ I h) λu s1 x H1 I1 rx AG=>?_) ht;obtain⟨a,dx,fs,ex,ea,l,q⟩:=AG;subst ex;obtain rfl:u=Cc a:=rx;refine rW I1 ea c hm l ?_;refine U4 (first:=[.ref a]) (h₀:=X.base) I.ok.mod.Oy hm.kp (J9 (ha pos pins s1 σ H1 _ I1 q) λus s2 vs H2 I2 r q2=>⟨I2.F5,?_⟩) Bt Ax;exact We (us:=.ref a::us) (vs:=.ref a::vs) F hr hb hd hx I2 (.cons rfl r) q2
def apa(he:PE X o ta)(c:B8 X.K C)(hm:Bh X.K C m f)(F:K9 X.prog X.w X.K X.mg X.base CX k f fd ps sp)(hr:By k X.A)(hb:Binds X.K fd ps ds)(hd:Ai CW ds)(hx:ES CX X E)
 (ht:autoParam (As (.Call (.Attribute o m apos) [] [] pos) X.env=(do
  let ov<-As o X.env
  M6 apos.atName
  let(f,first)<-I0 [ov] (Nn ov m pl)
  Rq pos f first (D7 pos (B0 [] X.env)) (Pd pos (Pa [] X.env)))) auR):
 PE X (.Call (.Attribute o m apos) [] [] pos) (X2 C m sp CW E ta RA):=by
 intro pins s σ H Q I h;refine mo (pl:=pl) (Bi (he pins s σ H _ I h) λu s1 x H1 I1 rx AG=>?_) ht;obtain⟨a,dx,fs,ex,ea,l,q⟩:=AG;subst ex;obtain rfl:u=Cc a:=rx;refine rW I1 ea c hm l ?_;exact adP (first:=[.ref a]) I1.F5 hm.kp (We (us:=[.ref a]) (vs:=[.ref a]) F hr hb hd hx I1 (.cons rfl .nil) q)
structure Mk(K:Ae)(C f:A0):Prop where
 makes:aeM K C=true
 init:Kv K (.ref C) "__init__"=some (some (.ref f))
 fn:oV K (.ref f)=true
 kp:Lr K (.ref C)=true
def zE(M:Mk X.K C f)(F:K9 X.prog X.w X.K X.mg X.base CX k f fd ps sp)(hr:By (k+1) X.A)(hb:Binds X.K fd ps ds)(hd:Ai CW ds)
 (hx:ES CX X E)(I:Inv X pins σ H s)(r:Ai vs us)
 (h:∀x dx,H x=none->H dx=none->dx≠x->sp (.ref x::(vs++CW)) (upd (upd H dx (.own x)) x (.ins C dx [])) (λv H2=>v=.Ah/\Q (.ref x) H2) E):
 AJ (AU X.prog X.w) X.A (HQ (.ref C) us) (EP X pins σ Q) X.xe s:=by
 have hq:=h (s.heap.objs.size+1) s.heap.objs.size (I.AZ.fresh (p6 _)) (I.AZ.fresh (Az _)) (DU (RR _));have I2:=Inv.made (C:=C) I;have r2:Ai (V.ref (s.heap.objs.size+1)::(vs++CW)) (Cc (s.heap.objs.size+1)::(us++ds)):=.cons rfl (r.append hd);have hl:(Cc (s.heap.objs.size+1)::us++ds).length=ps.length:=by
  have e:=r2.length;rw[F.len _ _ _ _ hq]at e;exact e.symm
 refine wpAny_call (ama (f:=f) I.F5 M.makes M.init (beq_iff_eq.mp M.fn) (ZC (F.run _ X.stack _ _ ⟨Cc (s.heap.objs.size+1)::us,[]⟩ (Cc (s.heap.objs.size+1)::(us++ds)) _ _ E (hr.make C us [])
  (I2.sU.make C us []) (hb _ (Cc (s.heap.objs.size+1)::us) I2.F5 hl) r2 hq) λr s' JZ=>?_))
 cases r with
 |error e=>exact hx pins σ _ _ e s' I2 JZ
 |ok fl=>
  cases fl with
  |ret u=>
   obtain⟨v,H',I3,rv,ev,q3⟩:=I2.after JZ;subst ev;exact⟨rv,⟨V.ref (s.heap.objs.size+1),H',I3,rfl,q3⟩⟩
  |next=>exact Hw JZ
  |brk=>exact Hw JZ
  |cont=>exact Hw JZ
def apX(M:Mk X.K C f)(F:K9 X.prog X.w X.K X.mg X.base CX k f fd ps sp)(hr:By (k+1) X.A)(hg:Gl X x)(hm:X.mg x=some (.ref C))(hb:Binds X.K fd ps ds)(hd:Ai CW ds)(hx:ES CX X E)
 (ha:PA X (e::es) t)(DO:autoParam ((x==("__debug__":Str))=false) auD)(he:autoParam (B0 (e::es) X.env=(false,As e X.env)::B0 es X.env) auR)(Ax:autoParam ((D7 pos (B0 es X.env)).any (·.1)=false) auR):
 PE X (.Call (.Name x p) (e::es) [] pos) (X1 C sp CW E t):=by
 intro pins s σ H Q I h;refine PD (R9 I hg hm ?_ DO);refine U4 (h₀:=X.base) I.ok.mod.Oy M.kp (J9 (ha pos pins s σ H _ I h) λus s1 vs H1 I1 r q=>⟨I1.F5,?_⟩) he Ax;exact zE M F hr hb hd hx I1 r q
def apY(M:Mk X.K C f)(F:K9 X.prog X.w X.K X.mg X.base CX k f fd ps sp)(hr:By (k+1) X.A)(hg:Gl X x)(hm:X.mg x=some (.ref C))(hb:Binds X.K fd ps ds)(hd:Ai CW ds)(hx:ES CX X E)
 (DO:autoParam ((x==("__debug__":Str))=false) auD):PE X (.Call (.Name x p) [] [] pos) (X1 C sp CW E RA):=by
 intro pins s σ H Q I h;refine PD (R9 I hg hm ?_ DO);exact adP I.F5 M.kp (zE (us:=[]) M F hr hb hd hx I .nil h)
end
structure Af(N P:List Str)(sc:G3):Prop where
 kind:sc.kind=.function
 co:sc.isCoroutine=false
 gen:sc.isGenerator=false
 nd:N.Nodup
 pre:N.take P.length=P
 par:∀x∈P,sc.names.lookup x=some .local\/sc.names.lookup x=some .cell
 anS:∀y∈sc.names,y.2≠.free
def qC{IA:Str->Option Ga}:∀{binds:List (Str×A5)}{m:Str->Option A5},(∀v,(x,v)∉binds)->Nt IA binds m x=m x
 |[],_,_=>rfl
 |(n,v)::r,m,h=>by
  unfold Nt;rw[qC λw hw=>h w (Ba _ hw)];split
  .have:x≠n:=by rintro rfl;exact h v Bu
   simp[this]
  .rfl
def qA{IA:Str->Option Ga}:∀{binds:List (Str×A5)}{m:Str->Option A5},(∀v,(x,v)∉binds)->Nu IA binds m x=m x
 |[],_,_=>rfl
 |(n,v)::r,m,h=>by
  unfold Nu;rw[qA λw hw=>h w (Ba _ hw)];split
  .rfl
  .have:x≠n:=by rintro rfl;exact h v Bu
   simp[this]
def qB{IA:Str->Option Ga}:∀{P:List Str}{vs:List A5}{i:Nat}{m:Str->Option A5},P.Nodup->P[i]? =some x->vs[i]? =some v->IA x=some .local->
 Nt IA (P.zip vs) m x=some v
 |[],_,_,_,_,h,_,_=>by simp at h
 |_::_,[],_,_,_,_,h,_=>by simp at h
 |p::P,w::vs,0,m,nd,h1,h2,hk=>by
  simp at h1 h2;subst h1;subst h2;show Nt IA ((p,w)::P.zip vs) m p=_;unfold Nt;rw[qC λv hv=>(DT.mp nd).1 (GX hv).1,if_pos hk];simp
 |p::P,w::vs,i+1,m,nd,h1,h2,hk=>by
  show Nt IA ((p,w)::P.zip vs) m x=_;unfold Nt;exact qB (i:=i) (DT.mp nd).2 (by simpa using h1) (by simpa using h2) hk
def pz{IA:Str->Option Ga}:∀{P:List Str}{vs:List A5}{i:Nat}{m:Str->Option A5},P.Nodup->P[i]? =some x->vs[i]? =some v->IA x≠some .local->
 Nu IA (P.zip vs) m x=some v
 |[],_,_,_,_,h,_,_=>by simp at h
 |_::_,[],_,_,_,_,h,_=>by simp at h
 |p::P,w::vs,0,m,nd,h1,h2,hk=>by
  simp at h1 h2;subst h1;subst h2;show Nu IA ((p,w)::P.zip vs) m p=_;unfold Nu;rw[qA λv hv=>(DT.mp nd).1 (GX hv).1,if_neg hk];simp
 |p::P,w::vs,i+1,m,nd,h1,h2,hk=>by
  show Nu IA ((p,w)::P.zip vs) m x=_;unfold Nu;exact pz (i:=i) (DT.mp nd).2 (by simpa using h1) (by simpa using h2) hk
def start(N:List Str)(vs:List V):St:=vs.map some++Ar (N.length-vs.length) none
def Ey(CX:K8)(P:Bs)(w:Bg)(K:Ae)(mg:Str->Option A5)(base:B5)(N:List Str)(qual:Str)(scope:G3)(f:A0)(cd:A5)(A:CB)(outer:List Env)(s:AA)(H:Hp)(E:XK):Cx where
 prog:=P
 w:=w
 K:=K
 mg:=mg
 base:=base
 A:=A.deeper (HP qual scope s.heap.objs.size f cd)
 N:=N
 EV:=s
 MH:=H
 env:=HP qual scope s.heap.objs.size f cd
 outer:=outer
 stack:=HP qual scope s.heap.objs.size f cd::outer
 ex:=[]
 calm:=true
 fn:=λ_=>true
 pn:=[]
 xe:=λe s'=>AJ (AU P w) (A.deeper (HP qual scope s.heap.objs.size f cd)) (leaving (HP qual scope s.heap.objs.size f cd) e) (λ_ Mv=>CX outer H s E e Mv) (λe' Mv=>CX outer H s E e' Mv) s'
def rX{sc:G3}(h:sc.names.lookup x=some .cell):∃c,(DK n sc.names []).lookup x=some c:=by
 have q:=adB sc.names n [] (.inl h);exact adE.mp q
def amB{CX:K8}{P:Bs}{w:Bg}{K:Ae}{mg:Str->Option A5}{base:B5}{N ps:List Str}{qual:Str}{scope:G3}
 (S:Af N ps scope)(hd:A.handled=none)(e0:QE P w K mg base A outer s H)(hl:vs.length=ps.length)(r:Ai vs us)
 (x:InCallC s s.heap.objs.size (Nt (HP qual scope s.heap.objs.size f cd).kindOf (ps.zip us) λ_=>none) (DK (s.heap.objs.size+1) scope.names []) (Nu (HP qual scope s.heap.objs.size f cd).kindOf (ps.zip us) λ_=>none) s1):
 Inv (Ey CX P w K mg base N qual scope f cd A outer s H E) [] (start N vs) H s1:=by
 have Ax:ps.length<=N.length:=by have:=congrArg Hy S.pre;rw[EW]at this;lia
 obtain⟨h1,tk,rfl,hk⟩:=x.done;have QT:∀b:A0,b∉(Ey CX P w K mg base N qual scope f cd A outer s H E).ex:=λb z=>absurd (show b∈([]:List A0)from z) (by simp);refine⟨⟨e0.mod,S.kind,rfl,rfl,Az _,λy z c h1 h2=>?_,λy hy=>?_,λy c _ h=>?_,λ_=>hd,Around.frames_deeper e0.frames,.inr ⟨rfl,rfl⟩,λb z=>absurd z (QT b),e0.bs,e0.L9,λb _ _=>QT b,λb z=>absurd z (QT b),e0.HV,e0.MS⟩,
  rfl,e0.bare,Un.kept hk,⟨_,x.toInCall.ns,λi y v h1 h2 h3=>?_⟩,λy c h=>⟨_,x.cell y c h⟩,e0.AZ.fresh (Az _),λy c h=>?_,λp hp=>absurd (show p∈([]:List (A0×Obj))from hp) (by simp),e0.AZ.kept hk,?_⟩
 .exact name_of_addr x.apart (Gw h1) (Gw h2)
 .have hy:scope.names.lookup y=some .cell\/scope.names.lookup y=some .free:=hy;rcases hy with hy|hy
  .exact rX hy
  .exact absurd rfl (S.anS _ (Gw hy))
 .exact Ht (x.above y c (Gw h))
 .have hi:i<vs.length:=by
   unfold start at h2;by_cases hi:i<vs.length
   .exact hi
   .rw[U2 (by simpa using hi)]at h2;rw[mw]at h2;split at h2<;>cases h2
  have ha:vs[i]? =some v:=by
   unfold start at h2;rw[nL (by simpa using hi),D0]at h2;cases e:vs[i]?with
   |none=>rw[e]at h2;cases h2
   |some a=>rw[e]at h2;cases h2;rfl
  obtain⟨u,hu,rv⟩:=r.get ha;have hp:ps[i]? =some y:=by
   rw[<-S.pre,adF (by lia)];exact h1
  have xg:ps.Nodup:=by rw[<-S.pre];exact S.nd.sublist (List.take_sublist _ _)
  refine⟨u,rv,?_⟩;rcases S.par y (DS hp)with k|k
  .exact .inl ⟨k,qB xg hp hu k⟩
  .obtain⟨c,e⟩:=rX (n:=s.heap.objs.size+1) k;refine .inr ⟨.inl k,c,e,?_⟩;have q:=x.cell y c e;rw[pz xg hp hu (by show scope.names.lookup y≠_;rw[k];decide)]at q;exact q
 .exact e0.AZ.fresh (Ht (x.above y c (Gw h)))
 .unfold start;show _=N.length;rw[Bo,AV,GN];lia
section
variable{X:Cx}{x:Str}{p pos:Pos}{e:B7}{es:List B7}{t:TA}{id T:String}{r:List V->Hp->VK->Prop}
def mL(r:List V->Hp->VK->Prop)(t:TA):TE:=λσ H Q=>t σ H λvs H1=>r vs H1 Q
def CG(hc:JO X (.builtin id) r)(hg:Gl X x)(hm:X.mg x=none)(hv:IX x=some (.builtin id))(ha:PA X (e::es) t)(hn:autoParam (x≠"__name__") auD)(DO:autoParam ((x==("__debug__":Str))=false) auD)
 (he:autoParam (B0 (e::es) X.env=(false,As e X.env)::B0 es X.env) auR)(Ax:autoParam ((D7 pos (B0 es X.env)).any (·.1)=false) auR):PE X (.Call (.Name x p) (e::es) [] pos) (mL r t):=by
 intro pins s σ H Q I h;refine PD (NP I hg hm hv ?_ hn DO);exact avX (J9 (ha pos pins s σ H _ I h) λus s1 vs H1 I1 r1 q1=>hc pins s1 σ H1 vs us Q I1 r1 q1) he Ax
def yA(hc:JO X (.type T) r)(hg:Gl X x)(hm:X.mg x=none)(hv:IX x=some (.type T))(ha:PA X (e::es) t)(hn:autoParam (x≠"__name__") auD)(DO:autoParam ((x==("__debug__":Str))=false) auD)
 (he:autoParam (B0 (e::es) X.env=(false,As e X.env)::B0 es X.env) auR)(Ax:autoParam ((D7 pos (B0 es X.env)).any (·.1)=false) auR):PE X (.Call (.Name x p) (e::es) [] pos) (mL r t):=by
 intro pins s σ H Q I h;refine PD (NP I hg hm hv ?_ hn DO);exact P4 (J9 (ha pos pins s σ H _ I h) λus s1 vs H1 I1 r1 q1=>hc pins s1 σ H1 vs us Q I1 r1 q1) he Ax
end
end L2
namespace HT
open PySem PyProof.Rows
section
variable{prog:Bs}{w:Bg}{A:CB}{E:A5->AA->Prop}{s:AA}
def GK(n d:Nat):Option Int->Nat
 |none=>d
 |some v=>if v<0 then(v+(n:Int)).toNat else min v.toNat n
def ko(n d:Nat):GK n d none=d:=rfl
def XZ(n d k:Nat):GK n d (some (k:Int))=min k n:=by
 show(if(k:Int)<0 then((k:Int)+(n:Int)).toNat else min (k:Int).toNat n)=min k n;rw[if_neg (by lia),Fw]
end
end HT
namespace L2
open PySem PySem.Spec PyProof.Rows
abbrev TO:=St->Hp->(Option Int->Hp->Prop)->Prop
def PO(X:Cx)(e:Option B7)(t:TO):Prop:=
 ∀(pins:List (A0×Obj))(s:AA)(σ:St)(H:Hp)(Q:Option Int->Hp->Prop),Inv X pins σ H s->t σ H Q->
  AJ (AU X.prog X.w) X.A (evalPart e X.env) (λu s'=>∃o H',Inv X pins σ H' s'/\IsPart u o/\Q o H') X.xe s
def abf:TO:=λ_ H Q=>Q none H
def abi(t:TE):TO:=λσ H Q=>t σ H λx H1=>Bl x λi=>Q (some i) H1
def intsAre_of:∀{us:List A5},Ai (ns.map V.int) us->IntsAre us ns:=by
 induction ns with
 |nil=>intro us r;rw[Kr]at r;cases r;exact .nil
 |cons n ns ih=>
  intro us r;rw[BW]at r;cases r with
  |cons r1 r2=>
   obtain⟨t,e⟩:=r1;subst e;exact .cons n t (ih r2)
section
variable{X:Cx}{e:B7}{te:TE}{lo hi:Option B7}{tl th:TO}{pos p2:Pos}
def Oc:PO X none abf:=by
 intro pins s σ H Q I h;rw[ZE];exact BN ⟨none,H,I,.none,h⟩
def Gs(h:PE X e te):PO X (some e) (abi te):=by
 intro pins s σ H Q I hw;rw[ZF];refine Bi (h pins s σ H _ I hw) λu s1 x H1 I1 r1 q1=>?_;obtain⟨i,rfl,q⟩:=Mj q1;obtain⟨t,rfl⟩:=r1;exact⟨some i,H1,I1,.int i t,q⟩
def g7(X:Cx)(r:V->Option Int->Option Int->Hp->VK->Prop):Prop:=
 ∀(pins:List (A0×Obj))(s:AA)(σ:St)(H:Hp)(x:V)(v vl vu:A5)(lo hi:Option Int)(sl:A0)(Q:VK),Inv X pins σ H s->RelV x v->s.heap.IsSliceOf sl vl vu .none->IsPart vl lo->IsPart vu hi->r x lo hi H Q->
  ∃T id,pJ (.type T) "__getitem__"=pure (some (.builtin id))/\s.TypeIs v T/\AJ (AU X.prog X.w) X.A (Rr v (.ref sl)) (EP X pins σ Q) X.xe s
def ace(r:V->Option Int->Option Int->Hp->VK->Prop)(te:TE)(tl th:TO):TE:=λσ H Q=>te σ H λx H1=>tl σ H1 λl H2=>th σ H2 λu H3=>r x l u H3 Q
def Jg(hr:g7 X r)(he:PE X e te)(hl:PO X lo tl)(hu:PO X hi th):PE X (.Subscript e (.Slice lo hi none p2) pos) (ace r te tl th):=by
 intro pins s σ H Q I h;refine UQ (Bi (he pins s σ H _ I h) λv s1 x H1 I1 r1 q1=>?_);refine p8 (Be (hl pins s1 σ H1 _ I1 q1) λvl s2⟨l,H2,I2,pl,q2⟩=>Be (hu pins s2 σ H2 _ I2 q2) λvu s3 AG=>?_);obtain⟨u,H3,I3,pu,q3⟩:=AG;rw[ZE];refine BN ?_;have I4:Inv X pins σ H3 {s3 with heap:=s3.heap.push {cls:=.type "slice",data:=.fields #[vl,vu,.none]}}:=I3.kept (t':=s3.toks) λb ob q=>BK _ q;obtain⟨T,id,hT,ht,hg⟩:=hr pins {s3 with heap:=s3.heap.push {cls:=.type "slice",data:=.fields #[vl,vu,.none]}} σ H3 x v vl vu l u s3.heap.objs.size Q I4 r1 (nO ..) pl pu q3;show AJ (AU X.prog X.w) X.A (UO e (.Slice lo hi none p2) v (.ref s3.heap.objs.size)) (EP X pins σ Q) X.xe {s3 with heap:=s3.heap.push {cls:=.type "slice",data:=.fields #[vl,vu,.none]}};exact tail_any (ops:=[.ref s3.heap.objs.size,v]) ht hT hg (by with_unfolding_all rfl)
def HX(xs:List V)(lo hi:Option Int):List V:=(xs.drop (HT.GK xs.length 0 lo)).take (HT.GK xs.length xs.length hi-HT.GK xs.length 0 lo)
def ahE(xs:List V)(lo hi:Option Int):(HX xs lo hi).length<=xs.length:=by
 unfold HX;rw[EW,Di];lia
end
def Gr(n:Nat)(i:Int):Option Nat:=if 0<=i then(if i<n then some i.toNat else none)else if-(n:Int)<=i then some (i+n).toNat else none
def FP{α:Type}(xs:List α)(i:Int):Option α:=(Gr xs.length i).bind λj=>xs[j]?
def uI(h:Gr n i=some j):seqIndex? i n=some j/\j<n/\ -(n:Int)<=i/\i<n:=by
 unfold Gr at h;by_cases h0:0<=i
 .rw[if_pos h0]at h;by_cases h1:i<n
  .rw[if_pos h1]at h;have e:i.toNat=j:=GW h;exact⟨by rw[p9 h0 h1,e],by lia,by lia,h1⟩
  .rw[if_neg h1]at h;cases h
 .rw[if_neg h0]at h;by_cases h1: -(n:Int)<=i
  .rw[if_pos h1]at h;have e:(i+n).toNat=j:=GW h;exact⟨by rw[oY (by lia) h1,e],by lia,h1,by lia⟩
  .rw[if_neg h1]at h;cases h
def pb(h:FP xs i=some v):∃j,seqIndex? i xs.length=some j/\xs[j]? =some v/\j<xs.length/\ -(xs.length:Int)<=i/\i<xs.length:=by
 unfold FP at h;cases e:Gr xs.length i with
 |none=>rw[e]at h;cases h
 |some j=>
  rw[e]at h;obtain⟨h1,h2,h3,h4⟩:=uI e;exact⟨j,h1,h,h2,h3,h4⟩
def Cj{j:Nat}{v:α}(h:xs[j]? =some v):FP xs (j:Int)=some v:=by
 have hj:j<xs.length:=(Gu.mp h).1;have e:Gr xs.length (j:Int)=some j:=by
  unfold Gr;rw[if_pos (by lia),if_pos (by lia)];simp
 unfold FP;rw[e];exact h
def agC(b:B7):Prop:=∀o i,ZO b false o i=operate [o,i] (Rr o i)
def Zh(X:Cx)(r:R2):Prop:=
 ∀(value slice:B7)(pins:List (A0×Obj))(s:AA)(σ:St)(H:Hp)(x y:V)(v u:A5)(Q:VK),Inv X pins σ H s->RelV x v->RelV y u->r x y H Q->
  ZO slice false v u=operate [v,u] (Rr v u)->AJ (AU X.prog X.w) X.A (UO value slice v u) (EP X pins σ Q) X.xe s
def KA(X:Cx)(id:String)(r:V->List V->Hp->VK->Prop):Prop:=
 ∀(pins:List (A0×Obj))(s:AA)(σ:St)(H:Hp)(x:V)(xs:List V)(v:A5)(us:List A5)(Q:VK),Inv X pins σ H s->RelV x v->Ai xs us->r x xs H Q->
  AJ (AU X.prog X.w) X.A (HQ (.builtin id) (v::us)) (EP X pins σ Q) X.xe s
section
variable{X:Cx}{a b:B7}{ta tb:TE}{pos:Pos}
def BL(hr:Zh X r)(ha:PE X a ta)(hb:PE X b tb)(hs:agC b):PE X (.Subscript a b pos) (X3 r ta tb):=by
 intro pins s σ H Q I h;exact UQ (fK ha hb I h λv u s2 x y H2 I2 rx ry q=>hr a b pins s2 σ H2 x y v u Q I2 rx ry q (hs _ _))
def j_(K:Ae):R2:=λx y H Q=>Bm x λp=>Bl y λi=>∃xs v,A4 K H p xs/\FP xs i=some v/\Q v H
def zP(K:Ae):R2:=λx y H Q=>Bm x λp=>Bl y λi=>∃xs v,C6 K H p xs/\FP xs i=some v/\Q v H
def BM:Zh X (j_ X.K):=by
 intro value slice pins s σ H x y v u Q I rx ry h hs;w_up;obtain⟨p,i,rfl,rfl,xs,z,hq,he,q⟩:=jg h;fin2;cases rx;w_up;obtain⟨t,rfl⟩:=ry;obtain⟨its,r,pl,hz⟩:=I.list hq;obtain⟨j,h1,h2,h3,h4,h5⟩:=pb he;obtain⟨w,ew,Mu⟩:=r.get h2;fin2;have hl:=r.length;have hn:=Ss;have fin:EP X pins σ Q w s:=⟨z,H,I,Mu,q⟩;by_cases h0:0<=i
 .have hj:i.toNat=j:=by
   rw[p9 h0 h5]at h1;exact GW h1
  exact item_listR pl.isList h0 (by lia) (by rw[hj];simpa using ew) fin hs
 .have hj:(i+(its.toArray.size:Int)).toNat=j:=by
   rw[oY (by lia) h4]at h1;rw[DH,<-hl];exact GW h1
  exact adC (x:=w) pl.isList.typeIs Ya.lookup
   (wpAny_getItem_list_neg (Q:=λr s'=>r=w/\EP X pins σ Q r s') pl.isList (by lia) (by rw[DH]<;>lia) (by lia) (by rw[hj];simpa using ew) ⟨rfl,fin⟩) hs
def amI:Zh X (zP X.K):=by
 intro value slice pins s σ H x y v u Q I rx ry h hs;w_up;obtain⟨p,i,rfl,rfl,xs,z,hq,he,q⟩:=jg h;fin2;cases rx;w_up;obtain⟨t,rfl⟩:=ry;obtain⟨its,r,pl,hz⟩:=I.tuple hq;obtain⟨j,h1,h2,h3,h4,h5⟩:=pb he;obtain⟨w,ew,Mu⟩:=r.get h2;fin2;have hl:=r.length;have hn:=Ss;have fin:EP X pins σ Q w s:=⟨z,H,I,Mu,q⟩;exact adC (x:=w) pl.typeIs slot_tuple_getitem.lookup
  (getItem_tuple (j:=j) (Q:=λr s'=>r=w/\EP X pins σ Q r s') pl (by lia) (by lia) (by rw[DH,<-hl];exact h1) (by simpa using ew) ⟨rfl,fin⟩) hs
def amd(its:List A5)(n j:Nat)(u:A5):Rc (·.setIfInBounds j u) {cls:=.type "list",data:=.seq its.toArray n}={cls:=.type "list",data:=.seq (its.set j u).toArray n}:=by
 simp[Rc]
def Inv.lst(I:Inv X pins σ H s)(h:H p=some (.lst xs)):
 ∃(its:List A5)(n:Nat),Ai xs its/\s.heap.get? p=some {cls:=.type "list",data:=.seq its.toArray n}/\xs.length<=Al:=by
 obtain⟨z,its,n,r,e⟩:=I.AZ p _ h;exact⟨its,n,r,e,z⟩
def Inv.ald{p:A0}{xs ys:List V}{its IP:List A5}{n n':Nat}{f:Obj->Obj}(I:Inv X pins σ H s)(h:H p=some (.lst xs))
 (ho:s.heap.get? p=some {cls:=.type "list",data:=.seq its.toArray n})(hf:f {cls:=.type "list",data:=.seq its.toArray n}={cls:=.type "list",data:=.seq IP.toArray n'})(r:Ai ys IP)(hz:ys.length<=Al)(t:Nat):
 Inv X pins σ (upd H p (.lst ys)) {s with heap:=s.heap.update p f,toks:=t}:=by
 have e:(s.heap.update p f).get? p=some {cls:=.type "list",data:=.seq IP.toArray n'}:=by
  rw[P6 f ho (by rw[hf]<;>rfl),hf]
 refine I.write (x:=p) (e:=p) (by rw[h];trivial) (.inl rfl) (λb u hb q=>(Hl _ _ (Ct hb)).trans q) ⟨_,e⟩ ?_;exact⟨hz,IP,n',r,e⟩
def Tf:V->V->V->Hp->(Hp->Prop)->Prop:=λo i v H Q=>∃p xs k j,o=.ref p/\i=.int k/\H p=some (.lst xs)/\Gr xs.length k=some j/\Q (upd H p (.lst (xs.set j v)))
def set_list:qV X Tf:=by
 intro pins s σ H o i v ov iv u Q I ro ri rv h;w_up;obtain⟨p,xs,k,j,rfl,rfl,hp,hj,q⟩:=h;fin2;cases ro;w_up;obtain⟨t,rfl⟩:=ri;obtain⟨its,n,r,ho,hz⟩:=I.lst hp;obtain⟨h1,h2,h3,h4⟩:=uI hj;fin2;have hl:=r.length;have hn:=Ss;have I':Inv X pins σ (upd H p (.lst (xs.set j v))) {s with heap:=s.heap.update p (Rc (·.setIfInBounds j u))}:=
  I.ald hp ho (amd its n j u) (r.set rv j) (by rw[Z8];exact hz) s.toks
 by_cases h0:0<=k
 .have hk:k.toNat=j:=by
   rw[p9 h0 h4]at h1;exact GW h1
  exact PySem.W.ki_setAt ho h0 (by lia) (by rw[DH,<-hl];exact h4) (by rw[hk];exact⟨_,I',q⟩)
 .have hk:(k+(its.toArray.size:Int)).toNat=j:=by
   rw[oY (by lia) h3]at h1;rw[DH,<-hl];exact GW h1
  exact PySem.W.ki_setBack ho (by lia) (by rw[DH,<-hl];exact h3) (by lia) (by rw[hk];exact⟨_,I',q⟩)
def atl(lo hi:Option Int)(n:Nat):(Lw lo hi none n).1=((HT.GK n 0 lo:Nat):Int)/\(Lw lo hi none n).2.1=((HT.GK n n hi:Nat):Int)/\(Lw lo hi none n).2.2=1:=by
 refine⟨?_,?_,rfl⟩
 .cases lo with
  |none=>simp[Lw,HT.GK]
  |some i=>
   simp only[Lw,HT.GK,aeV,show(1:Int)>0 by decide,if_true];by_cases h:i<0
   .simp only[h,if_true]<;>lia
   .simp only[h,if_false]<;>lia
 .cases hi with
  |none=>simp[Lw,HT.GK]
  |some i=>
   simp only[Lw,HT.GK,aeV,show(1:Int)>0 by decide,if_true];by_cases h:i<0
   .simp only[h,if_true]<;>lia
   .simp only[h,if_false]<;>lia
def atk(its:List A5)(lo hi:Option Int):Za its.toArray lo hi none=((its.drop (HT.GK its.length 0 lo)).take (HT.GK its.length its.length hi-HT.GK its.length 0 lo)).toArray:=by
 obtain⟨h1,h2,h3⟩:=atl lo hi its.toArray.size;unfold Za;rw[h1,h2,h3];simp only[sliceRange_one,pick_run,DH]<;>rfl
def ja(K:Ae):V->Option Int->Option Int->Hp->VK->Prop:=λx lo hi H Q=>Bm x λa=>∃xs,A4 K H a xs/\∀p,H p=none->Q (.ref p) (upd H p (.lst (HX xs lo hi)))
def Jj:g7 X (ja X.K):=by
 intro pins s σ H x v vl vu lo hi sl Q I rx hs pl pu h;obtain⟨a,rfl,xs,hx,q⟩:=Jf h;cases rx;obtain⟨its,r,ht,hz⟩:=I.list hx;have hlen:=r.length;refine⟨"list",_,Ya.lookup,ht.isList.typeIs,?_⟩;refine nN ht.isList hs pl pu .none (by simp) ?_ (by rw[DH]<;>lia);rw[atk,<-hlen];refine⟨.ref s.heap.objs.size,_,I.laid (t':=s.toks) (o:=.lst (HX xs lo hi)) (λb ob q=>BK _ q) (Az _) ?_,rfl,q _ (I.AZ.fresh (Az _))⟩;exact⟨Ao (ahE xs lo hi) hz,_,0,(r.drop (HT.GK xs.length 0 lo)).take (HT.GK xs.length xs.length hi-HT.GK xs.length 0 lo),C_ _ rfl⟩
def KI:V->Bool
 | .Ah=>true
 | .bl _=>true
 | .int _=>true
 | .str _=>true
 |_=>false
def LF:V->V->Bool
 | .Ah,.Ah=>true
 | .bl a,.bl b=>a==b
 | .bl a,.int b=>(if a then 1 else 0)==b
 | .int a,.bl b=>a==(if b then 1 else 0)
 | .int a,.int b=>a==b
 | .str a,.str b=>a==b
 |_,_=>false
def agO(ry:RelV y u)(rx:RelV x v)(fy:KI y=true)(fx:KI x=true):afJ A s u v (LF y x):=by
 cases y with
 |Ah=>
  cases ry;cases x with
  |Ah=>cases rx;exact SeqAt.EqAt.same _
  |bl b=>cases rx;exact SeqAt.EqAt.none_bool b
  |int b=>obtain⟨t,rfl⟩:=rx;exact SeqAt.EqAt.none_int b t
  |str b=>obtain⟨t,rfl⟩:=rx;exact SeqAt.EqAt.none_str b t
  |_=>exact absurd (show false=true from fx) DR
 |bl a=>
  cases ry;cases x with
  |Ah=>cases rx;exact SeqAt.EqAt.bool_none a
  |bl b=>cases rx;exact SeqAt.EqAt.bool_bool a b
  |int b=>obtain⟨t,rfl⟩:=rx;exact SeqAt.EqAt.bool_int a b t
  |str b=>obtain⟨t,rfl⟩:=rx;exact SeqAt.EqAt.bool_str a b t
  |_=>exact absurd (show false=true from fx) DR
 |int a=>
  obtain⟨t',rfl⟩:=ry;cases x with
  |Ah=>cases rx;exact SeqAt.EqAt.int_none a t'
  |bl b=>cases rx;exact SeqAt.EqAt.int_bool a t' b
  |int b=>obtain⟨t,rfl⟩:=rx;exact SeqAt.EqAt.int_int a t' b t
  |str b=>obtain⟨t,rfl⟩:=rx;exact ae8 a t' b t
  |_=>exact absurd (show false=true from fx) DR
 |str a=>
  obtain⟨t',rfl⟩:=ry;cases x with
  |Ah=>cases rx;exact SeqAt.EqAt.str_none a t'
  |bl b=>cases rx;exact SeqAt.EqAt.str_bool a t' b
  |int b=>obtain⟨t,rfl⟩:=rx;exact ae9 a t' b t
  |str b=>obtain⟨t,rfl⟩:=rx;exact SeqAt.EqAt.str_str a t' b t
  |_=>exact absurd (show false=true from fx) DR
 |_=>exact absurd (show false=true from fy) DR
def MQ(x:V)(u:A5):Bool:=match u with
 | .none=>LF .Ah x
 | .bool b=>LF (.bl b) x
 | .int i _=>LF (.int i) x
 | .str z _=>LF (.str z) x
 |_=>false
def sV(r:RelV y u)(f:KI y=true):MQ x u=LF y x:=by
 cases y with
 |Ah=>cases r;rfl
 |bl b=>cases r;rfl
 |int i=>obtain⟨t,rfl⟩:=r;rfl
 |str z=>obtain⟨t,rfl⟩:=r;rfl
 |_=>exact absurd (show false=true from f) DR
def fG:∀{xs:List V}{us:List A5},Ai xs us->xs.all KI=true->us.any (MQ x)=xs.any λy=>LF y x
 |_,_,.nil,_=>rfl
 |y::xs,u::us,.cons r t,f=>by
  rw[UP,CH]at f;rw[R_,R_,sV r f.1,fG t f.2]
def ia(rx:RelV x v)(fx:KI x=true):∀{xs:List V}{us:List A5},Ai xs us->xs.all KI=true->∀u∈us,afJ A s u v (MQ x u)
 |_,_,.nil,_=>λu hu=>by cases hu
 |y::xs,u::us,.cons r t,f=>λu' hu=>by
  rw[UP,CH]at f;rcases B2.mp hu with rfl|hu
  .rw[sV r f.1];exact agO r rx f.1 fx
  .exact ia rx fx t f.2 u' hu
def Sl(x:V)(xs:List V):Bool:=xs.any λy=>LF y x
def rIn(K:Ae)(neg:Bool):R2:=λx y H Q=>∃p xs,y=.ref p/\(A4 K H p xs\/C6 K H p xs)/\KI x=true/\xs.all KI=true/\Q (.bl (if neg then !Sl x xs else Sl x xs)) H
def ym:DM X (Ic .NotIn) (rIn X.K true):=by
 intro pins s σ H x y v u Q I rx ry h;w_up;obtain⟨p,xs,rfl,hq,fx,fs,q⟩:=h;fin2;cases ry;rcases hq with hq|hq
 .obtain⟨its,r,pl,hz⟩:=I.list hq;refine SeqAt.notIn_listAt (MQ x) pl.isList (λw hw=>ia rx fx r fs w (by simpa using hw)) ⟨.bl _,H,I,rfl,?_⟩;rw[show its.toArray.any (MQ x)=its.any (MQ x) by simp,fG r fs];exact q
 .obtain⟨its,r,pl,hz⟩:=I.tuple hq;refine SeqAt.notIn_tupleAt (MQ x) pl (λw hw=>ia rx fx r fs w (by simpa using hw)) ⟨.bl _,H,I,rfl,?_⟩;rw[show its.toArray.any (MQ x)=its.any (MQ x) by simp,fG r fs];exact q
def EH:JO X (.builtin "len") (λxs H Q=>FY xs λx=>Bm x λp=>∃ys,(A4 X.K H p ys\/C6 X.K H p ys)/\Q (.int ys.length) H):=by
 intro pins s σ H xs us Q I r h;obtain⟨p,rfl,ys,hq,q⟩:=ka h;obtain⟨u,rfl,rx⟩:=vals1 r;cases rx;have hn:=Ss;rcases hq with hq|hq
 .obtain⟨its,r',pl,hz⟩:=I.list hq;have hlen:=r'.length;exact Calls.call_len_list pl.isList (by simp only[DH]<;>lia) ⟨.int ys.length,H,I.tok _,⟨s.toks+1,by rw[DH,hlen]⟩,q⟩
 .obtain⟨its,r',pl,hz⟩:=I.tuple hq;have hlen:=r'.length;exact len_tuple pl (by simp only[DH]<;>lia) ⟨.int ys.length,H,I.tok _,⟨s.toks+1,by rw[DH,hlen]⟩,q⟩
def agu:JO X (.builtin "len") (λxs H Q=>FY xs λx=>Wq x λz=>z.length<=Al/\Q (.int z.length) H):=by
 intro pins s σ H xs us Q I r h;obtain⟨z,rfl,hz,q⟩:=yf h;obtain⟨u,rfl,t,rfl⟩:=vals1 r;have hn:=Ss;exact len_str (by lia) ⟨.int z.length,H,I.tok _,⟨_,rfl⟩,q⟩
def TB(K:Ae)(T:String)(x:V)(H:Hp):Prop:=match x with
 | .str _=>T="str"
 | .int _=>T="int"
 | .ref p=>(T="list"/\∃xs,A4 K H p xs)\/(T="tuple"/\∃o,K.lookup p=some o/\o.cls=.type "tuple"/\o.dict=none)\/
  (T="dict"/\((∃A9,H p=some (.dK A9))\/∃A9,H p=some (.dT A9)))\/(T="set"/\∃S n,H p=some (.set S n))
 |_=>False
def acy(I:Inv X pins σ H s)(r:RelV x v)(ty:TB X.K T x H):
 s.TypeIs v T/\∀a,v=.ref a->∃ob,s.heap.get? a=some ob/\ob.dict=none:=by
 cases x with
 |str z=>
  obtain⟨t,rfl⟩:=r;cases(show T="str"from ty);exact⟨Rf s z t,λ_ e=>nomatch e⟩
 |int i=>
  obtain⟨t,rfl⟩:=r;cases(show T="int"from ty);exact⟨pK s i t,λ_ e=>nomatch e⟩
 |ref p=>
  cases r;rcases ty with⟨rfl,xs,hq⟩|⟨rfl,o,hk,hc,hd⟩|⟨rfl,hk⟩|⟨rfl,S,n,hk⟩
  .obtain⟨its,_,pl,_⟩:=I.list hq;refine⟨pl.isList.typeIs,λa e=>?_⟩;cases e;obtain⟨o,n,e,c,hd,_⟩:=pl;exact⟨o,e,hd⟩
  .refine⟨⟨o,I.F5 p o hk,hc⟩,λa e=>?_⟩;cases e;exact⟨o,I.F5 _ o hk,hd⟩
  .have z:∃o,s.heap.get? p=some o/\o.ExactDict:=by
    rcases hk with⟨A9,hk⟩|⟨A9,hk⟩
    .obtain⟨_,_,_,_,o,_,_,e,ex,_⟩:=I.AZ p _ hk;exact⟨o,e,ex⟩
    .obtain⟨_,_,_,_,o,_,_,e,ex,_⟩:=I.AZ p _ hk;exact⟨o,e,ex⟩
   obtain⟨o,e,ex⟩:=z;refine⟨⟨o,e,ex.1⟩,λa e2=>?_⟩;cases e2;exact⟨o,e,ex.2.1⟩
  .obtain⟨o,_,_,_,e,ex,_⟩:=I.AZ p _ hk;refine⟨⟨o,e,ex.1⟩,λa e2=>?_⟩;cases e2;exact⟨o,e,ex.2.1⟩
 |_=>exact Hw ty
def mK(K:Ae)(T:String)(r:V->List V->Hp->VK->Prop)(to:TE):TE:=λσ H Q=>to σ H λx H1=>TB K T x H1/\r x [] H1 Q
def abp(K:Ae)(T:String)(r:V->List V->Hp->VK->Prop)(to:TE)(t:TA):TE:=λσ H Q=>to σ H λx H1=>TB K T x H1/\t σ H1 λxs H2=>r x xs H2 Q
variable{o e:B7}{es:List B7}{to:TE}{t:TA}{name:Str}{apos FR:Pos}{T id:String}{r:V->List V->Hp->VK->Prop}
def TY(pa:pL T)(slot:Slot T name id)(LR:typeOf (.builtin id)=pure (.type "method_descriptor"))(hm:KA X id r)(ho:PE X o to)
 (Ha:autoParam (Kt o name X.env (As o X.env)=As o X.env) auR)(J1:autoParam ((apos.endLine==FR.line)=true) auR):PE X (.Call (.Attribute o name apos) [] [] FR) (mK X.K T r to):=by
 intro pins s σ H Q I h;refine wpAny_Call_method0_late Ha J1 (Bi (ho pins s σ H _ I h) λv s1 x H1 I1 r1 AG=>?_);obtain⟨ty,q1⟩:=AG;obtain⟨h1,h2⟩:=acy I1 r1 ty;exact⟨T,id,pa,slot,LR,h1,h2,YN rfl (adQ (hm pins s1 σ H1 x [] v [] Q I1 r1 .nil q1))⟩
def Fu(pa:pL T)(slot:Slot T name id)(LR:typeOf (.builtin id)=pure (.type "method_descriptor"))(hm:KA X id r)(ho:PE X o to)(ha:PA X (e::es) t)
 (Ha:autoParam (Kt o name X.env (As o X.env)=As o X.env) auR)
 (akB:autoParam (((D7 FR (B0 (e::es) X.env)).all (λx=>!x.1)&&(Pd FR (Pa [] X.env)).all (λx=>x.1.isSome)
  &&decide ((e::es).length+([]:List Keyword).length+(if([]:List Keyword).isEmpty then 0 else 1)<30))=true) auR)
 (J1:autoParam ((apos.endLine==FR.line)=true) auR)(hs:autoParam (B0 (e::es) X.env=(false,As e X.env)::B0 es X.env) auR)(alE:autoParam ((D7 FR (B0 es X.env)).any (·.1)=false) auR):
 PE X (.Call (.Attribute o name apos) (e::es) [] FR) (abp X.K T r to t):=by
 intro pins s σ H Q I h;refine wpAny_Call_method_late Ha akB J1 rfl (Bi (ho pins s σ H _ I h) λv s1 x H1 I1 r1 AG=>?_);obtain⟨ty,q1⟩:=AG;obtain⟨h1,h2⟩:=acy I1 r1 ty;refine⟨T,id,pa,slot,LR,h1,h2,?_⟩;have hA:=ha FR pins s1 σ H1 _ I1 q1;rw[hs]at hA⊢;refine YN (by show(false||(D7 FR (B0 es X.env)).any (·.1))=false;rw[alE]<;>rfl) (nX ?_);exact Be hA λus s2⟨vs,H2,I2,r2,q2⟩=>hm pins s2 σ H2 x vs v us Q I2 r1 r2 q2
end
def dN(X:Cx)(id:String)(r:V->List V->Hp->VK->Prop):Prop:=
 ∀(pins:List (A0×Obj))(s:AA)(σ:St)(H:Hp)(x:V)(xs:List V)(v:A5)(us:List A5)(Q:VK),Inv X pins σ H s->RelV x v->Ai xs us->r x xs H Q->
  AJ (AU X.prog X.w) X.A (HQ (.builtin id) (v::us)) (EP X pins σ Q) X.xe s
def Ai.one:∀{x:V}{us:List A5},Ai [x] us->∃u,us=[u]/\RelV x u
 |_,_,.cons r .nil=>⟨_,rfl,r⟩
def Ai.zero:∀{us:List A5},Ai [] us->us=[]
 |_,.nil=>rfl
def Ai.reverse(h:Ai xs us):Ai xs.reverse us.reverse:=by
 induction h with
 |nil=>exact .nil
 |cons r t ih=>rw[PH,PH];exact Ai.append ih (.cons r .nil)
def Ai.rep(h:Ai xs us):∀k:Nat,Ai (Ar k xs).flatten (Ar k us).flatten
 |0=> .nil
 |k+1=>by
  rw[Ln,Ln,GP,GP];exact Ai.append h (Ai.rep h k)
def foldl_rep(its:List A5):∀(k:Nat)(acc:List A5),
 pM (λx1 x2=>x1++x2) acc.toArray (Ar k its.toArray)=(acc++(Ar k its).flatten).toArray
 |0,acc=>by simp
 |k+1,acc=>by
  have e:acc.toArray++its.toArray=(acc++its).toArray:=by simp
  have e2:(acc++its)++(Ar k its).flatten=acc++(Ar (k+1) its).flatten:=by
   rw[Ln,GP,Hs]
  rw[<-e2,<-foldl_rep its k (acc++its),<-e,Ln,oN]
section
variable{X:Cx}{pins:List (A0×Obj)}{σ:St}{H:Hp}{s:AA}{l b:A0}{xs ys zs:List V}
def Inv.wZ{its IP:List A5}{n:Nat}(I:Inv X pins σ H s)(hH:H l=some (.lst xs))
 (e:s.heap.get? l=some {cls:=.type "list",data:=.seq its.toArray n})(hf:f its.toArray=IP.toArray)(hv:Ai ys IP)(hz:ys.length<=Al):
 Inv X pins σ (upd H l (.lst ys)) {s with heap:=s.heap.update l (Rc f),toks:=t'}:=by
 have q:=PySem.IsL.update e f;rw[hf]at q;refine I.write (x:=l) (e:=l) (by rw[hH];exact trivial) (.inl rfl) (λb' u hb hu=>(Hl s.heap (Rc f) (Ct hb)).trans hu) ⟨_,q⟩ ?_;exact⟨hz,IP,_,hv,q⟩
def Inv.wX(I:Inv X pins σ H s)(hv:Ai ys its)(hz:ys.length<=Al):
 Inv X pins σ (upd H s.heap.objs.size (.lst ys)) {s with heap:=s.heap.push {cls:=.type "list",data:=.seq its.toArray},toks:=t'}:=
 I.laid (λ_ _ q=>BK _ q) (Az _) ⟨hz,its,0,hv,C_ _ rfl⟩
def Inv.fresh(I:Inv X pins σ H s):H s.heap.objs.size=none:=I.AZ.fresh (Az _)
def Inv.Su(I:Inv X pins σ H s)(hH:H l=some (.lst xs)):xs.length<=Al/\∃(its:List A5)(n:Nat),Ai xs its/\xs.length=its.length/\s.heap.get? l=some {cls:=.type "list",data:=.seq its.toArray n}:=by
 obtain⟨z,its,n,r,e⟩:=I.AZ l _ hH;exact⟨z,its,n,r,r.length,e⟩
def x9(h:n<=Al):YS n=false:=by
 unfold YS;exact decide_eq_false (by lia)
end
section
variable{X:Cx}
def xt:V->List V->Hp->VK->Prop:=λx vs H Q=>Bm x λl=>FY vs λy=>∃xs,H l=some (.lst xs)/\xs.length<Al/\Q .Ah (upd H l (.lst (xs++[y])))
def IB:dN X "list.append" xt:=by
 intro pins s σ H x vs v us Q I rx rv h;w_up;obtain⟨l,e0,h0⟩:=Jf h;obtain⟨y,rfl,xs,hH,hz,q⟩:=TR h0;fin2;subst e0;cases rx;w_up;obtain⟨u,rfl,ru⟩:=rv.one;obtain⟨z,its,n,r,hl,e⟩:=I.Su hH;fin2;refine Nl Gv ⟨_,e,rfl⟩ F.entry_list_append (F.args_list_append_2 _ _) (PySem.list_append l its.toArray n u (by rw[DH];lia)) ⟨e,?_⟩;refine⟨.Ah,_,I.wZ (IP:=its++[u]) hH e (by simp) (r.append (.cons ru .nil)) ?_,rfl,q⟩;rw[Bo,Km];lia
def zN:V->List V->Hp->VK->Prop:=λx vs H Q=>Bm x λl=>FY vs λy=>Bm y λb=>∃xs zs,H l=some (.lst xs)/\H b=some (.lst zs)/\xs.length+zs.length<=Al/\Q .Ah (upd H l (.lst (xs++zs)))
def cH:dN X "list.extend" zN:=by
 intro pins s σ H x vs v us Q I rx rv h;w_up;obtain⟨l,e0,h0⟩:=Jf h;obtain⟨b,rfl,xs,zs,hH,hB,hz,q⟩:=ka h0;fin2;subst e0;cases rx;w_up;obtain⟨u,rfl,ru⟩:=rv.one;fin2;cases ru;w_up;obtain⟨z,its,n,r,hl,e⟩:=I.Su hH;obtain⟨z2,J4,n2,r2,D4,e2⟩:=I.Su hB;fin2;have hsz:its.toArray.size+J4.toArray.size<=Al:=by rw[DH,DH];lia
 have i6:¬(!its.toArray.isEmpty&&YS (its.toArray.size+J4.toArray.size))=true:=by
  rw[x9 hsz,aeg];exact DR
 refine Nl Tz ⟨_,e,rfl⟩ F.entry_list_extend (F.args_list_extend_2 _ _)
  (AutoSeq1.list_extend_list_list_0 l its.toArray n b J4.toArray n2 i6 (by rw[DH];lia) (by lia)) ⟨e,e2,?_⟩
 refine⟨.Ah,_,I.wZ (IP:=its++J4) hH e (by simp) (r.append r2) ?_,rfl,q⟩;rw[Bo];lia
def yS:R2:=λx y H Q=>Bm x λl=>Bm y λb=>∃xs zs,H l=some (.lst xs)/\H b=some (.lst zs)/\xs.length+zs.length<=Al/\∀p,H p=none->Q (.ref p) (upd H p (.lst (xs++zs)))
def OX:DM X (Ib .Add) yS:=by
 intro pins s σ H x y v u Q I rx ry h;w_up;obtain⟨l,b,rfl,rfl,xs,zs,hH,hB,hz,q⟩:=yi h;fin2;cases rx;cases ry;w_up;obtain⟨z,its,n,r,hl,e⟩:=I.Su hH;obtain⟨z2,J4,n2,r2,D4,e2⟩:=I.Su hB;fin2;refine PySem.P.add_list e e2 ?_ (by rw[DH,DH];omega);have ea:its.toArray++J4.toArray=(its++J4).toArray:=by simp
 rw[ea];exact⟨.ref _,_,I.wX (t':=s.toks) (r.append r2) (by rw[Bo];omega),rfl,q _ I.fresh⟩
def zQ:R2:=λx y H Q=>Bm x λl=>Bl y λk=>∃xs,H l=some (.lst xs)/\ -(2^63)<=k/\k<2^63/\xs.length*k.toNat<=Al/\
 ∀p,H p=none->Q (.ref p) (upd H p (.lst (Ar k.toNat xs).flatten))
def len_rep(xs:List α)(k:Nat):(Ar k xs).flatten.length=k*xs.length:=by
 induction k with
 |zero=>simp
 |succ k ih=>rw[Ln,GP,Bo,ih,aev,Fi]
def TV:DM X (Ib .Mult) zQ:=by
 intro pins s σ H x y v u Q I rx ry h;w_up;obtain⟨l,k,rfl,rfl,xs,hH,h1,h2,hz,q⟩:=jg h;fin2;cases rx;w_up;obtain⟨t,rfl⟩:=ry;obtain⟨z,its,n,r,hl,e⟩:=I.Su hH;fin2;have hlen:its.toArray.size*k.toNat<=Al:=by rw[DH,<-hl];exact hz
 have SV:¬its.toArray.size*k.toNat>(2^63-1)/8:=by
  have:(Al:Nat)<=(2^63-1)/8:=by decide
  lia
 have akD:¬(!aw7 k)=true:=by
  rw[fitsIndex_both h1 h2];exact DR
 have i6:¬YS (its.toArray.size*k.toNat)=true:=by
  rw[x9 hlen];exact DR
 have WJ:pM (λx1 x2=>x1++x2) #[] (Ar (if its.toArray.isEmpty=true then 0 else k.toNat) its.toArray)=(Ar k.toNat its).flatten.toArray:=by
  have f0:∀m:Nat,pM (λx1 x2=>x1++x2) #[] (Ar m its.toArray)=(Ar m its).flatten.toArray:=λm=>by
   have:=foldl_rep its m [];rw[Ko]at this;exact this
  rw[f0];cases its with
  |nil=>simp
  |cons a r'=>rw[if_neg (by simp)]
 refine wpAny_binaryOp_repeat_ref (T:="list") (U:="int") (by decide) ⟨_,e,rfl⟩ (λs'=>pK s' k t) noFill_list_mul F.fills_int_mul aeN repeat_list F.slot_int_index.lookup
  (Nl aeN (pK s k t) F.entry_int_rmul (F.args_int_rmul_2 _ _) (int___rmul___int_list k t l its.toArray n)
   ⟨e,rfl,⟨_,e,rfl⟩,Nl F.slot_list_mul ⟨_,e,rfl⟩ F.entry_list_mul (F.args_list_mul_2 _ _) (AutoListH.list___mul___list_int_3 l its.toArray n k t akD SV i6) ⟨e,?_⟩⟩)
 rw[WJ];exact⟨.ref _,_,I.wX (t':=s.toks) (r.rep k.toNat) (by rw[len_rep,BV];exact hz),rfl,q _ I.fresh⟩
end
def Ai.qG:∀{bs:List Bool}{us:List A5},Ai (bs.map V.bl) us->us=bs.map Rh
 |[],us,h=>by
  rw[Kr]at h;cases h;rfl
 |b::bs,us,h=>by
  rw[BW]at h;cases h with
  |cons r t=>
   cases r;rw[Ai.qG t,BW]
def Ai.aqx(r:Ai [V.ref a] us):us=[Cc a]:=by
 cases r with
 |cons r t=>
  cases t;cases r;rfl
section
variable{X:Cx}
def bG{ys:List V}(f:ys.all KI=true){j:Nat}{z:V}(h:ys[j]? =some z):KI z=true:=EY.mp f z (DS h)
end
def amF(hl:s.heap.IsList l items)
 (h:∀Ef:AA,Ef={s with heap:=s.heap.push {cls:=.type "list_iterator",data:=.fields #[.ref l,.int 0 0]}}->
  (Ef.heap.IsListIter s.heap.objs.size l 0/\Ef.heap.IsList l items)->l≠s.heap.objs.size->Q (.ref s.heap.objs.size) Ef):AJ (AU prog w) A (pyIter (.ref l)) Q E s:=by
 have B3:l<s.heap.objs.size:=by obtain⟨_,e,_⟩:=hl;exact BZ e
 exact RW hl (h _ rfl ⟨⟨_,C_ _ rfl,rfl,rfl⟩,hl.push _⟩ (DU B3))
def auE{A:CB}{bs:List Bool}{its:List A5}(e:its=bs.map Rh):
 TruthOf prog w A (λi v=>its.toArray[i]? =some v) (λi=>bs.getD i false):=λi v s Q E hv hq=>by
 have cZ:its[i]? =some v:=by simpa using hv
 rw[e,D0]at cZ;obtain⟨b,hb,rfl⟩:=nG.mp cZ;have hg:bs.getD i false=b:=by rw[IQ,hb]<;>rfl
 have JZ:Q (bs.getD i false) s:=hq;rw[hg]at JZ;exact Nd JZ
def all_range:∀bs:List Bool,(A8 bs.length).all (λi=>bs.getD i false)=bs.all id
 |[]=>rfl
 |b::bs=>by
  rw[B4,List.range_succ_eq_map,UP,aew,UP,<-all_range bs];all_goals rfl
section
variable{X:Cx}
def xr(K:Ae):List V->Hp->VK->Prop:=λvs H Q=>∃(a:A0)(bs:List Bool),vs=[V.ref a]/\A4 K H a (bs.map V.bl)/\Q (.bl (bs.all id)) H
def ah7(hc:X.calm=true):JO X (.builtin "all") (xr X.K):=by
 intro pins s σ H vs us Q I r h;w_up;obtain⟨a,bs,rfl,hs,q⟩:=h;obtain⟨its,rv,hl,_⟩:=I.list hs;fin2;rw[Ai.aqx r];have hb:=rv.qG;refine call_all_walk (amF hl.isList λEf e2 st Bx=>?_);subst e2;refine⟨_,_,_,_,_,_,_,rfl,afH (A:=X.A.in1) (I.ok.hd hc) _ a Bx its.toArray,st,auE hb,λh' tk hk=>?_⟩;refine⟨.bl _,H,I.kept λb o eo=>hk b o (λgR=>?_) (BK _ eo),?_,q⟩
 .rcases B2.mp gR with e1|gR
  .exact absurd (e1▸BZ eo) (GR _)
  .cases gR
 .show Rh _=Rh _;rw[<-all_range,hb,DH,AV]
end
mutual
inductive Dp(K:Ae)(H:Hp):V->Nr->Prop
 |Ah:Dp K H .Ah .none
 |bl (b:Bool):Dp K H (.bl b) (.bool b)
 |int (i:Int):Dp K H (.int i) (.int i)
 |str (x:Str):Dp K H (.str x) (.str x)
 |lst {a:A0} {xs:List V} {ds:List Nr}:A4 K H a xs->QD K H xs ds->Dp K H (.ref a) (.list ds)
 |tup {a:A0} {xs:List V} {ds:List Nr}:C6 K H a xs->QD K H xs ds->Dp K H (.ref a) (.tuple ds)
inductive QD(K:Ae)(H:Hp):List V->List Nr->Prop
 |nil:QD K H [] []
 |cons {v:V} {vs:List V} {d:Nr} {ds:List Nr}:Dp K H v d->QD K H vs ds->QD K H (v::vs) (d::ds)
end
section
variable{X:Cx}{pins:List (A0×Obj)}{σ:St}{H:Hp}{s:AA}
mutual
def Dp.reads(I:Inv X pins σ H s):∀(d:Nr)(v:V)(u:A5),Dp X.K H v d->RelV v u->∃as,Reads s.heap u d as
 | .none,_,_,h,r=>by
  cases h;cases r;exact⟨_,Reads.none⟩
 | .bool b,_,_,h,r=>by
  cases h;cases r;exact⟨_,Reads.bool b⟩
 | .int i,_,_,h,r=>by
  cases h;obtain⟨t,rfl⟩:=r;exact⟨_,Reads.int i t⟩
 | .str x,_,_,h,r=>by
  cases h;obtain⟨t,rfl⟩:=r;exact⟨_,Reads.str x t⟩
 | .list ds,_,_,h,r=>by
  cases h with
  |lst hs ha=>
   cases r;w_up;obtain⟨its,rv,⟨o,n,ho,hc,_,hd⟩,_⟩:=I.list hs;obtain⟨as,hr⟩:=Dp.readsAll I ds _ its ha rv;fin2;exact⟨_,Reads.list ho hc hd hr⟩
 | .tuple ds,_,_,h,r=>by
  cases h with
  |tup hs ha=>
   cases r;w_up;obtain⟨its,rv,⟨o,ho,hc,n,hd⟩,_⟩:=I.tuple hs;obtain⟨as,hr⟩:=Dp.readsAll I ds _ its ha rv;fin2;exact⟨_,Reads.tuple ho hc hd hr⟩
 | .dict _,_,_,h,_=>by cases h
def Dp.readsAll(I:Inv X pins σ H s):∀(ds:List Nr)(vs:List V)(us:List A5),QD X.K H vs ds->Ai vs us->∃as,ReadsAll s.heap us ds as
 |[],_,_,h,r=>by
  cases h;cases r;exact⟨_,ReadsAll.nil⟩
 |d::ds,_,_,h,r=>by
  cases h with
  |cons h1 h2=>
   cases r with
   |cons r1 r2=>
    obtain⟨as,q1⟩:=Dp.reads I d _ _ h1 r1;obtain⟨bs,q2⟩:=Dp.readsAll I ds _ _ h2 r2;exact⟨_,ReadsAll.cons q1 q2⟩
end
end
section
variable{X:Cx}
def zM(K:Ae):R2:=λx y H Q=>∃d e,Dp K H x d/\Dp K H y e/\ZD d=true/\ZD e=true/\Q (.bl (PyData.eqv d e)) H
def yl(hu:X.A.units+64<L4):DM X (Ic .Eq) (zM X.K):=by
 intro pins s σ H x y v u Q I rx ry h;w_up;obtain⟨d,e,hd,he,sd,se,q⟩:=h;obtain⟨as,r1⟩:=Dp.reads I d x v hd rx;obtain⟨bs,r2⟩:=Dp.reads I e y u he ry;fin2;exact SeqAt.compareEq_shaped r1 r2 sd se hu ⟨.bl _,H,I,rfl,q⟩
end
abbrev pW(h:B5)(c:A0)(v:Option A5):Prop:=h.IsCell c v
def aqy(scope sc:G3):G3:=
 {scope with names:=scope.names.map λ(n,k)=>if(k==.free&&sc.kind==.function&&sc.names.lookup n==some .cell)then(n,.cell)else(n,k)}
def DN(cells:List (Str×A0)):List (Str×Ga)->List (Str×A0)->List (Str×A0)
 |[],acc=>acc
 |(n,k)::r,acc=>if k==.free then DN cells r ((n,(cells.lookup n).getD 0)::acc)else DN cells r acc
def rY(env:Env)(f:Str×Ga->List (Str×A0)->Sem (ForInStep (List (Str×A0))))
 (hf:∀n k c,f (n,k) c=if k==.free then(do let a<-cellOf env n;pure (.yield ((n,a)::c)))else pure (.yield c)):
 ∀(names:List (Str×Ga))(acc:List (Str×A0)),(∀y∈names,y.2=.free->∃c,env.cells.lookup y.1=some c)->forIn names acc f=pure (DN env.cells names acc)
 |[],acc,_=>by rw[Yk];rfl
 |(n,k)::r,acc,h=>by
  rw[oQ,hf];have ih:=λacc=>rY env f hf r acc λy hy=>h y (Ba _ hy);unfold DN;by_cases hk:(k==Ra)=true
  .rw[if_pos hk,if_pos hk];obtain⟨c,hc⟩:=h (n,k) Bu (by simpa using hk);have e:cellOf env n=pure c:=by unfold cellOf;rw[hc]
   rw[e];have e2:(env.cells.lookup n).getD 0=c:=by rw[hc];rfl
   rw[e2];exact ih _
  .rw[if_neg hk,if_neg hk];exact ih _
def rZ(h:∀y∈scope.names,y.2=.free->∃c,env.cells.lookup y.1=some c):closureFor scope env=pure (DN env.cells scope.names []):=by
 simp only[closureFor];rw[rY env _ (λn k c=>rfl) scope.names [] h];rfl
def mem_lookup:∀{l:List (Str×α)}{n:Str}{c:α},(n,c)∈l->∃c',l.lookup n=some c'
 |(k,v)::r,n,c,h=>by
  rw[P8];cases hb:n==k with
  |true=>exact⟨_,rfl⟩
  |false=>
   rcases B2.mp h with e|h
   .cases e;simp at hb
   .exact mem_lookup h
def az:∀{names:List (Str×Ga)}{acc:List (Str×A0)}{n:Str}{c:A0},(n,c)∈DN cells names acc->(n,c)∈acc\/((n,.free)∈names/\c=(cells.lookup n).getD 0)
 |[],_,_,_,h=> .inl h
 |(m,k)::r,acc,n,c,h=>by
  unfold DN at h;split at h
  .rename_i hk;have hk:k=.free:=by simpa using hk
   rcases az h with h|⟨h1,h2⟩
   .rcases B2.mp h with e|h
    .cases e;exact .inr ⟨hk▸Bu,rfl⟩
    .exact .inl h
   .exact .inr ⟨Ba _ h1,h2⟩
  .rcases az h with h|⟨h1,h2⟩
   .exact .inl h
   .exact .inr ⟨Ba _ h1,h2⟩
def fV:∀{names:List (Str×Ga)}{acc:List (Str×A0)}{p:Str×A0},p∈acc->p∈DN cells names acc
 |[],_,_,h=>h
 |(m,k)::r,acc,p,h=>by
  unfold DN;split
  .exact fV (Ba _ h)
  .exact fV h
def fW:∀{names:List (Str×Ga)}{acc:List (Str×A0)}{n:Str},(n,.free)∈names->(n,(cells.lookup n).getD 0)∈DN cells names acc
 |(m,k)::r,acc,n,h=>by
  unfold DN;rcases B2.mp h with e|h
  .cases e;exact fV Bu
  .split
   .exact fW h
   .exact fW h
def Um:∀{names:List (Str×Ga)}{h:B5}{acc:List (Str×A0)}{x:Str}{c:A0},(x,c)∈DK h.objs.size names acc->
 (x,c)∈acc\/((x,.cell)∈names/\h.objs.size<=c/\pW (L1 h names) c none)
 |[],_,_,_,_,h=> .inl h
 |(n,k)::r,h,acc,x,c,hm=>by
  unfold DK at hm;unfold L1;split at hm
  .rename_i hk;rw[if_pos hk];have hk:k=.cell:=by simpa using hk
   rw[<-FG h {cls:=.type "cell",data:=.cell none}]at hm;rcases Um hm with hm|⟨h1,h2,h3⟩
   .rcases B2.mp hm with e|hm
    .cases e;exact .inr ⟨hk▸Bu,Az _,_,UJ r _ _ _ (C_ _ rfl),rfl⟩
    .exact .inl hm
   .rw[FG]at h2;exact .inr ⟨Ba _ h1,Yb h2,h3⟩
  .rename_i hk;rw[if_neg hk];rcases Um hm with hm|⟨h1,h2,h3⟩
   .exact .inl hm
   .exact .inr ⟨Ba _ h1,h2,h3⟩
def ay:∀{names:List (Str×Ga)}{n:Nat}{acc:List (Str×A0)}{p:Str×A0},p∈acc->p∈DK n names acc
 |[],_,_,_,h=>h
 |(m,k)::r,n,acc,p,h=>by
  unfold DK;split
  .exact ay (Ba _ h)
  .exact ay h
def fQ:∀{names:List (Str×Ga)}{n:Nat}{acc:List (Str×A0)}{x:Str},(x,.cell)∈names->∃c,(x,c)∈DK n names acc
 |(m,k)::r,n,acc,x,h=>by
  unfold DK;rcases B2.mp h with e|h
  .cases e;exact⟨n,ay Bu⟩
  .split
   .exact fQ h
   .exact fQ h
def fR:∀{names:List (Str×Ga)}{h:B5}{acc:List (Str×A0)}{x y:Str}{c:A0},(∀p∈acc,p.2<h.objs.size)->(∀x y c,(x,c)∈acc->(y,c)∈acc->x=y)->
 (x,c)∈DK h.objs.size names acc->(y,c)∈DK h.objs.size names acc->x=y
 |[],_,_,_,_,_,_,hi,h1,h2=>hi _ _ _ h1 h2
 |(n,k)::r,h,acc,x,y,c,hl,hi,h1,h2=>by
  unfold DK at h1 h2;split at h1
  .rename_i hk;rw[if_pos hk]at h2;rw[<-FG h {cls:=.type "cell",data:=.cell none}]at h1 h2;refine fR (h:=h.push _) (λp hp=>?_) (λx y c a b=>?_) h1 h2
   .rw[FG];rcases B2.mp hp with rfl|hp
    .exact RR _
    .exact Yc (hl p hp)
   .rcases B2.mp a with e|a<;>rcases B2.mp b with e'|b
    .cases e;cases e';rfl
    .cases e;exact absurd (hl _ b) (GR _)
    .cases e';exact absurd (hl _ a) (GR _)
    .exact hi _ _ _ a b
  .rename_i hk;rw[if_neg hk]at h2;exact fR hl hi h1 h2
def wq{closure:List (Str×A0)}{qual:Str}{func:Option A0}{code:A5}{around:Env}{builtins:A0}{Q:Env->AA->Prop}
 (h:Q (newEnv scope s.heap.objs.size globals (DK (s.heap.objs.size+1) scope.names closure) qual func code (some around) builtins)
  {s with heap:=L1 (s.heap.push {cls:=.type "dict",data:=.dict #[]}) scope.names}):
 AJ M A (newFunctionEnv scope globals closure [] qual func code (some around) builtins) Q E s:=by
 simp only[newFunctionEnv,aeC,if_true];refine AN (wpAny_alloc ?_);refine AN (wpAny_layCells _ (λn k c=>rfl) scope.names closure _ _ ?_);rw[show({s with heap:=s.heap.push {cls:=.type "dict",data:=.dict #[]}}:AA).heap.objs.size=s.heap.objs.size+1 from FG ..];rw[Yk];exact AN (BN (BN h))
def j9{sc:G3}:∀{names:List (Str×Ga)}{x:Str}{k:Ga},
 (names.map λ(n,k)=>if(k==Ra&&sc.kind==.function&&sc.names.lookup n==some .cell)then(n,oa)else(n,k)).lookup x=some k->
 ∃k',names.lookup x=some k'/\(k=k'\/(k'=.free/\k=.cell))
 |[],_,_,h=>by simp at h
 |(n,Vv)::r,x,k,h=>by
  have ih:=@j9 sc r x k;have h':Nf x ((if(Vv==Ra&&sc.kind==.function&&sc.names.lookup n==some .cell)=true then(n,oa)else(n,Vv))::(r.map _))=some k:=h;cases hx:x==n with
  |true=>
   simp only[P8,hx];by_cases hc:(Vv==Ra&&sc.kind==.function&&sc.names.lookup n==some .cell)=true
   .rw[if_pos hc]at h';simp only[P8,hx]at h';cases h';simp only[CH,beq_iff_eq]at hc;exact⟨Vv,rfl,.inr ⟨hc.1.1,rfl⟩⟩
   .rw[if_neg hc]at h';simp only[P8,hx]at h';cases h';exact⟨_,rfl,.inl rfl⟩
  |false=>
   simp only[P8,hx];by_cases hc:(Vv==Ra&&sc.kind==.function&&sc.names.lookup n==some .cell)=true
   .rw[if_pos hc]at h';simp only[P8,hx]at h';exact ih h'
   .rw[if_neg hc]at h';simp only[P8,hx]at h';exact ih h'
structure OK(N:List Str)(sc scope:G3)(own:List (Str×Nat)):Prop where
 kind:scope.kind=.function
 uniq:∀y∈scope.names,scope.names.lookup y.1=some y.2
 ix:∀p∈own,N[p.2]? =some p.1
 free:∀y∈scope.names,y.2=.free->sc.names.lookup y.1=some .cell\/sc.names.lookup y.1=some .free
 own:∀y∈scope.names,y.2=.local\/y.2=.cell->y.1∈own.map (·.1)\/y.1∉N
def wipe(σ:St):List Nat->St
 |[]=>σ
 |v::vs=>(wipe σ vs).set v none
def XE(σ:St):∀vs:List Nat,(wipe σ vs).length=σ.length
 |[]=>rfl
 |v::vs=>by unfold wipe;rw[Z8,XE σ vs]
def XF:∀{vs:List Nat},(wipe σ vs)[i]? =some (some x)->σ[i]? =some (some x)/\i∉vs
 |[],h=>⟨h,by simp⟩
 |v::vs,h=>by
  unfold wipe at h;by_cases hi:v=i
  .subst hi;by_cases hv:v<(wipe σ vs).length
   .rw[Tw hv]at h;cases h
   .rw[U7 (by simpa using hv)]at h;cases h
  .rw[UA hi]at h;obtain⟨h1,h2⟩:=XF h;exact⟨h1,by simp only[B2,not_or];exact⟨λe=>hi e.symm,h2⟩⟩
abbrev Cx.CO(X:Cx)(s:AA)(H:Hp)(scope:G3)(CU:Env)(fp:List A0):Cx:={X with EV:=s,MH:=H,env:=CU,outer:=X.stack,ex:=fp,fn:=λx=>scope.names.lookup x==some .cell,pn:=[],xe:=λ_ _=>False}
section
variable{X:Cx}{pins:List (A0×Obj)}{σ:St}{H:Hp}{s:AA}
def qF{scope:G3}(I:Inv X pins σ H s)(ok:OK X.N X.env.scope scope own)(hN:X.N.Nodup)(MY:∀b∈fp,Dj X pins H b/\b<s.heap.objs.size):
 Inv (X.CO s H scope (D6 scope (DK (s.heap.objs.size+1) scope.names (DN X.env.cells scope.names [])) s.heap.objs.size X.env) fp) [] (wipe σ (own.map (·.2))) H {s with heap:=L1 (s.heap.push {cls:=.type "dict",data:=.dict #[]}) scope.names}:=by
 have OE:∀y∈scope.names,y.2=.free->∃c,X.env.cells.lookup y.1=some c:=λy hy e=>by
  rcases ok.free y hy e with k|k
  .exact I.ok.has _ (.inl k)
  .exact I.ok.has _ (.inr k)
 generalize W2:D6 scope (DK (s.heap.objs.size+1) scope.names (DN X.env.cells scope.names [])) s.heap.objs.size X.env=CU;have kp:∀b o,s.heap.get? b=some o->(L1 (s.heap.push {cls:=.type "dict",data:=.dict #[]}) scope.names).get? b=some o:=λb o e=>UJ _ _ _ _ (BK _ e);have hL:CU.locals=s.heap.objs.size:=by rw[<-W2];rfl
 have OC:CU.cells=DK (s.heap.objs.size+1) scope.names (DN X.env.cells scope.names []):=by rw[<-W2];rfl
 have jR:CU.scope=aqy scope X.env.scope:=by rw[<-W2];rfl
 rw[<-FG s.heap {cls:=.type "dict",data:=.dict #[]}]at OC;have cm:∀{y c},(y,c)∈DN X.env.cells scope.names []->X.env.cells.lookup y=some c/\c<s.heap.objs.size:=λ{y c}hm=>by
  rcases az hm with hm|⟨h1,rfl⟩
  .cases hm
  .obtain⟨c,hc⟩:=OE _ h1 rfl;rw[hc];obtain⟨w,z⟩:=I.cell _ _ hc;exact⟨rfl,z.lt⟩
 have mem:∀{y c},CU.cells.lookup y=some c->(X.env.cells.lookup y=some c/\c<s.heap.objs.size)\/(s.heap.objs.size+1<=c/\pW (L1 (s.heap.push {cls:=.type "dict",data:=.dict #[]}) scope.names) c none):=λ{y c}e=>by
  rw[OC]at e;rcases Um (Gw e)with hm|⟨_,h2,h3⟩
  .exact .inl (cm hm)
  .rw[FG]at h2;exact .inr ⟨h2,h3⟩
 have look:∀{y},scope.names.lookup y=some .free->∃c,CU.cells.lookup y=some c/\X.env.cells.lookup y=some c:=λ{y}hl=>by
  have hy:(y,Ra)∈scope.names:=Gw hl;obtain⟨c',e'⟩:=mem_lookup (ay (names:=scope.names) (n:=(s.heap.push {cls:=.type "dict",data:=.dict #[]}).objs.size) (fW (cells:=X.env.cells) (acc:=[]) hy));rw[<-OC]at e';refine⟨c',e',?_⟩;rw[OC]at e';rcases Um (Gw e')with hm|⟨h1,_,_⟩
  .exact(cm hm).1
  .have:=ok.uniq _ h1;rw[hl]at this;cases this
 have okB:(X.CO s H scope CU fp).Ok:=by
  refine⟨I.ok.mod,by show CU.scope.kind=_;rw[jR];exact ok.kind,by show CU.globals=_;rw[<-W2];exact I.ok.glob,by show CU.builtins=_;rw[<-W2];exact I.ok.blt,by show s.heap.objs.size<=CU.locals;rw[hL];exact Az _,
   λy z c e1 e2=>?_,λy hy=>?_,λy c z e=>?_,I.ok.hd,I.ok.frames,.inl rfl,λb hb=>⟨?_,λy c e z=>?_⟩,I.bs,Ao I.ok.L9 I.sz,λb o e hb=>?_,λb hb z=>?_,I.stack,I.kj⟩
  .have e1:CU.cells.lookup y=some c:=e1;have e2:CU.cells.lookup z=some c:=e2;rw[OC]at e1 e2;refine fR (λp hp=>?_) (λy z c a b=>I.ok.inj y z c (cm a).1 (cm b).1) (Gw e1) (Gw e2);rw[FG];exact Yc (cm (y:=p.1) (c:=p.2) hp).2
  .show∃c,CU.cells.lookup y=some c;have key:∀k,CU.kindOf y=some k->(k=.cell\/k=.free)->∃c,CU.cells.lookup y=some c:=λk hk WE=>by
    unfold Env.kindOf at hk;rw[jR]at hk;obtain⟨k',e,r⟩:=j9 hk;have:k'=.cell\/k'=.free:=by
     rcases r with rfl|⟨rfl,_⟩
     .exact WE
     .exact .inr rfl
    rcases this with rfl|rfl
    .obtain⟨c,hm⟩:=fQ (n:=(s.heap.push {cls:=.type "dict",data:=.dict #[]}).objs.size) (acc:=DN X.env.cells scope.names []) (Gw e);obtain⟨c',e'⟩:=mem_lookup hm;exact⟨c',by rw[OC];exact e'⟩
    .obtain⟨c,h1,_⟩:=look e;exact⟨c,h1⟩
   rcases hy with hy|hy
   .exact key _ hy (.inl rfl)
   .exact key _ hy (.inr rfl)
  .have z:(scope.names.lookup y==some oa)=true:=z;have z:scope.names.lookup y=some .cell:=by simpa using z
   have e:CU.cells.lookup y=some c:=e;rw[OC]at e;rcases Um (Gw e)with hm|⟨_,h2,_⟩
   .rcases az hm with hm|⟨h1,_⟩
    .cases hm
    .have q:=ok.uniq _ h1;rw[z]at q;cases q
   .rw[FG]at h2;exact Yb h2
  .show b≠CU.locals;rw[hL];exact DU (MY b hb).2
  .have e:CU.cells.lookup y=some c:=e;rcases mem e with⟨h1,_⟩|⟨h1,_⟩
   .exact(MY b hb).1.2.2.2.2.1 y c h1 z
   .have h2:s.heap.objs.size+1<=b:=by rw[<-z];exact h1
    exact absurd (CT (MY b hb).2 (Yb h2)) (GR _)
  .rcases(MY b hb).1.2.2.2.1 with z|z
   .exact I.ok.QU b o e z
   .rw[(I.ok.bs b o e).1]at z;cases z
  .rcases B2.mp (I.Xi b z)with z|z
   .exact(MY b hb).1.2.1 z
   .exact(MY b hb).1.2.2.1 z
 refine⟨okB,rfl,I.bare,Un.kept kp,⟨λ_=>none,?_,λi y av e1 e2 e3=>?_⟩,λy c e=>?_,?_,λy c e=>?_,λp hp=>?_,I.AZ.kept kp,by rw[XE];exact I.len⟩
 .show Heap.Ns _ CU.locals _;rw[hL];exact Heap.Ns.keeps (Heap.Ns.new ..) λb o e=>UJ _ _ _ _ e
 .obtain⟨e2,Bx⟩:=XF e2;have DP:scope.names.lookup y=some .free/\(CU.kindOf y=some .cell\/CU.kindOf y=some .free):=by
   have key:∀k,CU.scope.names.lookup y=some k->k=.local\/k=.cell\/k=.free->scope.names.lookup y=some .free/\(CU.kindOf y=some .cell\/CU.kindOf y=some .free):=λk hk WE=>by
    have sZ:=hk;rw[jR]at hk;obtain⟨k',e,r⟩:=j9 hk;have no:¬(k'=.local\/k'=.cell):=λhh=>by
     rcases ok.own _ (Gw e) hh with e'|e'
     .obtain⟨p,hp,DF⟩:=Ca.mp e';have e3:=ok.ix p hp;have:p.1=y:=DF;rw[this]at e3;exact Bx (Ca.mpr ⟨p,hp,kR hN e3 e1⟩)
     .exact e' (DS e1)
    rcases r with rfl|⟨rfl,rfl⟩
    .rcases WE with rfl|rfl|rfl
     .exact absurd (.inl rfl) no
     .exact absurd (.inr rfl) no
     .exact⟨e,.inr sZ⟩
    .exact⟨e,.inl sZ⟩
   have e3:Ny CU.scope y:=e3;rcases e3 with e3|e3|e3
   .exact key _ e3 (.inl rfl)
   .exact key _ e3 (.inr (.inl rfl))
   .exact key _ e3 (.inr (.inr rfl))
  obtain⟨m,hn,hl⟩:=I.loc;have am2:Ny X.env.scope y:=(ok.free _ (Gw DP.1) rfl).elim (λk=> .inr (.inl k)) (λk=> .inr (.inr k));obtain⟨w,r,q⟩:=hl i y av e1 e2 am2;refine⟨w,r,.inr ⟨DP.2,?_⟩⟩;obtain⟨c,h1,h2⟩:=look DP.1;rcases q with⟨k,_⟩|⟨_,c',e',z⟩
  .have k:X.env.scope.names.lookup y=some .local:=k;rcases ok.free _ (Gw DP.1) rfl with k'|k'<;>rw[show X.env.scope.names.lookup y=_ from k']at k<;>cases k
  .rw[h2]at e';cases e';exact⟨c,h1,z.keeps kp⟩
 .have e:CU.cells.lookup y=some c:=e;rcases mem e with⟨h1,_⟩|⟨_,z⟩
  .obtain⟨w,z⟩:=I.cell y c h1;exact⟨w,z.keeps kp⟩
  .exact⟨_,z⟩
 .show H CU.locals=none;rw[hL];exact I.AZ.fresh (Az _)
 .have e:CU.cells.lookup y=some c:=e;rcases mem e with⟨h1,_⟩|⟨h1,_⟩
  .exact I.G8 y c h1
  .exact I.AZ.fresh (Yb h1)
 .exact absurd (show p∈([]:List (A0×Obj))++[]from hp) (by simp)
def qi(I:Inv X pins σ H s)(hD:H D=some (.lst xs))(hz:xs.length<Al)(r:RelV y v)
 (h:∀s',Inv X pins σ (upd H D (.lst (xs++[y]))) s'->Q .none s'):AJ (AU X.prog X.w) X.A (HQ (.builtin "list.append") [.ref D,v]) Q E s:=by
 obtain⟨hz',its,n,ri,e⟩:=I.AZ D _ hD;have hl:=ri.length;refine append_at (hsz:=by rw[DH];omega) e λh' sb JX=>?_;refine h {s with heap:=h'} (I.write (t':=s.toks) (by rw[hD];trivial) (.inl rfl) (λb u hb q=>(sb.2 b hb).trans q) ⟨_,JX⟩ ⟨by rw[Bo];exact hz,its++[v],n+1,ri.append (.cons r .nil),?_⟩);rw[JX];simp
def Pp(X:Cx)(ifs:List B7)(t:TT):Prop:=
 ∀(pins:List (A0×Obj))(s:AA)(σ:St)(H:Hp)(Q:Bool->Hp->Prop),Inv X pins σ H s->t σ H Q->
  AJ (AU X.prog X.w) X.A (forIn ifs true λc r=>if r=true then do let ok<-Ru c X.env (As c X.env);pure (Z9 ok)else pure (Z9 r)) (TP X pins σ Q) X.xe s
def Oi:TT:=λ_ H Q=>Q true H
def Cg:Pp X [] Oi:=λ_ _ _ H _ I h=>wpAny_tests_nil ⟨H,I,h⟩
end
def Ka(h:AJ M A t Q (λ_ _=>False) s)(hQ:∀a s,Q a s->Q' a s):AJ M A t Q' E s:=GY h hQ λ_ _ z=>Hw z
def r_(I:Nat->AA->Prop)
 (turn:∀n s,I n s->AJ (AU prog w) A (JG it) (λr Bz=>match r with
  |none=>R (.ok .next) Bz
  |some v=>AJ (AU prog w) A (Z7 target it v) (λ_ abj=>AJ (AU prog w) A (M8 target env v) (λ_ Ef=>
   AJ (AU prog w) A (forIn ifs true λc r=>if r=true then do let ok<-Ru c env (As c env);pure (Z9 ok)else pure (Z9 r)) (λok Oh=>
    if ok=true then AJ (AU prog w) A (As elt env) (λx abk=>
     AJ (AU prog w) A (HQ (.builtin "list.append") [acc,x]) (λ_ abl=>∃m,m<n/\I m abl) (Pg (AU prog w) A env λe s'=>R (.error e) s') abk) (Pg (AU prog w) A env λe s'=>R (.error e) s') Oh
    else∃m,m<n/\I m Oh) (Pg (AU prog w) A env λe s'=>R (.error e) s') Ef) (Pg (AU prog w) A env λe s'=>R (.error e) s') abj) (Pg (AU prog w) A env λe s'=>R (.error e) s') Bz) (Pg (AU prog w) A env λe s'=>R (.error e) s') s)
 (n:Nat)(h:I n s):
 JF (AU prog w) A (.compLoop (.ListComp elt [⟨target,iter,ifs,0⟩] scope pos) 0 it acc env) R s:=by
 refine codeAny_loop rfl I (λn s hI=>?_) n h;show AJ _ A ((compTurn (.ListComp elt [⟨target,iter,ifs,0⟩] scope pos) 0 it acc env).onRaise (λx=>do Rl x env;theTreesLotGoes x)) _ _ s;refine wpAny_noted ?_;rw[compTurn_list];refine AN (ZL (AN (GY (turn n s hI) (λr Bz Ox=>?_) λ_ _ h'=>h')));cases r with
 |none=>exact BN Ox
 |some v=>
  refine AN (GY Ox (λ_ abj am5=>?_) λ_ _ h'=>h');refine AN (GY am5 (λ_ Ef NJ=>AN (GY NJ (λok Oh NK=>?_) λ_ _ h'=>h')) λ_ _ h'=>h');cases ok with
  |false=>exact BN ⟨rfl,NK⟩
  |true=>
   exact AN (AN (GY NK (λx abk ik=>AN (GY ik (λ_ abl cn=>BN (BN ⟨rfl,cn⟩)) λ_ _ h'=>h')) λ_ _ h'=>h'))
section
variable{X:Cx}
def N0(wi:TI)(g:TG)(tt:TT)(te:TE)(vs:List Nat):TE:=λσ H Q=>wi σ H λJ H1=>∀D,H1 D=none->∃W:Nat->Nat->Hp->Prop,(∃m,W 0 m (upd H1 D (.lst [])))/\∀i m H,W i m H->
 (J.stop i H/\Q (.ref D) H)\/(J.go i H/\∃Nx:Hp->Prop,(∀H',Nx H'->∃m',m'<m/\W (i+1) m' H')/\∀x H',J.FA i H x H'->g x (wipe σ vs) H' λKg H2=>wipe Kg vs=wipe σ vs/\tt Kg H2 λb H3=>
  if b=true then te Kg H3 λy H4=>∃acc,H4 D=some (.lst acc)/\acc.length<Al/\Nx (upd H4 D (.lst (acc++[y])))else Nx H3)
def wJ{own:List (Str×Nat)}{pos pos':Pos}{wi:TI}{g:TG}{tt:TT}{te:TE}{use:Option (A5->Sem Unit)}{Qf:A5->AA->Prop}
 (hc:X.calm=true)(hN:X.N.Nodup)(I:Inv X pins σ H s)(hi:PI X tg iter wi)(ok:OK X.N X.env.scope scope own)
 (hg:∀(s:AA)(H:Hp)(C:A0)(cl:List (Str×A0))(fp:List A0),PG (X.CO s H scope (D6 scope cl C X.env) fp) tg g)(ht:∀(s:AA)(H:Hp)(C:A0)(cl:List (Str×A0))(fp:List A0),Pp (X.CO s H scope (D6 scope cl C X.env) fp) ifs tt)
 (he:∀(s:AA)(H:Hp)(C:A0)(cl:List (Str×A0))(fp:List A0),PE (X.CO s H scope (D6 scope cl C X.env) fp) elt te)(hs:∀x,PF iter X.env x=pure x)
 (h:N0 wi g tt te (own.map (·.2)) σ H Q)
 (iM:∀D C s' m H',Inv X pins σ H' s'->Q (.ref D) H'->s'.heap.Ns C m->Dj X pins H' C->Pe (AU X.prog X.w) X.A X.xe use Qf (.ref D) C (.ok .next) s'):
 AJ (AU X.prog X.w) X.A (ZG (.ListComp elt [⟨tg,iter,ifs,0⟩] scope pos) scope X.env pos' (newList []) false (As iter X.env) use) Qf X.xe s:=by
 have OE:∀y∈scope.names,y.2=.free->∃c,X.env.cells.lookup y.1=some c:=λy hy e=>by
  rcases ok.free y hy e with k|k
  .exact I.ok.has _ (.inl k)
  .exact I.ok.has _ (.inr k)
 refine adG (use:=use) rfl hs (rZ OE) ok.kind (λy hy e=>by rw[ok.uniq y hy,e])
  (Be (hi pins s σ H _ I h) λxv s1 hx=>Be hx λbX s2 h2=>?_)
 w_up;obtain⟨it,fp,tn,J,H2,e,I2,T,Li,f2,q⟩:=h2;fin2;subst e;refine Yd (wq ?_) (by show 0<=Al;decide);generalize hD:s2.heap.objs.size=D;have iH:H2 D=none:=I2.AZ.fresh (Kq hD);w_up;obtain⟨W,⟨m0,w0⟩,turn⟩:=q D iH;fin2;generalize Vf:({s2 with heap:=s2.heap.push {cls:=.type "list",data:=.seq ([]:List A5).toArray}}:AA)=s3;have I3:Inv X pins σ (upd H2 D (.lst [])) s3:=by
  rw[<-Vf];refine I2.laid (t':=s2.toks) (λb o e=>BK _ e) (Kq hD) ⟨Er _,[],0,.nil,?_⟩;rw[<-hD];exact C_ _ rfl
 have h3:s3.heap=s2.heap.push {cls:=.type "list",data:=.seq ([]:List A5).toArray}:=by rw[<-Vf]
 have sz:∀b∈fp,b<s2.heap.objs.size:=λb hb=>by
  w_up;obtain⟨o,e,_⟩:=T.obj _ _ Li b hb;fin2;exact BZ e
 have f3:∀b∈fp,Dj X pins (upd H2 D (.lst [])) b/\b<s3.heap.objs.size:=λb hb=>by
  have B3:=sz b hb;refine⟨⟨?_,(f2 b hb).2⟩,by rw[h3,FG];exact Yc B3⟩;rw[AY (by rw[<-hD];exact DU B3)];exact(f2 b hb).1
 have Tj:tn 0 s3.heap:=T.keep _ _ _ Li λb _ o e=>by rw[h3];exact BK _ e
 have I4:=qF I3 ok hN f3;have pg:=hg s3 (upd H2 D (.lst [])) s3.heap.objs.size (DK (s3.heap.objs.size+1) scope.names (DN X.env.cells scope.names [])) fp;have pt:=ht s3 (upd H2 D (.lst [])) s3.heap.objs.size (DK (s3.heap.objs.size+1) scope.names (DN X.env.cells scope.names [])) fp;have pe:=he s3 (upd H2 D (.lst [])) s3.heap.objs.size (DK (s3.heap.objs.size+1) scope.names (DN X.env.cells scope.names [])) fp;show JF _ _ (.compStart (.ListComp elt [⟨tg,iter,ifs,0⟩] scope pos) 0 (.ref it) (.ref D) (D6 scope (DK (s3.heap.objs.size+1) scope.names (DN X.env.cells scope.names [])) s3.heap.objs.size X.env)) (Pe (AU X.prog X.w) X.A X.xe use Qf (.ref D) s3.heap.objs.size) {s3 with heap:=L1 (s3.heap.push {cls:=.type "dict",data:=.dict #[]}) scope.names};have Vx:∀b∈fp,(upd H2 D (.lst [])) b=none:=λb hb=>(f3 b hb).1.1;generalize Pm:D6 scope (DK (s3.heap.objs.size+1) scope.names (DN X.env.cells scope.names [])) s3.heap.objs.size X.env=ce at I4 pg pt pe⊢;have cL:ce.locals=s3.heap.objs.size:=by subst Pm;rfl
 generalize aV:upd H2 D (.lst [])=H3 at I3 I4 pg pt pe w0 Vx f3;generalize jP:({s3 with heap:=L1 (s3.heap.push {cls:=.type "dict",data:=.dict #[]}) scope.names}:AA)=s4 at I4⊢;have Wy:tn 0 s4.heap:=T.keep _ _ _ Tj λb _ o e=>by rw[<-jP];exact UJ _ _ _ _ (BK _ e)
 have stat:∀{B1:St}{H':Hp}{s':AA},Inv (X.CO s3 H3 scope ce fp) [] B1 H' s'->(∀b∈fp,H' b=none)->∀b∈fp,Dj (X.CO s3 H3 scope ce fp) [] H' b:=λ{B1 H' s'}I' hn b hb=>
  ⟨hn b hb,(I'.ok.O3 b hb).1,I'.ok.O4 b hb,.inl hb,λx c e=>(I'.ok.O3 b hb).2 x c e,λp hp=>absurd (show p∈([]:List (A0×Obj))++[]from hp) (by simp)⟩
 have loop:JF (AU X.prog X.w) X.A (.compLoop (.ListComp elt [⟨tg,iter,ifs,0⟩] scope pos) 0 (.ref it) (.ref D) ce) (Pe (AU X.prog X.w) X.A X.xe use Qf (.ref D) s3.heap.objs.size) s4:=by
  refine r_ (λn s'=>∃i H',Inv (X.CO s3 H3 scope ce fp) [] (wipe σ (own.map (·.2))) H' s'/\tn i s'.heap/\(∀b∈fp,H' b=none)/\W i n H') ?_ m0 ⟨0,H3,I4,Wy,Vx,w0⟩;intro n s5 AG;w_up;obtain⟨i,H5,I5,My,n5,w5⟩:=AG;fin2;rcases turn i n H5 w5 with⟨stop,qq⟩|⟨go,Nx,iL,step⟩
  .have td:=T.done (X.CO s3 H3 scope ce fp) rfl rfl rfl hc i [] s5 _ H5 (λ_ _=>False) I5 (stat I5 n5) My stop;refine Ka td λr s6 AG=>?_;obtain⟨hr,I6⟩:=AG;subst hr;have I7:Inv X pins σ H5 s6:=I3.Uj (ch:=fp) I6.os I6.base I6.AZ I6.bare λb hb=>⟨(f3 b hb).1.2.2.2.1,(f3 b hb).1.2.1,(f3 b hb).1.2.2.2.2.1,(f3 b hb).1.2.2.2.2.2⟩;have nC:H5 s3.heap.objs.size=none:=by
    have z:H5 ce.locals=none:=I6.free;rw[cL]at z;exact z
   w_up;obtain⟨m,hn,_⟩:=I6.loc;fin2;have hn:s6.heap.Ns ce.locals m:=hn;rw[cL]at hn;exact iM D s3.heap.objs.size s6 m H5 I7 qq hn (I3.KJ (Az _) nC)
  .have ti:=T.item (X.CO s3 H3 scope ce fp) rfl rfl rfl hc i [] s5 _ H5 (λ_ _=>False) I5 (stat I5 n5) My go;refine Ka ti λr s6 EI=>?_;obtain⟨u,hr,h6⟩:=EI;subst hr;refine Ka h6 λ_ s7 Uh=>?_;obtain⟨x,H7,I7,r7,y7,Qj,n7⟩:=Uh;have dG:=I7.pinned (stat I7 n7) (T.obj _ _ Qj);refine Ka (pg _ s7 _ H7 x u _ dG r7 (step x H7 y7)) λ_ s8 Ui=>?_;obtain⟨Kj,H8,I8,Vn,q8⟩:=Ui;refine Ka (pt _ s8 Kj H8 _ I8 q8) λb s9 iE=>?_;obtain⟨H9,I9,q9⟩:=iE;have fin:∀{s':AA}{H':Hp},Inv (X.CO s3 H3 scope ce fp) ([]++K7 fp s7.heap) Kj H' s'->Nx H'->∃m,m<n/\∃i H',Inv (X.CO s3 H3 scope ce fp) [] (wipe σ (own.map (·.2))) H' s'/\tn i s'.heap/\(∀b∈fp,H' b=none)/\W i m H':=λ{s' H'}I' nx=>by
    w_up;obtain⟨m',hm,w'⟩:=iL H' nx;fin2;have WV:∀b∈fp,∀o,s7.heap.get? b=some o->s'.heap.get? b=some o/\H' b=none:=λb hb o e=>
     let z:=I'.pin (b,o) (Jl _ (Jl _ (VW hb e)))
     ⟨z.1,z.2.1⟩
    have hl:(wipe σ (own.map (·.2))).length=Kj.length:=by rw[<-Vn,XE]
    refine⟨m',hm,i+1,H',(I'.TC (pins:=[])).weak hl (λj v e=>?_),T.keep _ _ _ Qj λb hb o e=>(WV b hb o e).1,λb hb=>?_,w'⟩
    .rw[<-Vn]at e;exact(XF e).1
    .obtain⟨o,e,_⟩:=T.obj _ _ Qj b hb;exact(WV b hb o e).2
   cases b with
   |false=>
    simp only[NW,if_false]at q9⊢;exact fin I9 q9
   |true=>
    simp only[if_true]at q9⊢;refine Ka (pe _ s9 Kj H9 _ I9 q9) λz lq ajH=>?_;obtain⟨yv,pZ,JP,k9,acc,iG,jZ,nx⟩:=ajH;exact qi (X:=X.CO s3 H3 scope ce fp) JP iG jZ k9 λs11 dF=>fin dF nx
 exact adD loop (T.self X.A 0 _ _ _ Wy loop)
def Q_(hc:X.calm=true)(hN:X.N.Nodup)(hi:PI X tg iter wi)(ok:OK X.N X.env.scope scope own)
 (hg:∀(s:AA)(H:Hp)(C:A0)(cl:List (Str×A0))(fp:List A0),PG (X.CO s H scope (D6 scope cl C X.env) fp) tg g)(ht:∀(s:AA)(H:Hp)(C:A0)(cl:List (Str×A0))(fp:List A0),Pp (X.CO s H scope (D6 scope cl C X.env) fp) ifs tt)
 (he:∀(s:AA)(H:Hp)(C:A0)(cl:List (Str×A0))(fp:List A0),PE (X.CO s H scope (D6 scope cl C X.env) fp) elt te)(hs:autoParam (∀x,PF iter X.env x=pure x) auI):
 PE X (.ListComp elt [⟨tg,iter,ifs,0⟩] scope pos) (N0 wi g tt te (own.map (·.2))):=by
 intro pins s σ H Q I h;rw[eval_ListComp];refine wJ hc hN I hi ok hg ht he hs h λD C s' m H' I' q hn f=>⟨m,hn,λFp sb=>?_⟩;obtain⟨f0,f1,f2,f3,f4,f5⟩:=f;exact⟨.ref D,H',I'.turned (t':=s'.toks) (λb o hb e=>(sb.2 b hb).trans e) f0 f1 f3 f4 f5,rfl,q⟩
def yR(hc:X.calm=true)(hN:X.N.Nodup)(hy:X.N[i]? =some y)(FK:X.env.scope.names.lookup y=some .local)
 (jS:M2 (.ListComp elt [⟨tg,iter,ifs,0⟩] scope pos) (some (.Name y py)) ki.line X.env=pure true)(hi:PI X tg iter wi)(ok:OK X.N X.env.scope scope own)
 (hg:∀(s:AA)(H:Hp)(C:A0)(cl:List (Str×A0))(fp:List A0),PG (X.CO s H scope (D6 scope cl C X.env) fp) tg g)(ht:∀(s:AA)(H:Hp)(C:A0)(cl:List (Str×A0))(fp:List A0),Pp (X.CO s H scope (D6 scope cl C X.env) fp) ifs tt)
 (he:∀(s:AA)(H:Hp)(C:A0)(cl:List (Str×A0))(fp:List A0),PE (X.CO s H scope (D6 scope cl C X.env) fp) elt te)(hs:autoParam (∀x,PF iter X.env x=pure x) auI):
 PS X (.Assign [.Name y py] (.ListComp elt [⟨tg,iter,ifs,0⟩] scope pos) ki) (X0 (N0 wi g tt te (own.map (·.2))) (DD i)):=by
 intro pins s σ H D I h;rw[adW _ _ _ _ jS];refine AN (ZL (AN ?_));show AJ _ X.A (do let _<-ZG (.ListComp elt [⟨tg,iter,ifs,0⟩] scope pos) scope X.env (firstIterPos [⟨tg,iter,ifs,0⟩] pos) (newList []) false (As iter X.env) (some (M8 (.Name y py) X.env))) _ _ s;have h:N0 wi g tt te (own.map (·.2)) σ H (λx H1=>DD i x σ H1 D.nx):=h;refine AN (Be (wJ (Qf:=λ_ s'=>SP X pins D .next s') hc hN I hi ok hg ht he hs h λL C s' m H' I' q hn f=>?_) λ_ s' hq=>BN (BN hq));show AJ _ _ (M8 (.Name y py) X.env (.ref L)) _ _ _;refine oE (lJ (v:=V.ref L) I' hN hy (.inl FK) rfl (λs2 I2 AG=>?_) (.inr FK));obtain⟨a,sb,ha⟩:=AG;w_up;obtain⟨f0,f1,f2,f3,f4,f5⟩:=f;fin2;have iQ:C≠a:=by
  rcases ha with z|z
  .rw[z];exact f1
  .exact λe=>f4 y a z e.symm
 refine⟨m,hn.sameBut sb iQ,λh3 kq=>?_⟩;exact⟨_,H',I2.turned (t':=s2.toks) (λb o hb e=>(kq.2 b hb).trans e) f0 f1 f3 f4 f5,q⟩
def T8(hk:env.scope.kind=.function)(hy:env.scope.names.lookup y=some .local)(hl:(py.line==pos.line)=true)
 (ha:(scope.names.any λ(n,k)=>n==y&&(k==.local||k==.cell))=false):M2 (.ListComp elt gs scope pos) (some (.Name y py)) l env=pure true:=by
 have ky:env.kindOf y=some .local:=hy;have hb:env.blockKind=.function:=by unfold Env.blockKind;rw[hk];rfl
 unfold M2;have e1:(Expr.ListComp elt gs scope pos).pos=pos:=rfl;simp only[hb,ky,ha,e1,hl];rfl
end
def qE(N:List Str)(sc scope:G3)(own:List (Str×Nat)):Bool:=
 (match scope.kind with| .function=>true|_=>false)&&(scope.names.all λy=>decide (scope.names.lookup y.1=some y.2))&&(own.all λp=>decide (N[p.2]? =some p.1))&&
  (scope.names.all λy=>match y.2 with
   | .free=>(match sc.names.lookup y.1 with|some .cell=>true|some .free=>true|_=>false)
   | .local=>decide (y.1∈own.map (·.1))||decide (y.1∉N)
   | .cell=>decide (y.1∈own.map (·.1))||decide (y.1∉N)
   |_=>true)
def Ck(h:qE N sc scope own=true):OK N sc scope own:=by
 unfold qE at h;simp only[CH,EY,decide_eq_true_eq]at h;obtain⟨⟨⟨h1,h2⟩,h3⟩,h4⟩:=h;refine⟨?_,h2,h3,λy hy e=>?_,λy hy e=>?_⟩
 .cases e:scope.kind<;>rw[e]at h1<;>first|rfl|cases h1
 .have q:=h4 y hy;simp only[e]at q;split at q<;>first|exact .inl (by assumption)|exact .inr (by assumption)|cases q
 .have q:=h4 y hy;rcases e with e|e<;>(simp only[e,RT,decide_eq_true_eq]at q;exact q)
section
variable{κ:Type}[DecidableEq κ]
def DA(A9:List (κ×V))(k:κ):Option V:=(A9.find? λkv=>decide (kv.1=k)).map (·.2)
def putK(A9:List (κ×V))(k:κ)(v:V):List (κ×V):=
 if(A9.any λkv=>decide (kv.1=k))=true then A9.map (λkv=>if kv.1=k then(kv.1,v)else kv)else A9++[(k,v)]
def awz(A9:List (κ×V))(k:κ):List (κ×V):=A9.filter λkv=>decide (kv.1≠k)
def atu:DA ([]:List (κ×V)) k=none:=rfl
def Kd{p:κ×V}(e:p.1=k):DA (p::r) k=some p.2:=by simp[DA,RU,e]
def Kc{p:κ×V}(e:¬p.1=k):DA (p::r) k=DA r k:=by simp[DA,RU,e]
def XD(k:κ):∀A9:List (κ×V),(A9.any λkv=>decide (kv.1=k))=(DA A9 k).isSome
 |[]=>rfl
 |p::r=>by
  rw[R_];by_cases e:p.1=k
  .simp only[Kd e,decide_eq_true e,Bool.true_or,aeC]
  .rw[Kc e,decide_eq_false e,Bool.false_or];exact XD k r
def acO(k j:κ)(y:V):∀A9:List (κ×V),DA (A9.map λkv=>if kv.1=k then(kv.1,y)else kv) j=(DA A9 j).map λx=>if j=k then y else x
 |[]=>rfl
 |p::r=>by
  have ih:=acO k j y r;rw[BW];by_cases h:p.1=k
  .rw[if_pos h];by_cases e:p.1=j
   .rw[Kd (p:=(p.1,y)) e,Kd e,Gy,if_pos (e.symm.trans h)]
   .rw[Kc (p:=(p.1,y)) e,Kc e,ih]
  .rw[if_neg h];by_cases e:p.1=j
   .rw[Kd (p:=p) e,Kd e,Gy,if_neg (λz=>h (e.trans z))]
   .rw[Kc (p:=p) e,Kc e,ih]
def acP(k j:κ)(y:V):∀A9:List (κ×V),DA A9 k=none->DA (A9++[(k,y)]) j=if j=k then some y else DA A9 j
 |[],_=>by
  by_cases e:k=j
  .rw[if_pos e.symm];exact Kd (p:=(k,y)) e
  .rw[if_neg (λz=>e z.symm)];exact Kc (p:=(k,y)) e
 |p::r,hn=>by
  rw[Yw];have hk:¬p.1=k:=λz=>by rw[Kd z]at hn;cases hn
  rw[Kc hk]at hn;have ih:=acP k j y r hn;by_cases e:p.1=j
  .rw[Kd e,Kd e,if_neg (λz=>hk (e.trans z))]
  .rw[Kc e,Kc e,ih]
def mf(A9:List (κ×V))(k j:κ)(y:V):DA (putK A9 k y) j=if j=k then some y else DA A9 j:=by
 unfold putK;by_cases a:(A9.any λkv=>decide (kv.1=k))=true
 .rw[if_pos a,acO];rw[XD]at a;by_cases e:j=k
  .obtain⟨x,hx⟩:=adE.mp a;rw[if_pos e,e,hx,Gy,if_pos rfl]
  .rw[if_neg e];cases DA A9 j with
   |none=>rfl
   |some x=>rw[Gy,if_neg e]
 .rw[if_neg a];refine acP k j y A9 ?_;rw[XD]at a;cases q:DA A9 k with
  |none=>rfl
  |some x=>rw[q]at a;exact(a rfl).elim
def j5(A9:List (κ×V))(k:κ)(v:V):(putK A9 k v).length<=A9.length+1:=by
 unfold putK;split
 .rw[AV];lia
 .rw[Bo,B4,Na];lia
def Gh.iq(r:Gh o u):o.isSome=u.isSome:=by
 cases o with
 |none=>cases u with
  |none=>rfl
  |some _=>exact(show False from r).elim
 |some _=>cases u with
  |none=>exact(show False from r).elim
  |some _=>rfl
def KV.val{A9:List (κ×V)}(r:KV A9 vs)(k:κ):Gh (DA A9 k) (Ph vs k):=by
 unfold KV at r;induction r with
 |nil=>exact Rb
 | @cons p q ps qs h t ih=>
  obtain⟨h1,h2⟩:=h;by_cases e:p.1=k
  .have e':q.1=k:=h1.symm.trans e;have b:Ph (q::qs) k=some q.2:=by simp[Ph,RU,e']
   rw[Kd e,b];exact h2
  .have e':¬q.1=k:=λz=>e (h1.trans z);have b:Ph (q::qs) k=Ph qs k:=by simp[Ph,RU,e']
   rw[Kc e,b];exact ih
def KV.any(r:KV A9 vs)(k:κ):(A9.any λkv=>decide (kv.1=k))=vs.any λkv=>decide (kv.1=k):=by
 unfold KV at r;induction r with
 |nil=>rfl
 |cons h t ih=>rw[R_,R_,ih,h.1]
def KV.lU(r:KV A9 vs)(k:κ)(ry:RelV y u):
 KV (A9.map λkv=>if kv.1=k then(kv.1,y)else kv) (vs.map λkv=>if kv.1=k then(kv.1,u)else kv):=by
 unfold KV at r⊢;induction r with
 |nil=>exact .nil
 | @cons p q ps qs h t ih=>
  rw[BW,BW];refine .cons ?_ ih;obtain⟨h1,h2⟩:=h;by_cases e:p.1=k
  .rw[if_pos e,if_pos (h1.symm.trans e)];exact⟨h1,ry⟩
  .rw[if_neg e,if_neg (λz=>e (h1.trans z))];exact⟨h1,h2⟩
def KV.put(r:KV A9 vs)(k:κ)(ry:RelV y u):KV (putK A9 k y) (stored vs k u):=by
 unfold putK stored;rw[r.any k];by_cases e:(vs.any λkv=>decide (kv.1=k))=true
 .rw[if_pos e,if_pos e];exact r.lU k ry
 .rw[if_neg e,if_neg e];exact afC r ⟨rfl,ry⟩
def KV.length(r:KV A9 vs):A9.length=vs.length:=ZK r
end
def Vt(r:RelV (kV k) u):(F7 P w).is k u=true:=by
 cases k with
 |inl i=>obtain⟨t,e⟩:=(show∃t,u=Rk i t from r);subst e;exact amm P w i t
 |inr x=>obtain⟨t,e⟩:=(show∃t,u=ZX x t from r);subst e;exact amn P w x t
def uG:∀{ks:List Key}{us:List A5},Ai (ks.map kV) us->ItemsAre (F7 P w) ks us
 |[],_,r=>by rw[Kr]at r;cases r;exact .nil
 |k::ks,_,r=>by
  rw[BW]at r;cases r with
  |cons h t=>exact .cons (Vt h) (uG t)
abbrev KT(H:Hp):List (List Key×V)->List (List Key×A0×A5)->Prop:=M7 λp q=>p.1=q.1/\H q.2.1=some (.tup (p.1.map kV))/\RelV p.2 q.2.2
def KT.val{H:Hp}(r:KT H A9 xs)(k:List Key):Gh (DA A9 k) ((M9 xs k).map (·.2)):=by
 induction r with
 |nil=>exact Rb
 | @cons p q ps qs h t ih=>
  obtain⟨h1,_,h2⟩:=h;by_cases e:p.1=k
  .have e':q.1=k:=h1.symm.trans e;have b:M9 (q::qs) k=some q.2:=by simp[M9,RU,e']
   rw[Kd e,b];exact h2
  .have e':¬q.1=k:=λz=>e (h1.trans z);have b:M9 (q::qs) k=M9 qs k:=by simp[M9,RU,e']
   rw[Kc e,b];exact ih
def KT.lU(r:KT H A9 xs)(k:List Key)(ry:RelV y u):
 KT H (A9.map λkv=>if kv.1=k then(kv.1,y)else kv) (xs.map (putAt k u)):=by
 induction r with
 |nil=>exact .nil
 | @cons p q ps qs h t ih=>
  rw[BW,BW];refine .cons ?_ ih;obtain⟨h1,h2,h3⟩:=h;unfold putAt;by_cases e:p.1=k
  .rw[if_pos e,if_pos (h1.symm.trans e)];exact⟨h1,h2,ry⟩
  .rw[if_neg e,if_neg (λz=>e (h1.trans z))];exact⟨h1,h2,h3⟩
def KT.put(r:KT H A9 xs)(k:List Key)(hb:H b=some (.tup (k.map kV)))(ry:RelV y u):
 KT H (putK A9 k y) (storedH xs k b u):=by
 have e:(A9.any λkv=>decide (kv.1=k))=(M9 xs k).isSome:=by
  rw[XD,(r.val k).iq,ady]
 unfold putK storedH;rw[e];by_cases q:(M9 xs k).isSome=true
 .rw[if_pos q,if_pos q];exact r.lU k ry
 .rw[if_neg q,if_neg q];exact afC r ⟨rfl,hb,ry⟩
def KT.keeps(r:KT H A9 xs)(ht:∀b ys,H b=some (.tup ys)->H' b=some (.tup ys)):KT H' A9 xs:=
 Paired.iX r λ_ _ z=>⟨z.1,ht _ _ z.2.1,z.2.2⟩
section
variable{P:Bs}{w:Bg}{H:Hp}{h:B5}{a:A0}
def zX(ok:Co P w H h)(e:Rd H a u):Dg P w H h a u:=e.ok ok
def bC(ok:Co P w H h)(e:Rd H a (.dK A9)):A9.length<=Al/\(a==Jv)=false/\∃vs,KV A9 vs/\h.DictOf (F7 P w) a vs:=
 show Dg P w H h a (.dK A9)from zX ok e
def age(ok:Co P w H h)(e:H a=some (.dK A9)):A9.length<=Al/\(a==Jv)=false/\∃vs,KV A9 vs/\h.DictOf (F7 P w) a vs:=bC ok (.inl e)
def bf(ok:Co P w H h)(e:H a=some (.tup (ks.map kV))):(UY (F7 P w)).is h ks a:=by
 w_up;obtain⟨_,its,r,o,h1,h2,n,h3⟩:=(show Dg P w H h a (.tup (ks.map kV))from ok a _ e);fin2;exact⟨o,its.toArray,n,h1,h2,h3,by simpa using uG r⟩
def bD(ok:Co P w H h)(e:Rd H a (.dT A9)):A9.length<=Al/\(a==Jv)=false/\
 ∃xs,KT H A9 xs/\h.DictOfH (UY (F7 P w)) a xs:=by
 w_up;obtain⟨z,y,xs,r,o,es,ep,h1,h2,h3,h4,h5⟩:=(show Dg P w H h a (.dT A9)from zX ok e);fin2;refine⟨z,y,xs,r,o,es,ep,h1,h2,h3,h4,λx hx=>?_,h5⟩;have all:∀{l:List (List Key×V)}{m:List (List Key×A0×A5)},KT H l m->∀x∈m,(UY (F7 P w)).is h x.1 x.2.1:=by
  intro l m q;induction q with
  |nil=>intro x hx;exact nomatch hx
  | @cons p q ps qs hq t ih=>
   intro x hx;rcases B2.mp hx with e|hx
   .subst e;exact bf ok (by rw[<-hq.1];exact hq.2.1)
   .exact ih x hx
 exact all r x hx
def agh(ok:Co P w H h)(e:H a=some (.dT A9)):A9.length<=Al/\(a==Jv)=false/\
 ∃xs,KT H A9 xs/\h.DictOfH (UY (F7 P w)) a xs:=bD ok (.inl e)
end
def HR(H:Hp)(a:A0)(y:V)(r:Option V):Prop:=
 (∃A9 k,Rd H a (.dK A9)/\y=kV k/\r=DA A9 k)\/∃A9 k b,Rd H a (.dT A9)/\y=.ref b/\H b=some (.tup (k.map kV))/\r=DA A9 k
def Sd(H:Hp)(a:A0)(y v:V)(H':Hp):Prop:=
 (∃A9 k,H a=some (.dK A9)/\y=kV k/\A9.length<Al/\H'=upd H a (.dK (putK A9 k v)))\/
 ∃A9 k b,H a=some (.dT A9)/\y=.ref b/\H b=some (.tup (k.map kV))/\A9.length<Al/\H'=upd H a (.dT (putK A9 k v))
def HR.k{A9:List (Key×V)}{k:Key}(e:H a=some (.dK A9)):HR H a (kV k) (DA A9 k):=.inl ⟨A9,k,.inl e,rfl,rfl⟩
def HR.t{A9:List (List Key×V)}{k:List Key}(e:H a=some (.dT A9))(eb:H b=some (.tup (k.map kV))):HR H a (.ref b) (DA A9 k):=.inr ⟨A9,k,b,.inl e,rfl,eb,rfl⟩
def Sd.t{A9:List (List Key×V)}{k:List Key}{v:V}(e:H a=some (.dT A9))(eb:H b=some (.tup (k.map kV)))(hl:A9.length<Al):
 Sd H a (.ref b) v (upd H a (.dT (putK A9 k v))):=.inr ⟨A9,k,b,e,rfl,eb,hl,rfl⟩
section
variable{X:Cx}{pins:List (A0×Obj)}{σ:St}{H:Hp}{s:AA}{a:A0}{y v:V}{u r:A5}{o:Option V}{A:CB}{E:A5->AA->Prop}
def Inv.px(I:Inv X pins σ H s):Jv<s.heap.objs.size:=by
 have h:UT<s.heap.objs.size:=(I.mod.glob.keeps I.bk).lt;exact Jr (by decide) h
def ahG(hu:A.units+1<L4)(I:Inv X pins σ H s)(g:HR H a y (some v))(ry:RelV y u)(h:∀w' s',Inv X pins σ H s'->RelV v w'->Q w' s'):
 AJ (AU X.prog X.w) A (Rr (.ref a) u) Q E s:=by
 rcases g with⟨A9,k,e,ey,l⟩|⟨A9,k,b,e,ey,eb,l⟩
 .subst ey;w_up;obtain⟨z,hd,vs,rel,dd⟩:=bC I.AZ e;obtain⟨w',hw,Mu⟩:=Gh.some_of (v:=v) (o:=Ph vs k) (by rw[l];exact rel.val k);fin2;exact wpAny_getItem_of (Vt ry) dd.mapOf hw (h w' _ (I.tok _) Mu)
 .subst ey;cases(show u=Cc b from ry);w_up;obtain⟨z,hd,xs,rel,dd⟩:=bD I.AZ e;obtain⟨w',hw,Mu⟩:=Gh.some_of (v:=v) (o:=(M9 xs k).map (·.2)) (by rw[l];exact rel.val k);obtain⟨p,hp,An⟩:=nG.mp hw;fin2;refine wpAny_getItem_heap (nP hu) (bf I.AZ eb) dd hp ?_;rw[An];exact h w' _ (I.tok _) Mu
def ahH(hu:A.units+1<L4)(I:Inv X pins σ H s)(g:HR H a y o)(ry:RelV y u)(h:∀s',Inv X pins σ H s'->Q (.bool (!o.isSome)) s'):
 AJ (AU X.prog X.w) A (Ic .NotIn u (.ref a)) Q E s:=by
 rcases g with⟨A9,k,e,ey,l⟩|⟨A9,k,b,e,ey,eb,l⟩
 .subst ey;obtain⟨z,hd,vs,rel,dd⟩:=bC I.AZ e;refine wpAny_notIn_of (Vt ry) hd dd.mapOf ?_;rw[<-(rel.val k).iq,<-l];exact h _ (I.tok _)
 .subst ey;cases(show u=Cc b from ry);obtain⟨z,hd,xs,rel,dd⟩:=bD I.AZ e;refine wpAny_notIn_heap (nP hu) (bf I.AZ eb) hd dd ?_;have q:=(rel.val k).iq;rw[ady]at q;rw[<-q,<-l];exact h _ (I.tok _)
def rk(I:Inv X pins σ H s)(mu:OO (H a))(hs:UM a s.heap h')(he:∃q,h'.get? a=some q)(new:Dg X.prog X.w (upd H a ob) h' a ob):
 Inv X pins σ (upd H a ob) {s with heap:=h',toks:=t'}:=
 I.write (x:=a) (e:=a) mu (.inl rfl) (λb q hb z=>(hs.2 b hb).trans z) he new
def agd(z:A9.length<=Al)(hd:(a==Jv)=false)(rel:KV A9 vs)(dd:h'.DictOf (F7 P w) a vs):
 Dg P w H' h' a (.dK A9):=⟨z,hd,vs,rel,dd⟩
def ahI(hu:A.units+1<L4)(I:Inv X pins σ H s)(g:Sd H a y v H')(ry:RelV y u)(rv:RelV v r)(h:∀s',Inv X pins σ H' s'->Q () s'):
 AJ (AU X.prog X.w) A (setItem (.ref a) u r) Q E s:=by
 rcases g with⟨A9,k,e,ey,l,eH⟩|⟨A9,k,b,e,ey,eb,l,eH⟩
 .subst ey eH;w_up;obtain⟨z,hd,vs,rel,dd⟩:=age I.AZ e;fin2;have hz:vs.length<=Al:=by rw[<-rel.length];exact z
  have hl:(putK A9 k v).length<=Al:=by have:=j5 A9 k v;lia
  refine wpAny_setItem_pairs (hsz:=hz) (Vt ry) dd λh' Us hs=>h _ ?_;have he:∃q,h'.get? a=some q:=let⟨q,_,_,hq,_⟩:=Us;⟨q,hq⟩;exact rk I (by rw[e];exact Rb) hs he (agd hl hd (rel.put k rv) Us)
 .subst ey eH;cases(show u=Cc b from ry);w_up;obtain⟨z,hd,xs,rel,dd⟩:=agh I.AZ e;fin2;have hz:xs.length<=Al:=by rw[<-ZK rel];exact z
  have hl:(putK A9 k v).length<=Al:=by have:=j5 A9 k v;lia
  refine wpAny_setItem_heap (hsz:=hz) (nP hu) (bf I.AZ eb) dd λh' Us hs=>h _ ?_;w_up;obtain⟨q,es,ep,hq,h2,h3,h4,_,h5⟩:=Us;fin2;refine rk I (by rw[e];exact Rb) hs ⟨q,hq⟩ ⟨hl,hd,_,(rel.put k eb rv).keeps λc ys ec=>?_,q,es,ep,hq,h2,h3,h4,h5⟩;rw[AY (anl ec e (λz=>nomatch z))];exact ec
end
def qU(i:B7):Prop:=∀ov iv,ZO i false ov iv=operate [ov,iv] (Rr ov iv)
def auz{env:Env}{value slice:B7}{pos:Pos}{T id:String}{Q:A5->AA->Prop}
 (hl:pJ (.type T) "__getitem__"=pure (some (.builtin id)))(hs:qU slice)
 (h:AJ (AU prog w) A (As value env) (λo Bz=>AJ (AU prog w) A (As slice env) (λi Ef=>Ef.TypeIs o T/\AJ (AU prog w) A (Rr o i) Q E Ef) E Bz) E s):
 AJ (AU prog w) A (As (.Subscript value slice pos) env) Q E s:=by
 refine UQ (GY h (λo Bz Ox=>GY Ox (λi Ef NJ=>?_) λ_ _ x=>x) λ_ _ x=>x);obtain⟨hT,NJ⟩:=NJ;unfold UO;refine AN ?_;rw[getitemInPython_of_ne hT.not_modules];refine AN (wpAny_specialOf hT hl ?_);have fin:AJ (AU prog w) A (ZO slice false o i) (λr Oh=>AJ (AU prog w) A (letTemporaryGo value o r>>=λ_=>pure r) Q E Oh) E Ef:=by
  rw[hs o i];exact wpAny_operating (GY NJ (λr Oh NK=>AN (wpAny_letTemporaryGo (BN NK))) λ_ _ x=>x)
 first
  |exact BN (AN fin)
  |exact AN (BN (AN fin))
  |exact AN fin
def ag_(I:Inv X pins σ H s)(g:HR H a y o):s.TypeIs (.ref a) "dict":=by
 rcases g with⟨A9,k,e,_,_⟩|⟨A9,k,b,e,_,_,_⟩
 .obtain⟨_,_,vs,_,dd⟩:=bC I.AZ e;exact dd.typeIs
 .obtain⟨_,_,xs,_,dd⟩:=bD I.AZ e;exact dd.typeIs
def abr(td ty:TE):TE:=λσ H Q=>td σ H λx H1=>ty σ H1 λy H2=>∃a v,x=.ref a/\HR H2 a y (some v)/\Q v H2
def abu(ty td:TE):TE:=λσ H Q=>ty σ H λy H1=>td σ H1 λx H2=>∃a o,x=.ref a/\HR H2 a y o/\Q (.bl (!o.isSome)) H2
def zI(td ty tv:TE):TS:=λD σ H=>tv σ H λv H1=>td σ H1 λx H2=>ty σ H2 λy H3=>∃a H4,x=.ref a/\Sd H3 a y v H4/\D.nx σ H4
section
variable{X:Cx}{o i e value:B7}{pos pos' JK:Pos}{td ty tv:TE}
def yB(hu:X.A.units+1<L4)(ho:PE X o td)(hi:PE X i ty)(hs:qU i):PE X (.Subscript o i pos) (abr td ty):=by
 intro pins s σ H Q I h;refine auz PySem.F.slot_dict_getitem.lookup hs (Bi (ho pins s σ H _ I h) λu s1 x H1 I1 rx q1=>Bi (hi pins s1 σ H1 _ I1 q1) λiv s2 y H2 I2 ry AG=>?_);obtain⟨a,v,ex,g,q2⟩:=AG;subst ex;obtain rfl:u=Cc a:=rx;exact⟨ag_ I2 g,ahG hu I2 g ry λw' s3 I3 Mu=>⟨v,H2,I3,Mu,q2⟩⟩
def y8(hu:X.A.units+1<L4)(hi:PE X i ty)(ho:PE X o td):PC X .NotIn i o (abu ty td):=by
 intro pins s σ H Q I h;refine Bi (hi pins s σ H _ I h) λiv s1 y H1 I1 ry q1=>Bi (ho pins s1 σ H1 _ I1 q1) λu s2 x H2 I2 rx AG=>?_;obtain⟨a,ov,ex,g,q2⟩:=AG;subst ex;obtain rfl:u=Cc a:=rx;exact ahH hu I2 g ry λs3 I3=>⟨.bl (!ov.isSome),H2,I3,rfl,q2⟩
def ap4(hu:X.A.units+1<L4)(ho:PE X o td)(hi:PE X i ty)(hv:PE X value tv)(hs:M2 value (some (.Subscript o i pos')) pos.line X.env=pure false):
 PS X (.Assign [.Subscript o i pos'] value pos) (zI td ty tv):=by
 intro pins s σ H D I h;refine wpAny_Assign_Subscript (Bi (hv pins s σ H _ I h) λr s1 v H1 I1 rv q1=>Bi (ho pins s1 σ H1 _ I1 q1) λu s2 x H2 I2 rx q2=>Bi (hi pins s2 σ H2 _ I2 q2) λiv s3 y H3 I3 ry AG=>?_) hs;obtain⟨a,H4,ex,g,q3⟩:=AG;subst ex;obtain rfl:u=Cc a:=rx;exact ahI hu I3 g ry rv λs4 I4=>⟨σ,H4,I4,q3⟩
end
def agg(h:B5)(hb:Jv<h.objs.size):Dg P w H (h.push {cls:=.type "dict",data:=.dict #[]}) h.objs.size (.dT []):=
 ⟨Er _,beq_eq_false_iff_ne.mpr (Ct (DU hb)),[],.nil,_,#[],0,C_ _ rfl,⟨rfl,rfl,rfl⟩,rfl,rfl,UE⟩
def abt:TE:=λ_ H Q=>∀p,H p=none->Q (.ref p) (upd H p (.dT []))
section
variable{X:Cx}{pos:Pos}
def apT:PE X (.Dict [] [] pos) abt:=λpins s σ H Q I h=>
 wpAny_Dict_empty ⟨.ref s.heap.objs.size,_,I.laid (a:=s.heap.objs.size) (o:=.dT []) (t':=s.toks) (λ_ _ q=>BK _ q) (Az _) (agg s.heap I.px),rfl,h _ (I.AZ.fresh (Az _))⟩
end
def J5(A9 more:List (Key×V)):List (Key×V):=more.foldl (λacc kv=>putK acc kv.1 kv.2) A9
def KV.merge:∀{more:List (Key×V)}{rs:List (Key×A5)}{A9:List (Key×V)}{vs:List (Key×A5)},KV more rs->KV A9 vs->KV (J5 A9 more) (merged vs rs):=by
 intro more rs A9 vs r;unfold KV at r;induction r generalizing A9 vs with
 |nil=>intro q;exact q
 | @cons p q ps qs h t ih=>
  intro r0;have e:KV (putK A9 p.1 p.2) (stored vs q.1 q.2):=by
   have:=r0.put p.1 h.2;rw[<-h.1];exact this
  exact ih e
def wO:∀(more A9:List (Key×V)),(J5 A9 more).length<=A9.length+more.length
 |[],A9=>by show A9.length<=A9.length+0;lia
 |p::r,A9=>by
  have h1:=wO r (putK A9 p.1 p.2);have h2:=j5 A9 p.1 p.2;show(J5 (putK A9 p.1 p.2) r).length<=_;rw[B4];lia
def ala:pJ (.type "list") "keys"=pure none:=am_miss_of_fast (by first|decide+kernel|rfl)
def acz:entryFor table "dict.update.loop"=some Uc.«dict.update.loop»:=entryFor_of_tree (by kernel_rfl)
def X6:plainId "dict.update.loop"=true:=by decide+kernel
section
variable{prog:Bs}{w:Bg}{A:CB}{E:A5->AA->Prop}
def aml(hx:s.heap.get? a=some o)(hc:o.cls=.type "list")(Po:o.data=.seq xs k)(hd:o.dict=none)(hA:A.handled=none)
 (h:∀h' tk,(∀b ob,s.heap.get? b=some ob->h'.get? b=some ob)->Q none {s with heap:=h',toks:=tk}):AJ (AU prog w) A (getAttr? (.ref a) "keys") Q E s:=by
 obtain⟨c,dct,dat,sl⟩:=o;simp only at hc Po hd;subst hc Po hd;obtain⟨hp,g,d,tk,os⟩:=s;have hT:∀acm,(⟨hp,g,d,acm,os⟩:AA).TypeIs (.ref a) "list":=λ_=>⟨_,hx,rfl⟩;have alZ:=ala;have Qt:(["__module__","__name__","__qualname__","__doc__","__annotations__"]:List Str).contains "keys"=false:=by decide+kernel
 have hsz:("keys":Str).length+100<=Al:=by first|size_fits|decide+kernel
 have f1:=sub_AttributeError;have f3:=mi.lookup;have f4:=mi.bind (.ref a);have f5:=am_list_getattr_none;unfold getAttr? getAttrBy? getAttrBy;repeat (any_goals (first|assumption|exact hT _|((with_reducible show AJ _ _ (HQ (Value.builtin "list.__getattribute__") _ _) _ _ _);refine Nl mi (hT _) am_entry_list_getattribute (PySem.F.args_list_getattribute_2 _ _) (meets_getattribute_miss_list a xs k sl "keys" _ alZ Qt hsz) ⟨hx,hA,λh' acm e Jz=>?_⟩)|wp_step))
 obtain⟨t',u',he⟩:=Jz.there;show AJ _ _ (aeD _ _ _ _ _ _ _) _ _ _;unfold aeD;repeat (any_goals (first|assumption|wp_step))
 all_goals first|exact h _ _ Jz.keeps|(dsimp only;repeat (any_goals (first|assumption|exact h _ _ Jz.keeps|wp_step)))
def ad0(hh:A.handled=none)(cM:l≠I)(aZ:S≠I)(tm:S≠l):
 ∀(rest:List (Key×A5))(i:Nat)(acc:List (Key×A5))(ix:Int)(t:Tok)(s:AA),items.size=i+rest.length->acc.length+rest.length<=Al->
  (∀(j:Nat)(q:Key×A5),rest[j]? =some q->∃(b:A0)(u:A5),items[i+j]? =some (.ref b)/\b≠S/\b≠I/\IsTup s.heap b #[u,q.2]/\NN q.1 u=true)->
  s.heap.IsListIter I l i->s.heap.IsList l items->s.heap.DictOf (F7 prog w) S acc->
  (∀h' tk,h'.DictOf (F7 prog w) S (merged acc rest)->(∀b o,b≠S->b≠I->s.heap.get? b=some o->h'.get? b=some o)->R (.ok (.ret res)) {s with heap:=h',toks:=tk})->
  JF (AU prog w) A (.builtin "dict.update.loop" ⟨[.ref S,.ref I,.int ix t,res],[]⟩) R s
 |[],i,acc,ix,t,s,hsz,cN,ht,hit,hl,hm,hR=>by
  refine UK acz ?_;rw[UB X6 _];show AJ _ A.in1 (JG (.ref I)>>=_) _ _ s;refine AN (adV (A:=A.in1) hh hit hl (by first|exact adK (Kq hsz)|(simp at hsz;simp;lia)) λh' he=>?_);show AJ _ A.in1 (ave S []>>=_) _ _ _;refine AN (BN (BN ?_));exact hR h' s.toks (hm.extBut he aZ) λb o _ hb e=>he b o hb e
 |q::rest,i,acc,ix,t,s,hsz,cN,ht,hit,hl,hm,hR=>by
  w_up;obtain⟨b,u,hb,hbS,al4,al7,hk⟩:=ht 0 q rfl;fin2;rw[B4]at hsz cN;refine UK acz ?_;rw[UB X6 _];show AJ _ A.in1 (JG (.ref I)>>=_) _ _ s;refine AN (ad8 (x:=.ref b) hit hl (by simpa using hb) λh1 alM J_=>?_);have Vk:IsTup h1 b #[u,q.2]:=al7.extBut J_.extBut al4;have CP:h1.IsList l items:=hl.extBut J_.extBut cM;have gO:h1.DictOf (F7 prog w) S acc:=hm.extBut J_.extBut aZ;w_up;obtain⟨o,ho,hc,n,hd⟩:=id Vk;fin2;show AJ _ A.in1 (I0 [Cc b] _>>=_) _ _ _;refine AN (PX ?_);refine AN (RO ?_);unfold awE;refine AN (wpAny_typeOf (T:="tuple") ⟨o,ho,hc⟩ ?_);rw[if_pos (by first|decide|rfl|simp)];refine AN (Kw ho hd (BN ?_));show AJ _ A.in1 (I0 [u,q.2] (dictSet S u q.2)) _ _ _;refine PX (wpAny_dictSet_pairs (knd:=F7 prog w) (k:=q.1) hk gO (λh2 Qs Fq=>?_) (by lia));refine BN ⟨PY X6 _,ad0 (items:=items) hh cM aZ tm rest (i+1) (stored acc q.1 q.2) (ix+1) 0 _ (show items.size=i+1+rest.length by lia) ?_ (λj q' e=>?_) ?_ ?_ Qs λh' tk MW k=>?_⟩
  .have z:=stored_length_le acc q.1 q.2;lia
  .obtain⟨b',u',KR,u7,u6,al8,WE⟩:=ht (j+1) q' (by simpa using e);refine⟨b',u',?_,u7,u6,(al8.extBut J_.extBut u6).extBut Fq.extBut u7,WE⟩;rw[show i+1+j=i+(j+1) by lia];exact KR
  .exact alM.at λo' e=>Fq.extBut I o' (Ct aZ) e
  .exact CP.extBut Fq.extBut (Ct tm)
  .exact hR h' tk MW λc oc h3 h4 e=>k c oc h3 h4 (Fq.extBut c oc h3 (J_.extBut c oc h4 e))
def afZ(hh:A.handled=none)(hl:s.heap.get? l=some ol)(hc:ol.cls=.type "list")(hd:ol.dict=none)
 (Po:ol.data=.seq items n)(hsz:items.size=prs.length)(cN:prs.length<=Al)
 (ht:∀(j:Nat)(q:Key×A5),prs[j]? =some q->∃(b:A0)(u:A5),items[j]? =some (.ref b)/\IsTup s.heap b #[u,q.2]/\NN q.1 u=true)
 (h:∀h' tk,h'.DictOf (F7 prog w) s.heap.objs.size (merged [] prs)->(∀b o,s.heap.get? b=some o->h'.get? b=some o)->Q (.ref s.heap.objs.size) {s with heap:=h',toks:=tk}):
 AJ (AU prog w) A (HQ (.type "dict") [.ref l]) Q E s:=by
 refine callType_codes (Q₁:=λobj Bz=>obj=.ref s.heap.objs.size/\Bz={s with heap:=s.heap.push {cls:=.type "dict",data:=.dict #[]}}) PySem.F.kt_called_dict (PySem.F.kt_typeCall_dict_1 _) PySem.F.entry_dict_init (kt_code_dict_new _ ⟨rfl,rfl⟩) ?_;rintro obj Bz ⟨rfl,rfl⟩;have WJ:(s.heap.push {cls:=.type "dict",data:=.dict #[]}).DictOf (F7 prog w) s.heap.objs.size []:=Heap.DictOf.new s.heap;have k0:∀b o,s.heap.get? b=some o->(s.heap.push {cls:=.type "dict",data:=.dict #[]}).get? b=some o:=λb o e=>BK _ e;refine⟨WJ.typeIs,PySem.F.args_dict_init_2 _ _,?_⟩;unfold Uc.«dict.__init__»;refine AN ?_;unfold avf;refine AN (wpAny_notOrdered_dict WJ.typeIs ?_);show AJ _ _ (pure (s.heap.objs.size,[Cc l])) _ _ _;refine BN ?_;show AJ _ _ (adI "dict.__init__" s.heap.objs.size (.ref l) [] .none) _ _ _;unfold adI;refine AN (wpAny_typeOf (T:="list") ⟨ol,k0 _ _ hl,hc⟩ ?_);rw[if_pos (by first|decide|rfl|simp)];refine AN (aml (k0 _ _ hl) hc Po hd hh λh1 tk1 Qm=>?_);rw[if_pos (show(none:Option A5).isNone=true from rfl)];refine AN (ZY ?_);have CP:h1.IsList l items:=⟨ol,Qm _ _ (k0 _ _ hl),hc,n,Po⟩;have Iz:s.heap.objs.size<h1.objs.size:=by
  have e:(s.heap.push {cls:=.type "dict",data:=.dict #[]}).get? s.heap.objs.size=some {cls:=.type "dict",data:=.dict #[]}:=C_ _ rfl;exact BZ (Qm _ _ e)
 refine AN (RW CP ?_);have k2:∀b o,h1.get? b=some o->(h1.push {cls:=.type "list_iterator",data:=.fields #[.ref l,.int 0 0]}).get? b=some o:=λb o e=>BK _ e;have B3:l<s.heap.objs.size:=BZ hl;have key:=ad0 (prog:=prog) (w:=w) (A:=A.in1) (R:=wants (λr Ef=>r=.none/\Q (.ref s.heap.objs.size) Ef) E) (S:=s.heap.objs.size) (I:=h1.objs.size) (l:=l) (items:=items) (res:=Ky) hh
  (DU (Jr B3 Iz)) (DU Iz) (Ly B3) prs 0 [] 0 0
  {s with heap:=h1.push {cls:=.type "list_iterator",data:=.fields #[.ref l,.int 0 0]},toks:=tk1} (by rw[hsz,EM]) (by rw[Na,EM];exact cN)
  (λj q e=>by
   obtain⟨b,u,e1,e2,e3⟩:=ht j q e;have hb:b<s.heap.objs.size:=e2.lt;exact⟨b,u,by rw[EM];exact e1,DU hb,DU (Jr hb Iz),e2.keeps λc o z=>k2 _ _ (Qm _ _ (k0 _ _ z)),e3⟩)
  ⟨_,C_ _ rfl,rfl,rfl⟩ (CP.at λo e=>k2 _ _ e) ((WJ.at λo e=>Qm _ _ e).at λo e=>k2 _ _ e)
  (λh' tk MW k=>⟨rfl,h h' tk MW λb o e=>k b o (DU (BZ e)) (DU (Jr (BZ e) Iz)) (k2 _ _ (Qm _ _ (k0 _ _ e)))⟩)
 first
  |exact BN ⟨PY X6 _,key⟩
  |exact AN (BN (BN ⟨PY X6 _,key⟩))
end
section
variable{X:Cx}
def WO(I:Inv X pins σ H s):∀{ps:List A0}{A9:List (Key×V)},M7 (λp kv=>C6 X.K H p [kV kv.1,kv.2]) ps A9->
 ∃prs:List (Key×A5),KV A9 prs/\prs.length=ps.length/\∀(j:Nat)(q:Key×A5),prs[j]? =some q->∃(b:A0)(u:A5),ps[j]? =some b/\IsTup s.heap b #[u,q.2]/\NN q.1 u=true
 |_,_,.nil=>⟨[],.nil,rfl,λj q e=>by simp at e⟩
 |_,_,.cons (a:=p) (b:=kv) h t=>by
  w_up;obtain⟨prs,r,hl,hp⟩:=WO I t;obtain⟨its,rv,ht,_⟩:=I.tuple h;obtain⟨u,y,ei,ru,ry⟩:=vals2 rv;fin2;subst ei;refine⟨(kv.1,y)::prs,.cons ⟨rfl,ry⟩ r,by rw[B4,B4,hl],λj q e=>?_⟩;cases j with
  |zero=>
   have e':(kv.1,y)=q:=GW e;subst e';exact⟨p,u,rfl,ht,Vt (P:=X.prog) (w:=X.w) ru⟩
  |succ j=>
   w_up;obtain⟨b,u',e1,e2,e3⟩:=hp j q (by simpa using e);fin2;exact⟨b,u',by simpa using e1,e2,e3⟩
def zc:∀{ps:List A0}{us:List A5},Ai (ps.map V.ref) us->us=ps.map Cc
 |[],us,r=>by
  rw[Kr]at r;cases r;rfl
 |p::ps,us,r=>by
  rw[BW]at r;cases r with
  |cons h t=>
   cases h;rw[BW,<-zc t]
def afY(akR:X.calm=true):JO X (.type "dict") (λxs H Q=>∃(a:A0)(ps:List A0)(A9:List (Key×V)),xs=[.ref a]/\A4 X.K H a (ps.map V.ref)/\M7 (λp kv=>C6 X.K H p [kV kv.1,kv.2]) ps A9/\
 ∀p,H p=none->Q (.ref p) (upd H p (.dK (J5 [] A9)))):=by
 intro pins s σ H xs us Q I r q;w_up;obtain⟨a,ps,A9,ex,hq,hp,q⟩:=q;fin2;subst ex;w_up;obtain⟨u,eu,rx⟩:=vals1 r;fin2;subst eu;cases rx;w_up;obtain⟨its,rv,pl,hz⟩:=I.list hq;fin2;have ei:=zc rv;subst ei;rw[AV]at hz;w_up;obtain⟨prs,rel,hl,Vb⟩:=WO I hp;obtain⟨o,n,ho,hc,hd,Po⟩:=pl;fin2;refine afZ (prs:=prs) (I.ok.hd akR) ho hc hd Po (by simp[hl]) (by rw[hl];exact hz) (λj q' e=>?_) λh' tk MW k=>?_
 .obtain⟨b,u,e1,e2,e3⟩:=Vb j q' e;exact⟨b,u,by simp[e1],e2,e3⟩
 .have hm:(s.heap.objs.size==Jv)=false:=beq_eq_false_iff_ne.mpr (Ly I.px);have hlen:(J5 [] A9).length<=Al:=by
   refine Ao (wO A9 []) ?_;rw[Na,EM,rel.length,hl];exact hz
  exact⟨.ref s.heap.objs.size,upd H s.heap.objs.size (.dK (J5 [] A9)),I.laid (t':=tk) k (Az _) (show Dg X.prog X.w _ _ _ (.dK (J5 [] A9))from⟨hlen,hm,merged [] prs,KV.merge rel .nil,MW⟩),rfl,q _ (I.AZ.fresh (Az _))⟩
end
section
variable{X:Cx}{pins:List (A0×Obj)}{σ:St}{H:Hp}{s:AA}{h':B5}
def Inv.acv{ch:List A0}(I:Inv X pins σ H s)(k:∀b o,b∉ch->s.heap.get? b=some o->h'.get? b=some o)(hf:∀b∈ch,Dj X pins H b):Inv X pins σ H {s with heap:=h',toks:=t'}:=by
 have OU:∀b u,H b=some u->b∉ch:=λb u e z=>by
  have q:=(hf b z).1;rw[q]at e;cases e
 refine I.step (g':=s.gens) (d':=s.drawn) (ch:=ch) (λb hb=>⟨(hf b hb).2.2.2.1,(hf b hb).2.1,(hf b hb).2.2.2.2.1,(hf b hb).2.2.2.2.2⟩) (λb o _ _ hc e _=>k b o hc e) (λb o _ _ hc e _=>⟨o.slots,k b o hc e⟩)
  (λ_ _ _ _ n=>n) (λb o hc e=>⟨o,k b o hc e⟩) (λ_ _ e=>e) (λ_ _ _ e=>e) (λb ps e=>⟨#[],by rw[e];simp⟩) (λm hm=>?_) (λb u e=>?_) I.bare
 .obtain⟨o,es,ep,ho,r⟩:=hm;exact⟨o,es,ep,k _ o (λz=>(hf _ z).2.1 rfl) ho,r⟩
 .refine(I.AZ b u e).KZ (λc v hc q=>k c v ?_ q) (λ_ q=>q) λ_ _ q=>q;rcases hc with z|z
  .rw[z];exact OU b u e
  .exact OU c _ z
def Inv.mY{t':Nat}{ch:List A0}(I:Inv X pins σ H s)(k:∀b o,b∉ch->s.heap.get? b=some o->h'.get? b=some o)(hf:∀b∈ch,Dj X pins H b)(hT:s.heap.objs.size<=T)
 (new:Dg X.prog X.w (upd H T ob) h' T ob):Inv X pins σ (upd H T ob) {s with heap:=h',toks:=t'}:=by
 have hn:H T=none:=I.AZ.fresh hT;have OU:∀b u,H b=some u->b∉ch:=λb u e z=>by
  have q:=(hf b z).1;rw[q]at e;cases e
 refine I.step (g':=s.gens) (d':=s.drawn) (ch:=ch) (λb hb=>⟨(hf b hb).2.2.2.1,(hf b hb).2.1,(hf b hb).2.2.2.2.1,(hf b hb).2.2.2.2.2⟩) (λb o _ _ hc e _=>k b o hc e) (λb o _ _ hc e _=>⟨o.slots,k b o hc e⟩)
  (λb o _ e n=>?_) (λb o hc e=>⟨o,k b o hc e⟩) (λb xs e=>?_) (λb o u e=>?_) (λb ps e=>⟨#[],?_⟩) (λm hm=>?_) (λb u e=>?_) I.bare
 .rw[AY (DU (CT (BZ e) hT))];exact n
 .rw[AY (Dm e hn)];exact e
 .rw[AY (Dm e hn)];exact e
 .rw[AY (Dm e hn),e];simp
 .obtain⟨o,es,ep,ho,r⟩:=hm;exact⟨o,es,ep,k _ o (λz=>(hf _ z).2.1 rfl) ho,r⟩
 .by_cases hb:b=T
  .subst hb;rw[AB]at e;cases e;exact new
  .rw[AY hb]at e;refine(I.AZ b u e).KZ (λc v hc q=>k c v ?_ q) (λc q=>by rw[AY (Dm q hn)];exact q) λc xs q=>by rw[AY (Dm q hn)];exact q
   rcases hc with z|z
   .rw[z];exact OU b u e
   .exact OU c _ z
def Inv.lock(I:Inv X pins σ H s)(h:H d=some u)(mu:OO (some u)):∃od,Inv X pins σ (upd H d (.CY od u)) s:=by
 have x:=I.AZ d u h;have ex:∃od,s.heap.get? d=some od:=by
  cases u with
  |lst xs=>obtain⟨_,_,_,_,e⟩:=x;exact⟨_,e⟩
  |dK A9=>obtain⟨_,_,_,_,o,_,_,e,_⟩:=x;exact⟨o,e⟩
  |dT A9=>obtain⟨_,_,_,_,o,_,_,e,_⟩:=x;exact⟨o,e⟩
  |set S n=>obtain⟨o,_,_,_,e,_⟩:=x;exact⟨o,e⟩
  |ins C dx fs=>obtain⟨_,_,_,e,_⟩:=x;exact⟨_,e⟩
  |ext φ=>obtain⟨_,⟨_,e⟩,_⟩:=x;exact⟨_,e⟩
  |_=>exact Hw mu
 obtain⟨od,e⟩:=ex;have new:Dg X.prog X.w (upd H d (.CY od u)) s.heap d (.CY od u):=by
  refine⟨e,x.KZ (λb v _ q=>q) (λb q=>?_) λb xs q=>?_⟩
  .rw[AY (λz=>by rw[z,h]at q;cases q;exact mu)];exact q
  .rw[AY (λz=>by rw[z,h]at q;cases q;exact mu)];exact q
 exact⟨od,I.write (x:=d) (e:=d) (t':=s.toks) (h':=s.heap) (by rw[h];exact mu) (.inl rfl) (λb v _ q=>q) ⟨od,e⟩ new⟩
def Inv.anT(I:Inv X pins σ H s)(h:H d=some u)(mu:OO (some u)):∀o' u',X.MH d≠some (.CY o' u'):=λo' u' e=>by
 have q:=I.base.KL d o' u' e;rw[h]at q;cases q;exact mu
def Inv.unlock(I:Inv X pins σ H s)(h:H d=some (.CY od u))(hn:∀o' u',X.MH d≠some (.CY o' u')):Inv X pins σ (upd H d u) s:=by
 have Tr:∀b o,H b=some o->(∀o' u',o≠.CY o' u')->b≠d:=λb o e Bx z=>by
  rw[z,h]at e;cases e;exact Bx _ _ rfl
 have neN:∀b,H b=none->b≠d:=λb e z=>by rw[z,h]at e;cases e
 refine⟨I.ok,I.os,I.bare,⟨I.base.keep,I.base.slot,λb o e n hx=>?_,I.base.there,λb xs e=>?_,λb o x e=>?_,λb ps e=>?_⟩,I.loc,I.cell,?_,λx c e=>?_,λp hp=>?_,λb o e=>?_,I.len⟩
 .rw[AY (neN b (I.base.free b o e n hx))];exact I.base.free b o e n hx
 .have q:=I.base.NB b xs e;rw[AY (Tr b _ q (λ_ _ z=>nomatch z))];exact q
 .have q:=I.base.KL b o x e;rw[AY (λz=>by rw[z]at e;exact hn _ _ e)];exact q
 .obtain⟨m,q⟩:=I.base.N8 b ps e;exact⟨m,by rw[AY (Tr b _ q (λ_ _ z=>nomatch z))];exact q⟩
 .rw[AY (neN _ I.free)];exact I.free
 .rw[AY (neN c (I.G8 x c e))];exact I.G8 x c e
 .obtain⟨e,n,r⟩:=I.pin p hp;exact⟨e,by rw[AY (neN _ n)];exact n,r⟩
 .by_cases hb:b=d
  .rw[hb,AB]at e;cases e;rw[hb];obtain⟨_,x⟩:=I.AZ d _ h;exact x.KZ (λc v _ q=>q) (λc q=>by rw[AY (Tr c _ q (λ_ _ z=>nomatch z))];exact q) λc xs q=>by rw[AY (Tr c _ q (λ_ _ z=>nomatch z))];exact q
  .rw[AY hb]at e;exact(I.AZ b o e).KZ (λc v _ q=>q) (λc q=>by rw[AY (Tr c _ q (λ_ _ z=>nomatch z))];exact q) λc xs q=>by rw[AY (Tr c _ q (λ_ _ z=>nomatch z))];exact q
end
def atv(t:TE):TE:=λσ H Q=>∃d u,H d=some u/\OO (some u)/\∀od,t σ (upd H d (.CY od u)) λv H'=>H' d=some (.CY od u)/\Q v (upd H' d u)
section
variable{X:Cx}
def apV(h:PE X e t):PE X e (atv t):=by
 intro pins s σ H Q I hw;obtain⟨d,u,hd,mu,hw⟩:=hw;obtain⟨od,I1⟩:=I.lock hd mu;refine Bi (h pins s σ _ _ I1 (hw od)) λv s1 x H1 I2 r AG=>?_;obtain⟨e2,q⟩:=AG;exact⟨x,_,I2.unlock e2 (I.anT hd mu),r,q⟩
def jo(I:Inv X pins σ H s)(o:Obj)
 (T:Turn X.prog X.w X.K tg J [s.heap.objs.size] s.heap.objs.size tn)(st:tn 0 (s.heap.push o))(q:R J H):dX X pins σ tg R (.ref s.heap.objs.size) {s with heap:=s.heap.push o,toks:=tk}:=by
 refine⟨s.heap.objs.size,[s.heap.objs.size],tn,J,H,rfl,I.kept λb ob e=>BK _ e,T,st,λb hb=>?_,q⟩;have e:b=s.heap.objs.size:=by simpa using hb
 subst e;exact I.KJ (Az _) (I.AZ.fresh (Az _))
end
def aH(lo c:Int)(n:Nat):It:=⟨λi _=>i<n,λi H x H'=>H'=H/\x=.int (lo+(i:Nat)*c),λi _=>n<=i⟩
def auT{K:Ae}{tg:B7}(it:A0)(lo c:Int)(n:Nat):Turn P w K tg (aH lo c n) [it] it (λi h=>ZN h it (lo+(i:Nat)*c) ((n:Int)-(i:Nat)) c)where
 mem:=by simp
 obj:=λi h st b hb=>by
  have e:b=it:=by simpa using hb
  subst e;exact⟨_,st,λv z=>nomatch z⟩
 keep:=λi h h' st k=>k it (by simp) _ st
 item:=by
  intro X hP hw hK hc i pins s σ H E I hf st hg;subst hP hw hK;w_up;obtain⟨f0,f1,f2,f3,f4,f5⟩:=hf it (by simp);fin2;have W:=af8 (prog:=X.prog) (w:=X.w) (I.ok.hd hc) it lo c n;refine W.item i s _ _ hg st λv h' tk hv GL kk=>?_;obtain⟨t,rfl⟩:=hv;have I1:Inv X pins σ H {s with heap:=h',toks:=tk}:=I.turned (λb o hb e=>kk b o (by simpa using hb) e) f0 f1 f3 f4 f5;exact⟨_,rfl,Ug (s:={s with heap:=h',toks:=tk}) (n:="range_iterator") GL rfl rfl (by decide) ⟨.int (lo+(i:Nat)*c),H,I1,⟨t,rfl⟩,⟨rfl,rfl⟩,GL,λb hb=>(hf b hb).1⟩⟩
 done:=by
  intro X hP hw hK hc i pins s σ H E I hf st hg;subst hP hw hK;w_up;obtain⟨f0,f1,f2,f3,f4,f5⟩:=hf it (by simp);fin2;exact ad9 (I.ok.hd hc) st (by have:n<=i:=hg;lia) λh' eb=>⟨rfl,I.turned (t':=s.toks) (λb o hb e=>eb b o hb e) f0 f1 f3 f4 f5⟩
 self:=λA i s Q E st h=>adA st h
def S7(i j c:Int)(n:Nat):Prop:=c≠0/\c.natAbs<1073741824/\adR i j c=true/\Tx i j c=n
def S7.neg(ha: -(2^62)<=i)(akw:i<2^62)(hb: -(2^62)<=j)(KR:j<2^62):S7 i j (-1) (i-j).toNat:=
 ⟨by decide,by decide,PySem.W.small_down ha akw hb KR,PySem.W.rangeSize_downNat i j⟩
def uT(ta:TA):TI:=λσ H R=>ta σ H λvs H1=>Mi vs λx y z=>Bl x λi=>Bl y λj=>Bl z λc=>∃n:Nat,S7 i j c n/\R (aH i c n) H1
section
variable{X:Cx}{tg:B7}
def Y5(hg:Gl X "range")(hm:X.mg "range"=none)(ha:PA X [a,b,c] ta)
 (hs:autoParam (B0 [a,b,c] X.env=(false,As a X.env)::B0 [b,c] X.env) auR)(Ax:autoParam ((D7 pos (B0 [b,c] X.env)).any (·.1)=false) auR):
 PI X tg (.Call (.Name "range" p) [a,b,c] [] pos) (uT ta):=by
 intro pins s σ H R I h;refine Call_ (NP I hg hm ox (P4 (J9 (ha pos pins s σ H _ I h) λus s1 vs H1 I1 r1 q1=>?_) hs Ax));obtain⟨i,j,k,e,n,⟨c0,c1,c2,c3⟩,q⟩:=yg q1;subst e;cases r1 with
 |cons r rr=>
  cases rr with
  |cons r' rr=>
   cases rr with
   |cons k8 rr=>
    cases rr;obtain⟨t,rfl⟩:=r;obtain⟨t',rfl⟩:=r';obtain⟨t'',rfl⟩:=k8;refine call_range_3 c0 ?_ (.inl (PyProof.noPylong_small c1));refine aeA (af2 ..) c2 ?_;have I2:Inv X pins σ H1 {s1 with heap:=s1.heap.push {cls:=.type "range",data:=.fields #[.int i t,.int j t',.int k t'']}}:=I1.kept (t':=s1.toks) λb o e=>BK _ e;refine jo (tk:=s1.toks) I2 _ (auT _ i k n) ?_ q;have e1:i+((0:Nat):Int)*k=i:=by simp
    have e2:(n:Int)-((0:Nat):Int)=Tx i j k:=by rw[c3];simp
    show ZN _ _ (i+((0:Nat):Int)*k) ((n:Int)-((0:Nat):Int)) k;rw[e1,e2];exact C_ _ rfl
end
def aI(x:Str):It:=⟨λi _=>i<x.cps.size,λi H v H'=>H'=H/\∃c,x.cps[i]? =some c/\v=.str ⟨#[c]⟩,λi _=>x.cps.size<=i⟩
def acu{K:Ae}{tg:B7}(it:A0)(x:Str)(t:Tok)(ty:String)(LR:ty="str_ascii_iterator"\/ty="str_iterator"):
 Turn P w K tg (aI x) [it] it (λi h=>h.IsStrIter it ty x t i)where
 mem:=by simp
 obj:=λi h st b hb=>by
  have e:b=it:=by simpa using hb
  subst e;w_up;obtain⟨o,e,c,d⟩:=st;fin2;exact⟨o,e,λv z=>by rw[d]at z;cases z⟩
 keep:=λi h h' st k=>let⟨o,ho,r⟩:=st;⟨o,k it (by simp) o ho,r⟩
 item:=by
  intro X hP hw hK hc i pins s σ H E I hf st hg;subst hP hw hK;w_up;obtain⟨f0,f1,f2,f3,f4,f5⟩:=hf it (by simp);fin2;have W:Walks X.prog X.w X.A it [it] [it] x.cps.size (SignAt x) (λi h=>h.IsStrIter it ty x t i):=by
   rcases LR with e|e
   .rw[e];exact Walks.strAscii (I.ok.hd hc) it x t
   .rw[e];exact Walks.strWide (I.ok.hd hc) it x t
  have VZ:["enumerate","zip","dict_itemiterator","dict_reverseitemiterator","odict_iterator","itertools.zip_longest","itertools.pairwise"].contains ty=false:=by
   rcases LR with e|e
   .rw[e];decide
   .rw[e];decide
  refine W.item i s _ _ hg st λv h' tk hv GL kk=>?_;w_up;obtain⟨c,u,akU,rfl⟩:=hv;have I1:Inv X pins σ H {s with heap:=h',toks:=tk}:=I.turned (λb o hb e=>kk b o (by simpa using hb) e) f0 f1 f3 f4 f5;obtain⟨oi,e,cc,dd⟩:=id GL;fin2;exact⟨_,rfl,Ug (s:={s with heap:=h',toks:=tk}) e cc dd VZ ⟨.str ⟨#[c]⟩,H,I1,⟨u,rfl⟩,⟨rfl,c,akU,rfl⟩,GL,λb hb=>(hf b hb).1⟩⟩
 done:=by
  intro X hP hw hK hc i pins s σ H E I hf st hg;subst hP hw hK;w_up;obtain⟨f0,f1,f2,f3,f4,f5⟩:=hf it (by simp);fin2;have hx:x.cps[i]? =none:=adK hg;rcases LR with e|e
  .rw[e]at st;exact wpAny_pyNext_ascii_end (I.ok.hd hc) st hx λh' eb=>⟨rfl,I.turned (t':=s.toks) (λb o hb e=>eb b o hb e) f0 f1 f3 f4 f5⟩
  .rw[e]at st;exact wpAny_pyNext_wide_end (I.ok.hd hc) st hx λh' eb=>⟨rfl,I.turned (t':=s.toks) (λb o hb e=>eb b o hb e) f0 f1 f3 f4 f5⟩
 self:=λA i s Q E st h=>by
  rcases LR with e|e
  .rw[e]at st;exact wpAny_pyIter_striter_ascii st h
  .rw[e]at st;exact wpAny_pyIter_striter_wide st h
def uU(te:TE):TI:=λσ H R=>te σ H λv H1=>∃x,v=.str x/\R (aI x) H1
def apf{tg e:B7}{te:TE}(he:PE X e te):PI X tg e (uU te):=by
 intro pins s σ H R I h;refine Bi (he pins s σ H _ I h) λv s1 y H1 I1 r1 AG=>?_;obtain⟨x,ex,q⟩:=AG;subst ex;obtain⟨t,rfl⟩:=r1;cases ha:x.cps.all (·<128)
 .exact wpAny_pyIter_wide ha (jo (tk:=s1.toks) I1 _ (acu _ x t "str_iterator" (.inr rfl)) ⟨_,C_ _ rfl,rfl,rfl⟩ q)
 .exact wpAny_pyIter_ascii ha (jo (tk:=s1.toks) I1 _ (acu _ x t "str_ascii_iterator" (.inl rfl)) ⟨_,C_ _ rfl,rfl,rfl⟩ q)
def VE(K:Ae)(a:A0):It:=
 ⟨λi H=>∃(xs:List V)(x:V),A4 K H a xs/\xs[i]? =some x,λi H v H'=>∃T x,v=.ref T/\H T=none/\H'=upd H T (.tup [.int (i:Nat),x])/\∀xs,A4 K H a xs->xs[i]? =some x,λi H=>∃xs:List V,A4 K H a xs/\xs.length<=i⟩
def auL{P:Bs}{w:Bg}{K:Ae}(a e it:A0):
 Turn P w K (.Tuple elts kk JK) (VE K a) [e,it] e (λi h=>(∃old,IsEnum h e it ((i:Nat):Int) old)/\h.IsListIter it a i/\e≠it)where
 mem:=by simp
 obj:=λi h st b hb=>by
  w_up;obtain⟨⟨old,he⟩,⟨o,ho,hc,hd⟩,_⟩:=st;fin2;have e':b=e\/b=it:=by simpa using hb
  rcases e' with z|z
  .rw[z];exact⟨_,he,λv q=>nomatch q⟩
  .rw[z];exact⟨o,ho,λv q=>by rw[hd]at q;cases q⟩
 keep:=λi h h' st k=>let⟨⟨old,he⟩,hi,Bx⟩:=st;⟨⟨old,k e (by simp) _ he⟩,hi.at λo q=>k it (by simp) o q,Bx⟩
 item:=by
  intro X hP hw hK hc i pins s σ H E I hf st hg;subst hP hw hK;w_up;obtain⟨⟨old,he⟩,hit,Bx⟩:=st;obtain⟨xs,x,hq,hx⟩:=hg;obtain⟨its,rv,p,hz⟩:=I.list hq;obtain⟨u,hu,ru⟩:=rv.get hx;fin2;have tJ:e<s.heap.objs.size:=BZ he;have LO:it<s.heap.objs.size:=by obtain⟨_,q,_⟩:=hit;exact BZ q
  refine wpAny_pyNext_enum_item he hit p.isList (x:=u) (by simpa using hu) Bx λh' ho alL hT hsz hk=>?_;refine⟨_,rfl,wpAny_letOwnedTupleGo_enum (s:={s with heap:=h',toks:=s.toks+1}) ho λFp gq sb=>?_⟩;have Vz:Fp.get? s.heap.objs.size=some {cls:=.type "tuple",data:=.seq #[.int i s.toks,u]}:=(sb.2 _ (Ly tJ)).trans hT;have new:Dg X.prog X.w (upd H s.heap.objs.size (.tup [.int (i:Nat),x])) Fp s.heap.objs.size (.tup [.int (i:Nat),x]):=
   ⟨by show 2<=Al;decide,[.int i s.toks,u],.cons ⟨_,rfl⟩ (.cons ru .nil),⟨_,Vz,rfl,_,rfl⟩⟩
  have I1:Inv X pins σ (upd H s.heap.objs.size (.tup [.int (i:Nat),x])) {s with heap:=Fp,toks:=s.toks+1}:=
   I.mY (ch:=[e,it]) (λb ob hb q=>(sb.2 b (λz=>hb (by simp[z]))).trans (hk b ob (λz=>hb (by simp[z])) (λz=>hb (by simp[z])) q)) hf (Az _) new
  refine⟨.ref s.heap.objs.size,_,I1,rfl,⟨_,x,rfl,I.AZ.fresh (Az _),rfl,λys hy=>by rw[I.QK hy hq];exact hx⟩,⟨⟨u,?_⟩,alL.at λo q=>(sb.2 it (Ct Bx)).trans q,Bx⟩,λb hb=>?_⟩
  .have e1:((i+1:Nat):Int)=(i:Int)+1:=by lia
   rw[e1];exact gq
  .have KR:b<s.heap.objs.size:=by
    have e':b=e\/b=it:=by simpa using hb
    rcases e' with z|z
    .rw[z];exact tJ
    .rw[z];exact LO
   rw[AY (DU KR)];exact(hf b hb).1
 done:=by
  intro X hP hw hK hc i pins s σ H E I hf st hg;subst hP hw hK;w_up;obtain⟨⟨old,he⟩,hit,Bx⟩:=st;obtain⟨xs,hq,hx⟩:=hg;obtain⟨its,rv,p,hz⟩:=I.list hq;obtain⟨f0,f1,f2,f3,f4,f5⟩:=hf it (by simp);fin2;have hl:=rv.length;exact wpAny_pyNext_enum_end (I.ok.hd hc) he hit p.isList (by simp;lia) λh' eb=>⟨rfl,I.turned (t':=s.toks) (λb o hb q=>eb b o hb q) f0 f1 f3 f4 f5⟩
 self:=λA i s Q E st h=>let⟨⟨_,he⟩,_⟩:=st;adz he h
def uP(K:Ae)(ta:TA):TI:=λσ H R=>ta σ H λvs H1=>FY vs λx=>Bm x λa=>∃xs,A4 K H1 a xs/\R (VE K a) H1
def WU{X:Cx}{e:B7}{ta:TA}(hg:Gl X "enumerate")(hm:X.mg "enumerate"=none)(ha:PA X [e] ta)(hs:autoParam (B0 [e] X.env=[(false,As e X.env)]) auR):
 PI X (.Tuple elts kk JK) (.Call (.Name "enumerate" p) [e] [] pos) (uP X.K ta):=by
 intro pins s σ H R I h;refine Call_ (NP I hg hm boot_enumerate (P4 (J9 (ha pos pins s σ H _ I h) λus s1 vs H1 I1 r1 q1=>?_) hs rfl));obtain⟨a,ex,xs,hq,q⟩:=ka q1;subst ex;cases r1 with
 |cons r rr=>
  cases rr;cases r;obtain⟨its,rv,p',hz⟩:=I1.list hq;refine call_enumerate_list p'.isList λh' he hit hsz hk=>adz he ?_;have I2:Inv X pins σ H1 {s1 with heap:=h'}:=I1.kept (t':=s1.toks) hk;refine⟨s1.heap.objs.size+1,[s1.heap.objs.size+1,s1.heap.objs.size],_,_,H1,rfl,I2,auL a (s1.heap.objs.size+1) s1.heap.objs.size,⟨⟨.none,he⟩,hit,Nat.succ_ne_self _⟩,λb hb=>?_,q⟩;have e':b=s1.heap.objs.size+1\/b=s1.heap.objs.size:=by simpa using hb
  have hle:s1.heap.objs.size<=b:=by
   rcases e' with z|z
   .rw[z];exact Fy _ _
   .rw[z];exact Az _
  exact I1.KJ hle (I1.AZ.fresh hle)
def qK:IX "zip"=some (.type "zip"):=by decide+kernel
def VF(K:Ae)(a b:A0):It:=
 ⟨λi H=>∃(xs ys:List V)(x y:V),A4 K H a xs/\A4 K H b ys/\xs[i]? =some x/\ys[i]? =some y,
  λi H v H'=>∃T x y,v=.ref T/\H T=none/\H'=upd H T (.tup [x,y])/\(∀xs,A4 K H a xs->xs[i]? =some x)/\∀ys,A4 K H b ys->ys[i]? =some y,
  λi H=>∃xs ys:List V,A4 K H a xs/\A4 K H b ys/\(xs.length<=i\/ys.length<=i)⟩
def auW{P:Bs}{w:Bg}{K:Ae}{elts:List B7}{kk:Nat}{JK:Pos}{a b z TI TO i1 i2:A0}(D:ZipApart z TI TO i1 i2 a b):
 Turn P w K (.Tuple elts kk JK) (VF K a b) [z,TI,TO,i1,i2] z (λi h=>Gb h z TI TO .none/\IsPair h TI (.ref i1) (.ref i2)/\(∃x y,IsPair h TO x y)/\h.IsListIter i1 a i/\h.IsListIter i2 b i)where
 mem:=by simp
 obj:=λi h st c hc=>by
  w_up;obtain⟨hz,Cq,⟨x,y,DE⟩,⟨o1,e1,_,d1⟩,⟨o2,e2,_,d2⟩⟩:=st;fin2;have e':c=z\/c=TI\/c=TO\/c=i1\/c=i2:=by simpa using hc
  rcases e' with q|q|q|q|q
  .rw[q];exact⟨_,hz,λv q=>nomatch q⟩
  .rw[q];exact⟨_,Cq,λv q=>nomatch q⟩
  .rw[q];exact⟨_,DE,λv q=>nomatch q⟩
  .rw[q];exact⟨o1,e1,λv q=>by rw[d1]at q;cases q⟩
  .rw[q];exact⟨o2,e2,λv q=>by rw[d2]at q;cases q⟩
 keep:=λi h h' st k=>by
  w_up;obtain⟨hz,Cq,⟨x,y,DE⟩,h1,h2⟩:=st;fin2;exact⟨k z (by simp) _ hz,k TI (by simp) _ Cq,⟨x,y,k TO (by simp) _ DE⟩,h1.at λo q=>k i1 (by simp) o q,h2.at λo q=>k i2 (by simp) o q⟩
 item:=by
  intro X hP hw hK hc i pins s σ H E I hf st hg;subst hP hw hK;w_up;obtain⟨hz,Cq,⟨x0,y0,DE⟩,h1,h2⟩:=st;obtain⟨xs,ys,x,y,J3,KW,hx,hy⟩:=hg;obtain⟨its,rv,p,_⟩:=I.list J3;obtain⟨J4,Qg,p2,_⟩:=I.list KW;obtain⟨u,hu,ru⟩:=rv.get hx;obtain⟨u2,jW,lj⟩:=Qg.get hy;fin2;have LU:z<s.heap.objs.size:=BZ hz;refine wpAny_pyNext_zip_item D hz Cq DE h1 h2 p.isList p2.isList (x:=u) (y:=u2) (by simpa using hu) (by simpa using jW) λh' z' gC iF SR hT hsz hk=>?_;refine⟨_,rfl,adM (s:={s with heap:=h'}) z' λFp mB sb=>?_⟩;have Vz:Fp.get? s.heap.objs.size=some {cls:=.type "tuple",data:=.seq #[u,u2]}:=(sb.2 _ (Ly LU)).trans hT;have new:Dg X.prog X.w (upd H s.heap.objs.size (.tup [x,y])) Fp s.heap.objs.size (.tup [x,y]):=
   ⟨by show 2<=Al;decide,[u,u2],.cons ru (.cons lj .nil),⟨_,Vz,rfl,_,rfl⟩⟩
  have I1:Inv X pins σ (upd H s.heap.objs.size (.tup [x,y])) {s with heap:=Fp}:=
   I.mY (t':=s.toks) (ch:=[z,TI,TO,i1,i2]) (λc o hb q=>(sb.2 c (λq'=>hb (by simp[q']))).trans (hk c o (λq'=>hb (by simp[q'])) (λq'=>hb (by simp[q'])) (λq'=>hb (by simp[q'])) (λq'=>hb (by simp[q'])) q)) hf (Az _) new
  refine⟨.ref s.heap.objs.size,_,I1,rfl,⟨_,x,y,rfl,I.AZ.fresh (Az _),rfl,λl hl=>by rw[I.QK hl J3];exact hx,λl hl=>by rw[I.QK hl KW];exact hy⟩,⟨mB,?_,⟨u,u2,?_⟩,?_,?_⟩,λc LL=>?_⟩
  .exact(sb.2 _ D.TIz).trans (hk _ _ D.TIz D.TITO D.TIi1 D.TIi2 Cq)
  .exact(sb.2 _ D.TOz).trans gC
  .exact iF.at λo q=>(sb.2 _ D.i1z).trans q
  .exact SR.at λo q=>(sb.2 _ D.i2z).trans q
  .have B3:c<s.heap.objs.size:=by
    have e':c=z\/c=TI\/c=TO\/c=i1\/c=i2:=by simpa using LL
    rcases e' with q|q|q|q|q
    .rw[q];exact LU
    .rw[q];exact BZ Cq
    .rw[q];exact BZ DE
    .rw[q];obtain⟨_,e1,_⟩:=h1;exact BZ e1
    .rw[q];obtain⟨_,e2,_⟩:=h2;exact BZ e2
   rw[AY (DU B3)];exact(hf c LL).1
 done:=by
  intro X hP hw hK hc i pins s σ H E I hf st hg;subst hP hw hK;w_up;obtain⟨hz,Cq,⟨x0,y0,DE⟩,h1,h2⟩:=st;obtain⟨xs,ys,J3,KW,tL⟩:=hg;obtain⟨its,rv,p,_⟩:=I.list J3;obtain⟨J4,Qg,p2,_⟩:=I.list KW;fin2;have l1:=rv.length;have l2:=Qg.length;have he:its.toArray[i]? =none\/J4.toArray[i]? =none:=by
   rcases tL with q|q
   .exact .inl (by simp;lia)
   .exact .inr (by simp;lia)
  exact wpAny_pyNext_zip_end (I.ok.hd hc) D hz Cq DE h1 h2 p.isList p2.isList he λh' hk=>⟨rfl,I.acv (t':=s.toks) (ch:=[z,TI,TO,i1,i2]) (λc o hb q=>
   hk c o (λq'=>hb (by simp[q'])) (λq'=>hb (by simp[q'])) (λq'=>hb (by simp[q'])) (λq'=>hb (by simp[q'])) q) hf⟩
 self:=λA i s Q E st h=>Yx st.1 h
def uW(K:Ae)(ta:TA):TI:=λσ H R=>ta σ H λvs H1=>K5 vs λx y=>Bm x λa=>Bm y λb=>∃xs ys,A4 K H1 a xs/\A4 K H1 b ys/\R (VF K a b) H1
def Mn{X:Cx}{e e2:B7}{ta:TA}{p pos JK:Pos}{elts:List B7}{kk:Nat}(hg:Gl X "zip")(hm:X.mg "zip"=none)(ha:PA X [e,e2] ta)
 (hs:autoParam (B0 [e,e2] X.env=(false,As e X.env)::B0 [e2] X.env) auR)(Ax:autoParam ((D7 pos (B0 [e2] X.env)).any (·.1)=false) auR):
 PI X (.Tuple elts kk JK) (.Call (.Name "zip" p) [e,e2] [] pos) (uW X.K ta):=by
 intro pins s σ H R I h;refine Call_ (NP I hg hm qK (P4 (J9 (ha pos pins s σ H _ I h) λus s1 vs H1 I1 r1 q1=>?_) hs Ax));w_up;obtain⟨a,b,ex,xs,ys,J3,KW,q⟩:=aoN q1;fin2;subst ex;cases r1 with
 |cons r rr=>
  cases rr with
  |cons r' rr=>
   cases rr;cases r;cases r';w_up;obtain⟨its,rv,p1,_⟩:=I1.list J3;obtain⟨J4,Qg,p2,_⟩:=I1.list KW;fin2;have la:a<s1.heap.objs.size:=p1.lt;have lb:b<s1.heap.objs.size:=p2.lt;refine call_zip_2 p1.isList p2.isList λh' hz Cq DE h1 h2 hsz hk=>Yx hz ?_;have I2:Inv X pins σ H1 {s1 with heap:=h'}:=I1.kept (t':=s1.toks) hk;refine⟨s1.heap.objs.size+4,[s1.heap.objs.size+4,s1.heap.objs.size+2,s1.heap.objs.size+3,s1.heap.objs.size,s1.heap.objs.size+1],_,_,H1,rfl,I2,auW (PySem.W.ktu_apart s1.heap.objs.size a b la lb),⟨hz,Cq,⟨_,_,DE⟩,h1,h2⟩,λc LL=>?_,q⟩;have e':c=s1.heap.objs.size+4\/c=s1.heap.objs.size+2\/c=s1.heap.objs.size+3\/c=s1.heap.objs.size\/c=s1.heap.objs.size+1:=by simpa using LL
   have hle:s1.heap.objs.size<=c:=by
    rcases e' with z|z|z|z|z
    .rw[z];exact Fy _ _
    .rw[z];exact Fy _ _
    .rw[z];exact Fy _ _
    .rw[z];exact Az _
    .rw[z];exact Fy _ _
   exact I1.KJ hle (I1.AZ.fresh hle)
end L2
section
namespace Sb
open PySem PyProof.Rows
def anj(k:Nat):∀a b:Nat,a<2^k->a&&&(b*2^k)=0:=by
 induction k with
 |zero=>
  intro a b h;have h0:a=0:=by
   rw[aet]at h;lia
  subst h0;simp
 |succ k ih=>
  intro a b h;have hm:(b*2^(k+1))=(b*2^k)*2:=by rw[FH,B6]
  have B3:a/2<2^k:=by
   rw[FH]at h;generalize 2^k=m at h⊢;lia
  have i:=ih (a/2) b B3;rw[hm];generalize b*2^k=B at i⊢;have e:(a&&&(B*2))/2=a/2&&&(B*2)/2:=aeO;have e2:(B*2)/2=B:=by lia
  have o:=@adh a (B*2);rw[e2,i]at e;lia
def anh(m k:Nat):(m:Int)*2^k=((m*2^k:Nat):Int):=by
 rw[ZA];first
  |exact(CK _ _).symm
  |simp
def qD(h0:0<=a)(h1:a<2^k)(hb:0<=b):Lo a (b*2^k)=a+b*2^k:=by
 obtain⟨n,rfl⟩:=NU h0;obtain⟨m,rfl⟩:=NU hb;have hn:n<2^k:=by
  rw[ZA]at h1;lia
 have e:Hq (n:Int) ((m*2^k:Nat):Int)=0:=by
  rw[Np (by lia) (by lia),Fw,Fw,anj k n m hn]<;>rfl
 rw[anh,bitOr_and,e];lia
def afv(k:Nat)(hx:0<=x):Hq x (2^k-1)=x %2^k:=by
 obtain⟨n,rfl⟩:=NU hx;have hp:0<2^k:=BF k;rw[ZA];have e:((2^k:Nat):Int)-1=((2^k-1:Nat):Int):=by
  generalize(2:Nat)^k=m at hp;omega
 rw[e,Np (by omega) (by omega),Fw,Fw,Nat.and_two_pow_sub_one_eq_mod];first
  |rfl
  |exact aeW _ _
  |simp
def ank(m:Nat):∀n:Nat,(m^^^n)+2*(m&&&n)=m+n:=by
 induction m using Nat.strongRecOn with
 |_ m ih=>
  intro n;by_cases h0:m=0
  .subst h0;simp
  .have ih':=ih (m/2) (by lia) (n/2);rw[<-Nat.xor_div_two,<-aeO]at ih';have o1:=@Nat.xor_mod_two_eq_one m n;have a1:=@adh m n;lia
def afQ(hx:0<=x)(hy:0<=y):Yv x y=((x.toNat^^^y.toNat:Nat):Int):=by
 have e:=ank x.toNat y.toNat;rw[bitXor_and,Np hx hy];omega
def afw(hx:0<=x)(hy:0<=y):Lo x y=((x.toNat|||y.toNat:Nat):Int):=by
 have e:=nat_or_add_and x.toNat y.toNat;rw[bitOr_and,Np hx hy];omega
end Sb
end
section
namespace TL
open PySem PySem.Builtin PySem.Builtin.Str PySem.StrLaws
abbrev tl(x:Str):List Nat:=x.cps.toList
def QJ(x:Str):x.length=(tl x).length:=by simp[tl,Str.length]
def f9(h:tl x=tl y):x=y:=Str.ext' (Array.toList_inj.mp h)
def acn(x y:Str):tl (x++y)=tl x++tl y:=by
 show(x++y).cps.toList=_;rw[Str.cps_append,Array.toList_append]
def vi:∀{l m:List Str},l.map tl=m.map tl->l=m
 |[],[],_=>rfl
 |[],_::_,h=>by simp at h
 |_::_,[],h=>by simp at h
 |x::l,y::m,h=>by
  rw[BW,BW]at h;injection h with h1 h2
  rw[f9 h1,vi h2]
def au7(s:String):tl (EB s)=s.toList.map Char.toNat:=avV s
def pre(S l:List Nat):Bool:=l.take S.length==S
def Dr(S:List Nat):Nat->List Nat->List Nat->List (List Nat)
 |_,acc,[]=>[acc]
 |0,acc,c::r=>if pre S (c::r)=true then acc::Dr S (S.length-1) [] r else Dr S 0 (acc++[c]) r
 |k+1,acc,_::r=>Dr S k acc r
def par(S:List Nat):List Nat->List Nat->Option (List Nat×List Nat)
 |_,[]=>none
 |acc,c::r=>if pre S (c::r)=true then some (acc,(c::r).drop S.length)else par S (acc++[c]) r
def Xh(S:List Nat)(k:Nat)(acc:List Nat):Dr S k acc []=[acc]:=by cases k<;>rfl
def ac7(h:pre S (c::r)=true):Dr S 0 acc (c::r)=acc::Dr S (S.length-1) [] r:=by
 show(if pre S (c::r)=true then acc::Dr S (S.length-1) [] r else Dr S 0 (acc++[c]) r)=_;rw[if_pos h]
def ac8(h:pre S (c::r)=false):Dr S 0 acc (c::r)=Dr S 0 (acc++[c]) r:=by
 show(if pre S (c::r)=true then acc::Dr S (S.length-1) [] r else Dr S 0 (acc++[c]) r)=_;rw[if_neg (by rw[h];exact DR)]
def ac9(S:List Nat):∀(k:Nat)(acc l:List Nat),Dr S k acc l=Dr S 0 acc (l.drop k)
 |0,_,_=>by rw[Nh]
 |k+1,acc,[]=>by rw[List.drop_nil,Xh,Xh]
 |k+1,acc,c::r=>by
  show Dr S k acc r=Dr S 0 acc (r.drop k);exact ac9 S k acc r
def ap2(hS:S≠[]):pre S []=false:=by
 cases S with
 |nil=>exact absurd rfl hS
 |cons s S=>rfl
def ap3(S r:List Nat)(h:c≠s):pre (s::S) (c::r)=false:=by
 cases hp:pre (s::S) (c::r)with
 |false=>rfl
 |true=>
  have e:(c::r).take (s::S).length=s::S:=eq_of_beq hp;rw[B4,adS]at e;injection e with e1 e2
  exact absurd e1 h
def aj9{L:List Nat}(h:a<L.length):∃c,L.drop a=c::L.drop (a+1):=⟨L[a],YQ h⟩
def kc(S L:List Nat):∀(m a:Nat)(acc:List Nat),a+m<=L.length->(∀k,a<=k->k<a+m->pre S (L.drop k)=false)->
 Dr S 0 acc (L.drop a)=Dr S 0 (acc++(L.drop a).take m) (L.drop (a+m))
 |0,a,acc,_,_=>by rw[oI,JD,JE]
 |m+1,a,acc,h,hn=>by
  have B3:a<L.length:=by lia
  obtain⟨c,e⟩:=aj9 B3;have h0:=hn a (Az _) (by lia);have ih:=kc S L m (a+1) (acc++[c]) (by lia) (λk h1 h2=>hn k (by lia) (by lia));have e2:a+1+m=a+(m+1):=by lia
  rw[e2]at ih;rw[e]at h0;rw[e,ac8 h0,ih,adS,Hs]<;>rfl
def agf(L:List Nat)(a b:Nat):(L.drop a).drop b=L.drop (a+b):=by
 first
  |rw[PN]
  |rw[PN,Fi]
def aup{S L:List Nat}(hS:S≠[])(h:pre S (L.drop c)=true):Dr S 0 acc (L.drop c)=acc::Dr S 0 [] (L.drop (c+S.length)):=by
 rw[<-agf];cases e:L.drop c with
 |nil=>rw[e,ap2 hS]at h;cases h
 |cons d r=>
  rw[e]at h;rw[ac7 h,ac9];cases S with
  |nil=>exact absurd rfl hS
  |cons s S=>rfl
def pd(hy:tl y≠[])(i:Nat):At x y x.length i↔pre (tl y) ((tl x).drop i)=true:=by
 have hx:=QJ x;have hl:=QJ y;constructor
 .intro h;have h2:=h.2;rw[subAt_eq,hl]at h2;exact h2
 .intro h;have e:((tl x).drop i).take (tl y).length=tl y:=eq_of_beq h;have e1:=congrArg Hy e;rw[EW,Di]at e1;have e2:0<(tl y).length:=adT.mpr hy;refine⟨by lia,?_⟩;rw[subAt_eq,hl];exact h
def x6(hy:tl y≠[])(h:¬At x y x.length i):pre (tl y) ((tl x).drop i)=false:=by
 cases hp:pre (tl y) ((tl x).drop i)with
 |false=>rfl
 |true=>exact absurd ((pd hy i).mpr hp) h
def bq(hy:tl y≠[]):1<=y.length:=by
 have e2:0<(tl y).length:=adT.mpr hy;rw[QJ y];exact e2
def acp(x:Str)(i j:Nat):tl (strSub x i j)=((tl x).drop i).take (j-i):=strSub_toList x i j
def auA(x:Str)(i:Nat):tl (strSub x i x.length)=(tl x).drop i:=by
 rw[acp,QJ x];exact Lk (by rw[Di]<;>lia)
def y6{x y:Str}(hy:tl y≠[]):∀(rj:List Nat)(a f:Nat),a<=(tl x).length->ChainG x y x.length a rj f->(∀k,f<=k->¬At x y x.length k)->
 (partsFrom x y.length a rj).map tl=Dr (tl y) 0 [] ((tl x).drop a)
 |[],a,f,ha,h,hn=>by
  have e:f=a:=h;subst e;show[tl (strSub x f x.length)]=_;have run:=kc (tl y) (tl x) ((tl x).length-f) f [] (by lia) (λk h1 _=>x6 hy (hn k h1));have e2:f+((tl x).length-f)=(tl x).length:=by lia
  rw[e2,Yy,Xh,Ko,Lk (by rw[Di]<;>lia)]at run;rw[run,auA]
 |c::r,a,f,ha,h,hn=>by
  obtain⟨h1,h2,h3,h4⟩:=h;have hc:c+y.length<=x.length:=h2.1;have hx:=QJ x;have hl:=QJ y;have ih:=y6 hy r (c+y.length) f (by lia) h4 hn;show tl (strSub x a c)::(partsFrom x y.length (c+y.length) r).map tl=_;have run:=kc (tl y) (tl x) (c-a) a [] (by lia) (λk k1 k2=>x6 hy (h3 k k1 (by lia)));have e2:a+(c-a)=c:=by lia
  rw[e2,Ko,aup hy ((pd hy c).mp h2)]at run;rw[run,ih,acp,hl]
def auq(x y:Str)(hy:tl y≠[])(hk:¬Jk x<Jk y):(M0 x y).map tl=Dr (tl y) 0 [] (tl x):=by
 obtain⟨f,g,hn⟩:=occ_tight x y (bq hy);have key:=y6 hy _ 0 f (Er _) g hn;rw[Nh]at key;have x8:occurrences x y 0 x.length (x.length+1)=[]->[x].map tl=Dr (tl y) 0 [] (tl x):=λho=>by
  rw[ho]at key;rw[<-key];show[tl x]=[tl (strSub x 0 x.length)];rw[sub_whole]
 unfold M0;by_cases h1:(decide (x.length<y.length)||decide (Jk x<Jk y))=true
 .rw[if_pos h1];have B3:x.length<y.length:=by
   simp only[RT,decide_eq_true_eq]at h1;rcases h1 with h|h
   .exact h
   .exact absurd h hk
  refine x8 ?_;cases ho:occurrences x y 0 x.length (x.length+1)with
  |nil=>rfl
  |cons c r=>
   rw[ho]at g;have hc:c+y.length<=x.length:=g.2.1.1;lia
 .rw[if_neg h1];by_cases h2:(occurrences x y 0 x.length (x.length+1)).isEmpty=true
  .rw[if_pos h2];exact x8 (List.isEmpty_iff.mp h2)
  .rw[if_neg h2,partsBetween_eq];exact key
def aln(h:y.cps.all (·<256)=true):¬Jk x<Jk y:=by
 have e:Jk y=1:=by unfold Jk;rw[if_pos h]
 rw[e];unfold Jk;split
 .lia
 .split<;>lia
def Vs(S:List Nat):List (List Nat)->List Nat
 |[]=>[]
 |[p]=>p
 |p::q::r=>p++(S++Vs S (q::r))
def aco(y:Str):∀parts:List Str,tl (pQ y parts)=Vs (tl y) (parts.map tl)
 |[]=>rfl
 |[_]=>rfl
 |x::z::r=>by
  show tl (x++y++pQ y (z::r))=tl x++(tl y++Vs (tl y) ((z::r).map tl));rw[acn,acn,aco y (z::r),Hs]
def join_eq(y:Str)(parts:List Str):Zc y parts=pQ y parts:=glued_eq_join y parts
end TL
end
namespace L2
open PySem PySem.Spec PyProof.Rows
def acR:∀l:List (Str×Tok),Ai ((l.map (·.1)).map V.str) (strValues l)
 |[]=> .nil
 |p::r=> .cons ⟨p.2,rfl⟩ (acR r)
def mG:∀{ys:List Str}{us:List A5},Ai (ys.map V.str) us->StrsAre us ys
 |[],_,.nil=> .nil
 |y::ys,_,.cons r t=>by
  obtain⟨k,rfl⟩:=r;exact .cons y k (mG t)
def XN(ys:List Str):Hp->VK->Prop:=λH Q=>∀p,H p=none->Q (.ref p) (upd H p (.lst (ys.map V.str)))
section
variable{X:Cx}{pins:List (A0×Obj)}{σ:St}{H:Hp}{s:AA}{Q:VK}
def j0(I:Inv X pins σ H s)(e:l.map (·.1)=ys)(hz:ys.length<=Al)(h:XN ys H Q):
 EP X pins σ Q (.ref s.heap.objs.size) {s with toks:=k,heap:=s.heap.push {cls:=.type "list",data:=.seq (strValues l).toArray}}:=by
 have hp:=I.AZ.fresh (Az _);refine⟨.ref s.heap.objs.size,upd H s.heap.objs.size (.lst (ys.map V.str)),I.laid (λb u q=>BK _ q) (Az _) ⟨by rw[AV];exact hz,strValues l,_,?_,C_ _ rfl⟩,rfl,h _ hp⟩;rw[<-e];exact acR l
end
section
variable{X:Cx}
def anc:KA X "str.split" (λx xs H Q=>∃a b,x=.str a/\xs=[.str b]/\(b.length==0)=false/\a.length+2<=Al/\XN (M0 a b) H Q):=by
 intro pins s σ H x xs v us Q I rx rs h;w_up;obtain⟨a,b,rfl,rfl,hb,hz,h⟩:=h;obtain⟨t,rfl⟩:=rx;fin2;cases rs with
 |cons r1 rs=>
  cases rs;obtain⟨u,rfl⟩:=r1;have hl:(M0 a b).length<=Al:=Ao (awI a b) hz;have hn:(adH a (mx a b 0 a.length (a.length+1)) b.length).length<=Al:=by
   have e1:=StrLaws.occ_length_le a b 0 a.length (a.length+1);rw[length_partsBetween];lia
  cases h1:(decide (a.length<b.length)||decide (Jk a<Jk b))
  .cases hf:(mx a b 0 a.length (a.length+1)).isEmpty
   .refine Nl Yz (Rf _ _ _) oG (nQ _ _) (meets_str_split_sep a b t u h1 hb hf (by lia) hn) ?_;show EP X pins σ Q (.ref s.heap.objs.size) {s with toks:=_,heap:=s.heap.push {cls:=.type "list",data:=.seq (strsFrom s.toks (adH a (mx a b 0 a.length (a.length+1)) b.length)).toArray}};rw[strsFrom_eq];exact j0 (ys:=M0 a b) I ((numbered_texts _ _).trans ((if_neg (ne_true_of_eq_false h1)).trans (if_neg (ne_true_of_eq_false hf))).symm) hl h
   .refine Nl Yz (Rf _ _ _) oG (nQ _ _) (meets_str_split_not_found a b t u h1 hb hf) ?_;exact j0 (l:=[(a,t)]) (ys:=M0 a b) (k:=s.toks) I ((if_neg (ne_true_of_eq_false h1)).trans (if_pos hf)).symm hl h
  .refine Nl Yz (Rf _ _ _) oG (nQ _ _) (meets_str_split_cannot_occur a b t u h1) ?_;exact j0 (l:=[(a,t)]) (ys:=M0 a b) (k:=s.toks) I (if_pos h1).symm hl h
def anb:KA X "str.join" (λx xs H Q=>∃a p,∃ys:List Str,x=.str a/\xs=[.ref p]/\(A4 X.K H p (ys.map V.str)\/C6 X.K H p (ys.map V.str))/\
 (ys.map (·.length)).sum+ys.length*a.length<=16777216/\Q (.str (Zc a ys)) H):=by
 intro pins s σ H x xs v us Q I rx rs h;w_up;obtain⟨a,p,ys,rfl,rfl,hp,hz,h⟩:=h;obtain⟨t,rfl⟩:=rx;fin2;cases rs with
 |cons r1 rs=>
  cases rs;cases r1;rcases hp with hp|hp
  .obtain⟨its,r,⟨o,n,ho,hc,_,hd⟩,_⟩:=I.list hp;exact awC (items:=its.toArray) ⟨o,ho,hc,n,hd⟩ (by rw[adU];exact mG r) hz λt' k=>⟨.str _,H,I.tok k,⟨t',rfl⟩,h⟩
  .obtain⟨its,r,ht,_⟩:=I.tuple hp;exact awF (items:=its.toArray) ht (by rw[adU];exact mG r) hz λt' k=>⟨.str _,H,I.tok k,⟨t',rfl⟩,h⟩
def mt0{id:String}{C:Str->Prop}{g:Str->V}(Gc:∀(a:Str)(t:Tok)(s:AA)(Q:A5->AA->Prop),C a->(∀(u:A5)(k:Nat),RelV (g a) u->Q u {s with toks:=k})->
 AJ (AU X.prog X.w) X.A (HQ (.builtin id) [.str a t]) Q X.xe s):KA X id (λx xs H Q=>∃a,x=.str a/\xs=[]/\C a/\Q (g a) H):=by
 intro pins s σ H x xs v us Q I rx rs h;obtain⟨a,rfl,rfl,hc,h⟩:=h;obtain⟨t,rfl⟩:=rx;cases rs;exact Gc a t s _ hc λu k r=>⟨g a,H,I.tok k,r,h⟩
def ana:KA X "str.isdigit" (λx xs H Q=>∃a,x=.str a/\xs=[]/\True/\Q (.bl (UU a)) H):=
 mt0 (C:=λ_=>True) (g:=λa=> .bl (UU a)) λ_ _ s _ _ h=>PySem.SC.isdigit (h _ s.toks rfl)
def mt1{id:String}{g:Str->Str->V}(Gc:∀(a b:Str)(t u:Tok)(s:AA)(Q:A5->AA->Prop),(∀(v:A5)(k:Nat),RelV (g a b) v->Q v {s with toks:=k})->
 AJ (AU X.prog X.w) X.A (HQ (.builtin id) [.str a t,.str b u]) Q X.xe s):KA X id (λx xs H Q=>∃a b,x=.str a/\xs=[.str b]/\Q (g a b) H):=by
 intro pins s σ H x xs v us Q I rx rs h;obtain⟨a,b,rfl,rfl,h⟩:=h;obtain⟨t,rfl⟩:=rx;cases rs with
 |cons r1 rs=>
  cases rs;obtain⟨u,rfl⟩:=r1;exact Gc a b t u s _ λv k r=>⟨g a b,H,I.tok k,r,h⟩
def vK:KA X "str.startswith" (λx xs H Q=>∃a b,x=.str a/\xs=[.str b]/\Q (.bl (UG a b)) H):=
 mt1 (g:=λa b=> .bl (UG a b)) λ_ _ _ _ s _ h=>PySem.SC.startswith (h _ s.toks rfl)
def afx:JO X (.type "int") (λxs H Q=>∃a n,xs=[.str a]/\aeh a=some n/\a.length<=640/\Q (.int n) H):=by
 intro pins s σ H xs us Q I rs h;obtain⟨a,n,rfl,hn,hl,h⟩:=h;cases rs with
 |cons r1 rs=>
  cases rs;obtain⟨t,rfl⟩:=r1;exact PySem.W.KIN.call_text hn hl ⟨.int n,H,I.tok _,⟨_,rfl⟩,h⟩
end
section
variable{X:Cx}{o e:B7}{to te:TE}
def abc(r:V->List V->Hp->VK->Prop)(to:TE):TE:=λσ H Q=>to σ H λx H1=>(∃a,x=.str a)/\r x [] H1 Q
def Xk(r:V->List V->Hp->VK->Prop)(to te:TE):TE:=λσ H Q=>to σ H λx H1=>(∃a,x=.str a)/\te σ H1 λy H2=>r x [y] H2 Q
def apW{id:String}{name:Str}(slot:Slot "str" name id)(ty:typeOf (.builtin id)=pure (.type "method_descriptor"))(Gc:KA X id r)(ho:PE X o to)
 (Ha:autoParam (Kt o name X.env (As o X.env)=As o X.env) auR)(J1:autoParam ((apos.endLine==pos.line)=true) auR):PE X (.Call (.Attribute o name apos) [] [] pos) (abc r to):=by
 intro pins s σ H Q I h;refine PySem.Call_method0 Ha J1 (Bi (ho pins s σ H _ I h) λv s1 x H1 I1 r1 q1=>?_);obtain⟨⟨a,rfl⟩,q1⟩:=q1;obtain⟨t,rfl⟩:=_root_.id r1;exact⟨"str",_,aeX,slot,ty,Rf _ _ _,(λ_ e=>nomatch e),YN rfl (adQ (Gc pins s1 σ H1 _ [] _ [] Q I1 r1 .nil q1))⟩
def Y4{id:String}{name:Str}(slot:Slot "str" name id)(ty:typeOf (.builtin id)=pure (.type "method_descriptor"))(Gc:KA X id r)(ho:PE X o to)(he:PE X e te)
 (hs:autoParam (B0 [e] X.env=[(false,As e X.env)]) auR)(Ha:autoParam (Kt o name X.env (As o X.env)=As o X.env) auR)(J1:autoParam ((apos.endLine==pos.line)=true) auR):
 PE X (.Call (.Attribute o name apos) [e] [] pos) (Xk r to te):=by
 intro pins s σ H Q I h;refine PySem.Call_method1 Ha hs J1 (Bi (ho pins s σ H _ I h) λv s1 x H1 I1 r1 q1=>?_);obtain⟨⟨a,rfl⟩,q1⟩:=q1;obtain⟨t,rfl⟩:=_root_.id r1;refine⟨"str",_,aeX,slot,ty,Rf _ _ _,(λ_ e=>nomatch e),YN rfl (nX (aeB ?_))⟩;exact Bi (he pins s1 σ H1 _ I1 q1) λu s2 y H2 I2 r2 q2=>adx (Gc pins s2 σ H2 _ [y] _ [u] Q I2 r1 (.cons r2 .nil) q2)
def jm(ho:PE X o to)(he:PE X e te)(hs:autoParam (B0 [e] X.env=[(false,As e X.env)]) auR)(Ha:autoParam (Kt o "split" X.env (As o X.env)=As o X.env) auR)(J1:autoParam ((apos.endLine==pos.line)=true) auR):
 PE X (.Call (.Attribute o "split" apos) [e] [] pos) (Xk (λx xs H Q=>∃a b,x=.str a/\xs=[.str b]/\(b.length==0)=false/\a.length+2<=Al/\XN (M0 a b) H Q) to te):=
 Y4 Yz F.type_str_split anc ho he hs Ha J1
def apU(ho:PE X o to)(he:PE X e te)(hs:autoParam (B0 [e] X.env=[(false,As e X.env)]) auR)(Ha:autoParam (Kt o "join" X.env (As o X.env)=As o X.env) auR)(J1:autoParam ((apos.endLine==pos.line)=true) auR):
 PE X (.Call (.Attribute o "join" apos) [e] [] pos) (Xk (λx xs H Q=>∃a p,∃ys:List Str,x=.str a/\xs=[.ref p]/\(A4 X.K H p (ys.map V.str)\/C6 X.K H p (ys.map V.str))/\
  (ys.map (·.length)).sum+ys.length*a.length<=16777216/\Q (.str (Zc a ys)) H) to te):=
 Y4 F.slot_str_join F.type_str_join anb ho he hs Ha J1
end
end L2
namespace pT
open PySem PySem.W PySem.Calls PyProof.Rows
def amA:∀(ns:List Int)(vs:List A5),WellAll P h vs (ns.map WData.int)->IntsAre vs ns:=by
 intro ns;induction ns with
 |nil=>
  intro vs w;rw[Kr]at w;cases w;exact .nil
 |cons n ns ih=>
  intro vs w;rw[BW]at w;cases w with
  |cons a b=>
   cases a;exact .cons _ _ (ih _ b)
end pT
namespace L2
open PySem PySem.Spec PyProof.Rows
def acQ:∀{vs:List A5}{ns:List Int},IntsAre vs ns->Ai (ns.map V.int) vs
 |_,_,.nil=> .nil
 |_,_,.cons n t h=> .cons ⟨t,rfl⟩ (acQ h)
def agB(H:Hp):Prop:=∀b,H b=none\/∃o xs,H b=some (.CY o (.lst xs))
abbrev KOf{K:Ae}{h:B5}(_:K.In h):Ae:=K
def inClass(s:D8)(j:Nat):D8:=match s with
 | .ClassDef _ _ _ body _ _ _ _ _ _ _=>body.getD j (.Pass ⟨0,0,0,0⟩)
 |_=> .Pass ⟨0,0,0,0⟩
def JT(s:D8):Arguments:=match s with
 | .FunctionDef _ a _ _ _ _ _ _ _ _=>a
 |_=>{posonlyargs:=[],args:=[],vararg:=none,kwonlyargs:=[],kw_defaults:=[],kwarg:=none,defaults:=[]}
def FT(s:D8):List D8:=match s with
 | .FunctionDef _ _ b _ _ _ _ _ _ _=>b
 |_=>[]
def AO(s:D8):G3:=match s with
 | .FunctionDef _ _ _ _ _ _ sc _ _ _=>sc
 |_=>{kind:=.function,names:=[],isGenerator:=false,isCoroutine:=false}
abbrev CX0:K8:=λ_ _ _ _ _ _=>False
structure aF(K:Ae)(x qual:Str)(st:D8)(f:A0)(fd:Rp):Prop where
 ex:∃(oc:A5)(od:Option A0)(kV doc pm:A5)(an:Option A0)(AF ct:A5)(Lf:Array (Option A5)),
  fd=Hu x qual (JT st) (FT st) (AO st) .none kV doc pm an AF ct/\K.lookup f=some ⟨oc,od,.func fd,Lf⟩/\Yl K AF qual=true
 kp:Lr K (.ref f)=true
section
variable{P:Bs}{w:Bg}{K:Ae}{mg:Str->Option A5}{base:B5}
def aF.binds{x qual:Str}{st:D8}(F:aF K x qual st f fd)
 (h:∀(kV doc pm:A5)(an:Option A0)(AF ct:A5)(us:List A5),us.length=ps.length->M3 (Hu x qual (JT st) (FT st) (AO st) .none kV doc pm an AF ct) ⟨us,[]⟩=pure (ps.zip us)):Binds K fd ps []:=by
 obtain⟨oc,od,kV,doc,pm,an,AF,ct,Lf,rfl,lk,J0⟩:=F.ex;exact .all (h kV doc pm an AF ct)
def ajt{x qual:Str}{st:D8}{f:A0}{oc:A5}{od an:Option A0}{Lf:Array (Option A5)}{kV doc pm AF ct:A5}(l:K.lookup f=some ⟨oc,od,.func (Hu x qual (JT st) (FT st) (AO st) .none kV doc pm an AF ct),Lf⟩)
 (c:Yl K AF qual=true)(k:Lr K (.ref f)=true):aF K x qual st f (Hu x qual (JT st) (FT st) (AO st) .none kV doc pm an AF ct):=⟨⟨oc,od,kV,doc,pm,an,AF,ct,Lf,rfl,l,c⟩,k⟩
end
def Vm(hr:By k A):A.units+1<L4:=FD (Nat.add_le_add_left (by decide:1<=64) _) hr.units
section
variable{X:Cx}
def pv(i:Nat)(hN:autoParam (X.N[i]? =some x) auR)(hv:Ny X.env.scope x:=by first|exact A6 rfl|exact C1 (A6 rfl)|exact C1 (C1 rfl))(hd:autoParam ((x==("__debug__":Str))=false) auD)
 (J0:autoParam ((x==("__classdict__":Str))=false) auD):PE X (.Name x pos) (RB i):=yF hN hv hd J0
end
def uE{A B:Prop}(h:B):if false=true then A else B:=by
 rw[if_neg DR];exact h
def uF{A B:Prop}(h:A):if true=true then A else B:=by
 rw[if_pos rfl];exact h
def A2(H H':Hp):Prop:=∀b o,H b=some o->H' b=some o
def A2.refl(H:Hp):A2 H H:=λ_ _ h=>h
def A2.trans(a:A2 H H1)(b:A2 H1 H2):A2 H H2:=λc o h=>b c o (a c o h)
def A2.free(e:A2 H H')(h:H' l=ZP):H l=ZP:=by
 cases q:H l with
 |none=>rfl
 |some o=>
  rw[e l o q]at h;cases h
def A2.seq{K:Ae}{H H':Hp}(e:A2 H H')(h:A4 K H a xs):A4 K H' a xs:=by
 rcases h with(h|⟨o,h⟩)|h
 .exact .inl (.inl (e _ _ h))
 .exact .inl (.inr ⟨o,e _ _ h⟩)
 .exact .inr h
def A2.made(nx:H x=ZP)(nd:H dx=ZP)(k:∀b o,(upd (upd H dx (.own x)) x (.ins C dx [])) b=some o->b≠x->H1 b=some o):A2 H H1:=λb o e=>
 k b o (by rw[AY (Dm e nx),AY (Dm e nd)];exact e) (Dm e nx)
def QF(h:B5)(a:A0)(cls:A5):Option A0->Prop
 |none=>∃oe vs,h.get? a=some oe/\oe.cls=cls/\oe.data=.fields vs/\vs[1]? =some .none
 |some T=>T≠a/\∃oe vs oT ts fl,h.get? a=some oe/\oe.cls=cls/\oe.data=.fields vs/\vs[1]? =some (.ref T)/\h.get? T=some oT/\oT.data=.fields ts/\ts[3]? =some fl
structure G5(fs ch:List A0)(h h':B5):Prop where
 keep:∀b o,h.get? b=some o->b∉fs->b∉ch->h'.get? b=some o
 slot:∀b o,h.get? b=some o->b∉ch->∃sl,h'.get? b=some {o with slots:=sl}
 there:∀b o,h.get? b=some o->∃o',h'.get? b=some o'
def G5.refl(fs ch:List A0)(h:B5):G5 fs ch h h:=⟨λ_ _ e _ _=>e,λ_ o e _=>⟨o.slots,e⟩,λ_ o e=>⟨o,e⟩⟩
def G5.trans(a:G5 fs ch h h1)(b:G5 fs ch h1 h2):G5 fs ch h h2:=
 ⟨λx o e n c=>b.keep x o (a.keep x o e n c) n c,λx o e c=>by
  obtain⟨sl,e1⟩:=a.slot x o e c;obtain⟨sl2,e2⟩:=b.slot x _ e1 c;exact⟨sl2,e2⟩,λx o e=>by
  obtain⟨o1,e1⟩:=a.there x o e;exact b.there x o1 e1⟩
def G5.mono(a:G5 fs ch h h1)(hc:∀b∈ch,b∈fS):G5 fs fS h h1:=
 ⟨λb o e n c=>a.keep b o e n λz=>c (hc b z),λb o e c=>a.slot b o e λz=>c (hc b z),a.there⟩
def xB(g:Array A5->Array A5)(hT:h.get? T=some oT)(hd:oT.data=.fields ts)(hm:T∈ch):G5 fs ch h (h.update T (Ni g)):=by
 have ne:∀b,b≠T->(h.update T (Ni g)).get? b=h.get? b:=λb hb=>Hl _ _ (Ct hb);have same:=P6 (Ni g) hT (mq (Yi hd g));refine⟨λb o e _ hc=>?_,λb o e hc=>⟨o.slots,?_⟩,λb o e=>?_⟩
 .rw[ne b λz=>hc (z▸hm)];exact e
 .rw[ne b λz=>hc (z▸hm)];exact e
 .by_cases z:b=T
  .rw[z];exact⟨_,same⟩
  .rw[ne b z];exact⟨o,e⟩
section
variable{X:Cx}{pins:List (A0×Obj)}{σ:St}{H:Hp}{s:AA}
def Inv.xA(I:Inv X pins σ H s)(n:G5 (ET X.stack) ch s.heap h')(Gn:∀b∈ch,Dj X pins H b):Inv X pins σ H {s with heap:=h'}:=by
 have nf:∀b,H b≠none->b∉ET X.stack/\b∉ch:=λb hb=>⟨λz=>hb (I.kj b z),λz=>hb (Gn b z).1⟩;refine I.call (h':=h') (g':=s.gens) (d':=s.drawn) (t':=s.toks) (ch:=ch) ⟨λb o e _ h1 h2=>n.keep b o e h1 h2,λb o e _ _ h2=>n.slot b o e h2,λb o _ e _=>e,λb o e h2=>n.there b o e,λb xs e=>e,λb o u e=>e,λb ps e=>⟨#[],by simpa using e⟩⟩
  (λa o e=>?_) I.bare λb hb=>⟨(Gn b hb).2.2.2.1,(Gn b hb).2.1,(Gn b hb).2.2.2.2.1,(Gn b hb).2.2.2.2.2⟩
 refine(I.AZ a o e).KZ (λb u hb q=>?_) (λb q=>q) λb xs q=>q;have:H b≠none:=by
  rcases hb with z|z
  .rw[z,e];simp
  .rw[z];simp
 exact n.keep b u q (nf b this).1 (nf b this).2
end
def agN
 (DP:A.frames=some (env::outer))(hl:s.heap.FunFrames base (env::outer))(hf:env.frame=some L)(he:s.heap.get? e=some oe)(hd:oe.data=.fields vs)(hsz:1<vs.size)
 (h:∀h',G5 (ET (env::outer)) [e] s.heap h'->QF h' e oe.cls (some s.heap.objs.size)->Q () {s with heap:=h'}):
 AJ M A (do
  let a<-pN env;let pl<-entryPlaceOf L awg;let b<-nS head a .none (Jx L) .none pl
  setField (.ref e) 1 b) Q E s:=by
 have nfr:e∉ET (env::outer):=λhm=>by
  obtain⟨_,o,ho,i8⟩:=hl.mem hm;rw[he]at ho;cases ho;exact i8 vs hd
 refine AN (wpAny_frameOf_fun DP hl hf λh1 J_=>?_);obtain⟨z1,z2,z3⟩:=J_;refine AN (wpAny_entryPlaceOf λpl Ax=>?_);unfold nS newFields;refine AN (Yd ?_ (Ax.sizeOk5 _ _ _ _ _));generalize uj:({cls:=.type "traceback",dict:=none,data:=.fields ([head,.ref L,.none,Jx L,.none]++(if pl.isEmpty then Ar 6 Ky else pl)).toArray}:Obj)=ob;have tG:h1.get? e=some oe:=(z2 e nfr).trans he;have W6:=BK (h:=h1) ob tG;refine oJ W6 hd hsz ?_;have tz:h1.objs.size≠e:=Ly (BZ tG);have MX:=Yi hd (·.setIfInBounds 1 (Cc h1.objs.size));have tH:=P6 (Ni (·.setIfInBounds 1 (Cc h1.objs.size))) W6 (mq MX);have akv:((h1.push ob).update e (Ni (·.setIfInBounds 1 (Cc h1.objs.size)))).get? h1.objs.size=some ob:=
  (Hl _ _ (Ct tz)).trans (C_ h1 (by rw[<-uj];rfl))
 have kp:∀b o,b≠e->h1.get? b=some o->((h1.push ob).update e (Ni (·.setIfInBounds 1 (Cc h1.objs.size)))).get? b=some o:=λb o hb q=>by
  rw[Hl _ _ (Ct hb)];exact BK _ q
 refine h _ ⟨λb o q hb hc=>kp b o (λz=>hc (z▸C5.mpr rfl)) ((z2 b hb).trans q),λb o q hc=>?_,λb o q=>?_⟩ ?_
 .obtain⟨sl,q1⟩:=z3 b o q;exact⟨sl,kp b _ (λz=>hc (z▸C5.mpr rfl)) q1⟩
 .by_cases z:b=e
  .rw[z];exact⟨_,tH⟩
  .obtain⟨sl,q1⟩:=z3 b o q;exact⟨_,kp b _ z q1⟩
 .rw[<-z1];refine⟨tz,_,_,ob,_,Jx L,tH,Obj.cls_mapFields _ _,MX,by simp[hsz],akv,by rw[<-uj],?_⟩;rw[adX];rfl
section
variable{X:Cx}{pins:List (A0×Obj)}{σ:St}{H:Hp}{s:AA}{M:Model}{E:A5->AA->Prop}{a:A0}{cls:A5}{tb:Option A0}
structure QG(X:Cx)(pins:List (A0×Obj))(H:Hp)(h:B5)(a:A0)(cls:A5)(tb:Option A0):Prop where
 LG:QF h a cls tb
 fa:Dj X pins H a
 ft:∀T,tb=some T->Dj X pins H T
def anW(h:env.frame=eh.frame)(e:A5):Rl e env=Rl e eh:=by
 unfold Rl pN;rw[h]
def kS(I:Inv X pins σ H s)(Bt:X.stack=X.env::X.outer)(DP:X.env.frame=some X.env.locals)(gq:eh.frame=X.env.frame)(F:QG X pins H s.heap a cls tb)
 (h:∀h' T',Inv X pins σ H {s with heap:=h'}->QG X pins H h' a cls (some T')->(∀b o,s.heap.get? b=some o->b∉ET X.stack->b≠a->tb≠some b->h'.get? b=some o)->Q () {s with heap:=h'}):
 AJ M X.A (Rl (.ref a) eh) Q E s:=by
 rw[anW gq];have hA:X.A.frames=some (X.env::X.outer):=by rw[<-Bt];exact I.ok.frames
 have hl:s.heap.FunFrames X.base (X.env::X.outer):=by rw[<-Bt];exact I.stack
 unfold Rl;simp only[DP];have go:∀(s1:AA)(h1:B5)(head:A5)(hn:Bool),s1={s with heap:=h1}->G5 (ET X.stack) (a::tb.toList) s.heap h1->(∃oe vs,h1.get? a=some oe/\oe.cls=cls/\oe.data=.fields vs/\1<vs.size)->s1.heap.FunFrames X.base (X.env::X.outer)->s1.heap.objs.size=s.heap.objs.size->
  AJ M X.A (do
   let b<-pN X.env;let pl<-entryPlaceOf X.env.locals hn;let c<-nS head b .none (Jx X.env.locals) .none pl
   setField (.ref a) 1 c) Q E s1:=by
  rintro s1 h1 head hn rfl N1 ⟨oe,vs,q1,q2,q3,q4⟩ aia hsz;refine agN hA aia DP q1 q3 q4 λh' N2 F2=>?_;have hsz:h1.objs.size=s.heap.objs.size:=hsz;have F2:QF h' a oe.cls (some h1.objs.size):=F2;rw[q2,hsz]at F2;have N3:G5 (ET X.stack) (a::tb.toList) s.heap h':=N1.trans (by rw[Bt];exact N2.mono λb hb=>by rw[C5.mp hb];exact Bu);have I':Inv X pins σ H {s with heap:=h'}:=I.xA N3 λb hb=>by
   rcases B2.mp hb with z|z
   .rw[z];exact F.fa
   .exact F.ft b (by cases tb with
     |none=>cases z
     |some T=>rw[C5.mp z])
  refine h h' s.heap.objs.size I' ⟨F2,F.fa,λT e=>?_⟩ λb o q nb na nt=>N3.keep b o q nb λz=>?_
  .cases e;exact I.KJ (Az _) (I.AZ.fresh (Az _))
  .rcases B2.mp z with z|z
   .exact na z
   .cases tb with
    |none=>cases z
    |some T=>exact nt (by rw[C5.mp z])
 cases tb with
 |none=>
  w_up;obtain⟨oe,vs,q1,q2,q3,q4⟩:=F.LG;fin2;refine AN (IZ q1 q3 q4 ?_);rw[if_neg (by decide)];exact go s s.heap _ _ rfl (G5.refl _ _ _) ⟨oe,vs,q1,q2,q3,(YO.mp q4).1⟩ hl rfl
 |some T=>
  w_up;obtain⟨ae,oe,vs,oT,ts,fl,q1,q2,q3,q4,q5,q6,q7⟩:=F.LG;fin2;refine AN (IZ q1 q3 q4 ?_);rw[if_pos (show(Cc T !=Ky)=true from by simp)];refine AN (IZ q5 q6 q7 ?_);by_cases c:(fl==Jx X.env.locals)=true
  .rw[if_pos c];refine BN (h s.heap T I F λb o q _ _ _=>q)
  .rw[if_neg c];refine AN (oJ q5 q6 (YO.mp q7).1 ?_);have N1:G5 (ET X.stack) (a::[T]) s.heap (s.heap.update T (Ni (·.setIfInBounds 3 Ky))):=xB _ q5 q6 (by simp);refine go _ _ _ _ rfl N1 ⟨oe,vs,?_,q2,q3,(YO.mp q4).1⟩ ?_ ?_
   .rw[Hl _ _ ae];exact q1
   .refine hl.of_keeps λb o q i8=>⟨o,?_,rfl⟩;show(s.heap.update T _).get? b=some o;rw[Hl _ _ (λz=>by rw[z]at q5;rw[q]at q5;cases q5;exact i8 _ q6)];exact q
   .exact Heap.size_after_update ..
def bI(I:Inv X pins σ H s)(F:QG X pins H s.heap a cls (some T))
 (h:∀h',Inv X pins σ H {s with heap:=h'}->QG X pins H h' a cls (some T)->(∀b o,s.heap.get? b=some o->b≠a->b≠T->h'.get? b=some o)->Q () {s with heap:=h'}):
 AJ M A (setFlight (.ref a) fr) Q E s:=by
 w_up;obtain⟨ae,oe,vs,oT,ts,fl,q1,q2,q3,q4,q5,q6,q7⟩:=F.LG;fin2;have hsz:=(YO.mp q7).1;unfold setFlight;refine AN (IZ q1 q3 q4 ?_);rw[if_pos (show(Cc T !=Ky)=true from by simp)];refine oJ q5 q6 hsz ?_;have N1:G5 (ET X.stack) [T] s.heap (s.heap.update T (Ni (·.setIfInBounds 3 (fr.elim Ky λf=>Jx f)))):=xB _ q5 q6 (by simp);refine h _ (I.xA N1 λb hb=>F.ft b (by rw[C5.mp hb])) ⟨⟨ae,oe,vs,_,_,_,?_,q2,q3,q4,P6 _ q5 (mq (Yi q6 _)),Yi q6 _,by simp[hsz];rfl⟩,F.fa,F.ft⟩ λb o q na nT=>?_
 .rw[Hl _ _ ae];exact q1
 .rw[Hl _ _ (Ct nT)];exact q
end
def Wx(X:Cx)(E:XK)(e:A5)(s':AA):Prop:=∃(σ:St)(H:Hp)(a:A0)(cls:A5)(tb:Option A0),e=.ref a/\Inv X [] σ H s'/\QG X [] H s'.heap a cls tb/\E cls none H
def D2(P:Bs)(w:Bg):K8:=λouter H s E e s'=>∃(a:A0)(cls:A5)(T:A0)(H':Hp),e=.ref a/\s'.os=s.os/\M5 s'.gens/\Un (ET outer) [] H H' s.heap s'.heap/\Co P w H' s'.heap/\
 QF s'.heap a cls (some T)/\(H' a=none/\s.heap.get? a=none)/\(H' T=none/\s.heap.get? T=none)/\E cls none H'
def LY(X:Cx)(E:XK):Prop:=∀e s',Wx X E e s'->X.xe e s'
def Dj.L8(f:Dj X pins H b):Dj X [] H b:=
 ⟨f.1,f.2.1,f.2.2.1,f.2.2.2.1,f.2.2.2.2.1,λp hp=>f.2.2.2.2.2 p (by rw[JD]at hp;exact U9 _ hp)⟩
def Inv.L8(I:Inv X pins σ H s):Inv X [] σ H s:=Inv.TC (pins:=[]) (pl:=pins) I
def LY.passes(hx:X.ex=[])(h:LY X E):ES (D2 X.prog X.w) X E:=by
 rintro pins σ H s e s' I ⟨a,cls,T,H',rfl,os,bare,un,AZ,fl,⟨ha,sa⟩,⟨hT,sT⟩,q⟩;have I':Inv X pins σ H' s':=I.Uj (ch:=[]) os un AZ bare (by simp);exact h _ _ ⟨σ,H',a,cls,some T,rfl,I'.L8,⟨fl,(I.V0 sa (by rw[hx];simp) ha).L8,λT' e=>by cases e;exact(I.V0 sT (by rw[hx];simp) hT).L8⟩,q⟩
def alu(Bt:X.stack=X.env::X.outer)(DP:X.env.frame=some X.env.locals)(hx:X.ex=[])(W:Wx X E e s'):
 AJ (AU X.prog X.w) X.A (leaving X.env e) (λ_ Mv=>D2 X.prog X.w X.outer X.MH X.EV E e Mv) E' s':=by
 w_up;obtain⟨σ,H,a,cls,tb,rfl,I,F,q⟩:=W;fin2;unfold leaving;refine AN (kS I Bt DP rfl F λh1 T1 I1 F1 _=>?_);refine bI (s:={s' with heap:=h1}) I1 F1 λh2 I2 F2 _=>?_;have u:=I2.base;rw[hx]at u;have lo:∀b,Dj X [] H b->X.EV.heap.get? b=none:=λb f=>by
  rcases f.2.2.2.1 with z|z
  .rw[hx]at z;cases z
  .exact z
 exact⟨a,cls,T1,H,rfl,I2.os,I2.bare,u,I2.AZ,F2.LG,⟨F2.fa.1,lo _ F2.fa⟩,⟨(F2.ft _ rfl).1,lo _ (F2.ft _ rfl)⟩,q⟩
section
variable{X:Cx}
def pU(i j:Int):Prop:=i.natAbs<2^1000/\j.natAbs<2^1000
def bits_le(h:i.natAbs<2^n):PK i<=n:=by
 unfold PK;split
 .lia
 .rename_i h0;have h0:i.natAbs≠0:=by simpa using h0
  have:=(oz h0).mpr h;lia
def ID:DM X (Ib .Mult) (rI pU λi j=> .int (i*j)):=Ws λ_ _ _ _ _ _ _ hc q=>mul_int q (IntMulOk.of_bits (Ao (bits_le hc.1) (by decide)) (Ao (bits_le hc.2) (by decide)))
def pV(i j:Int):Prop:=0<j/\j.natAbs<2^1000
def K6:DM X (Ib .FloorDiv) (rI pV λi j=> .int (i/j)):=Ws λi j _ _ _ _ _ hc q=>by
 have h0:j≠0:=by have:=hc.1;lia
 refine floordiv_int h0 ?_ (.inl (PyProof.noPylong_of_log2 ?_))
 .rw[ad6 _ (aep hc.1)];exact q
 .have h1:j.natAbs≠0:=by lia
  exact CT ((oz h1).mpr hc.2) (by decide)
def e8(i j:Int):Prop:=i.natAbs<2^1000/\0<=j/\j<=1000
def Ih:DM X (Ib .LShift) (rI e8 λi j=> .int (i*2^j.toNat)):=Ws λi j _ _ _ _ _ hc q=>by
 refine lshift_int hc.2.1 ?_ q;have h1:=bits_le hc.1;have h2:=hc.2.2;have e:(2:Int)^27=134217728:=by decide
 rw[e];lia
def Tp:dN X "int.bit_length" (λx xs H Q=>∃i,x=.int i/\xs=[]/\Q (.int (PK i)) H):=by
 intro pins s σ H x vs v us Q I rx rv h;obtain⟨i,rfl,rfl,q⟩:=h;obtain⟨t,rfl⟩:=rx;obtain rfl:=rv.zero;exact call_int_bit_length ⟨.int (PK i),H,I.tok _,⟨_,rfl⟩,q⟩
def agw(hc:X.calm=true):JO X (.builtin "max") (λxs H Q=>Mi xs λx y z=>Bl x λi=>Bl y λj=>Bl z λk=>Q (.int (max (max i j) k)) H):=by
 intro pins s σ H xs us Q I r h;obtain⟨i,j,k,rfl,q⟩:=yg h;cases r with
 |cons r1 r=>
  cases r with
  |cons r2 r=>
   cases r with
   |cons r3 r=>
    cases r;obtain⟨t1,rfl⟩:=r1;obtain⟨t2,rfl⟩:=r2;obtain⟨t3,rfl⟩:=r3;refine max_three_ints (I.ok.hd hc) λh' tk kp=>⟨_,H,I.kept kp,?_,q⟩;by_cases hj:j>i
    .rw[if_pos hj];by_cases hk:k>j
     .rw[if_pos hk,show max (max i j) k=k by lia];exact⟨_,rfl⟩
     .rw[if_neg hk,show max (max i j) k=j by lia];exact⟨_,rfl⟩
    .rw[if_neg hj];by_cases hk:k>i
     .rw[if_pos hk,show max (max i j) k=k by lia];exact⟨_,rfl⟩
     .rw[if_neg hk,show max (max i j) k=i by lia];exact⟨_,rfl⟩
def La(xs:List V)(lo st:Nat):List V:=(A8 ((xs.length-lo+(st-1))/st)).filterMap λk=>xs[lo+st*k]?
def aqK{lo n st:Nat}(Bt:0<st)(h:lo<=n):sliceRange lo n st=(A8 ((n-lo+(st-1))/st)).map λk=>lo+st*k:=by
 unfold sliceRange;have hs:((st:Nat):Int)>0:=by lia
 simp only[hs,if_true];have e:(if((lo:Nat):Int)<(n:Int)then(((n:Nat):Int)-lo+st-1)/st else 0).toNat=(n-lo+(st-1))/st:=by
  by_cases c:lo<n
  .rw[if_pos (by lia)];have:((n:Nat):Int)-lo+st-1=((n-lo+(st-1):Nat):Int):=by lia
   rw[this,<-IT,Fw]
  .have:n-lo=0:=by lia
   rw[if_neg (by lia),this,EM,Ff (by lia)];rfl
 rw[e];refine Lm λk _=>?_;lia
def Ai.pick(r:Ai xs its):∀ks:List Nat,Ai (ks.filterMap (xs[·]?)) (ks.filterMap (its.toArray[·]?))
 |[]=> .nil
 |k::ks=>by
  rw[Ho,Ho,adX];cases e:xs[k]?with
  |none=>
   rw[r.none_of e];exact Ai.pick r ks
  |some x=>
   obtain⟨u,hu,ru⟩:=r.get e;rw[hu];exact .cons ru (Ai.pick r ks)
def mR(K:Ae)(te tl ts:TE):TE:=λσ H Q=>te σ H λx H1=>tl σ H1 λl H2=>ts σ H2 λs H3=>∃a xs lo st,x=.ref a/\l=.int (lo:Nat)/\s=.int (st:Nat)/\0<st/\A4 K H3 a xs/\
 ∀p,H3 p=none->Q (.ref p) (upd H3 p (.lst (La xs lo st)))
def mQ(K:Ae)(te ts:TE):TE:=λσ H Q=>te σ H λx H1=>ts σ H1 λs H2=>∃a xs,x=.ref a/\s=.int (-1)/\A4 K H2 a xs/\∀p,H2 p=none->Q (.ref p) (upd H2 p (.lst xs.reverse))
def aut(xs:List V)(lo st:Nat)(Bt:0<st):(La xs lo st).length<=xs.length:=by
 unfold La;refine Ao (List.length_filterMap_le _ _) ?_;rw[BJ];refine Ao ?_ (Kx xs.length lo);by_cases c:xs.length-lo=0
 .rw[c,EM,Ff (by lia)];exact Az _
 .refine Nat.div_le_of_le_mul ?_;obtain⟨m,hm⟩:∃m,xs.length-lo=m+1:=⟨xs.length-lo-1,(adg c).symm⟩;obtain⟨k,hk⟩:∃k,st=k+1:=⟨st-1,(Nat.sub_add_cancel Bt).symm⟩;rw[hm,hk];have:(k+1)*(m+1)=k*m+k+m+1:=by rw[BE,I_];lia
  lia
def aov{its:List A5}{lo st:Nat}(Bt:0<st):Za its.toArray (some (lo:Int)) none (some (st:Int))=(((A8 ((its.length-lo+(st-1))/st)).map λk=>lo+st*k).filterMap (its.toArray[·]?)).toArray:=by
 unfold Za;have b:Lw (some (lo:Int)) none (some (st:Int)) its.toArray.size=(((min lo its.length:Nat):Int),((its.length:Nat):Int),((st:Nat):Int)):=by
  have hs:(st:Int)>0:=by lia
  simp only[Lw,Option.getD_some,hs,if_true,DH];rw[if_neg (by lia)];have:max 0 (min (lo:Int) (its.length:Int))=((min lo its.length:Nat):Int):=by lia
  rw[this]
 rw[b,aqK Bt (YV _ _)];by_cases c:lo<=its.length
 .rw[Nb c]
 .have e1:min lo its.length=its.length:=by lia
  have e2:its.length-lo=0:=by lia
  rw[e1,e2,RX];rw[EM,Ff (by lia)];rfl
variable{e lo st:B7}{te tl ts:TE}{pos p2:Pos}
def yE(he:PE X e te)(hl:PE X lo tl)(hs:PE X st ts):PE X (.Subscript e (.Slice (some lo) none (some st) p2) pos) (mR X.K te tl ts):=by
 intro pins s σ H Q I h;refine UQ (Be (he pins s σ H _ I h) λv s1 AG=>?_);obtain⟨x,H1,I1,r1,q1⟩:=AG;refine p8 ?_;rw[ZF,ZE,ZF];refine Be (hl pins s1 σ H1 _ I1 q1) λvl s2⟨l,H2,I2,rl,q2⟩=>BN (Be (hs pins s2 σ H2 _ I2 q2) λvs s3 EI=>?_);obtain⟨sv,H3,I3,rs,q3⟩:=EI;w_up;obtain⟨a,xs,OP,Lb,ea,el,es,h0,hq,q⟩:=q3;fin2;subst ea el es;cases r1;w_up;obtain⟨t1,rfl⟩:=rl;obtain⟨t2,rfl⟩:=rs;have I4:Inv X pins σ H3 {s3 with heap:=s3.heap.push {cls:=.type "slice",data:=.fields #[.int OP t1,.none,.int Lb t2]}}:=I3.kept (t':=s3.toks) λb ob q=>BK _ q;obtain⟨its,r,ht,hz⟩:=I4.list hq;fin2;have hlen:=r.length;show AJ (AU X.prog X.w) X.A (UO e (.Slice (some lo) none (some st) p2) (.ref a) (.ref s3.heap.objs.size)) (EP X pins σ Q) X.xe {s3 with heap:=s3.heap.push {cls:=.type "slice",data:=.fields #[.int OP t1,.none,.int Lb t2]}};refine tail_any (ops:=[.ref a,.ref s3.heap.objs.size]) ht.isList.typeIs Ya.lookup ?_ (by with_unfolding_all rfl);refine nN ht.isList (nO ..) (.int _ t1) .none (.int _ t2) (by intro z;injection z with z;lia) ?_ (by rw[DH];lia);refine⟨.ref _,_,I4.laid (t':=s3.toks) (o:=.lst (La xs OP Lb)) (λb ob q=>BK _ q) (Az _) ?_,rfl,q _ (I4.AZ.fresh (Az _))⟩;refine⟨Ao (aut xs OP Lb h0) hz,((A8 ((its.length-OP+(Lb-1))/Lb)).map λk=>OP+Lb*k).filterMap (its.toArray[·]?),0,?_,?_⟩
 .unfold La;rw[hlen];have:=r.pick ((A8 ((its.length-OP+(Lb-1))/Lb)).map λk=>OP+Lb*k);rw[aeE]at this;exact this
 .rw[aov h0];exact C_ _ rfl
def yD(he:PE X e te)(hs:PE X st ts):PE X (.Subscript e (.Slice none none (some st) p2) pos) (mQ X.K te ts):=by
 intro pins s σ H Q I h;refine UQ (Be (he pins s σ H _ I h) λv s1 AG=>?_);obtain⟨x,H1,I1,r1,q1⟩:=AG;refine p8 ?_;rw[ZE,ZF];refine BN (BN (Be (hs pins s1 σ H1 _ I1 q1) λvs s3 EI=>?_));obtain⟨sv,H3,I3,rs,q3⟩:=EI;w_up;obtain⟨a,xs,ea,es,hq,q⟩:=q3;fin2;subst ea es;cases r1;w_up;obtain⟨t2,rfl⟩:=rs;have I4:Inv X pins σ H3 {s3 with heap:=s3.heap.push {cls:=.type "slice",data:=.fields #[.none,.none,.int (-1) t2]}}:=I3.kept (t':=s3.toks) λb ob q=>BK _ q;obtain⟨its,r,ht,hz⟩:=I4.list hq;fin2;have hlen:=r.length;show AJ (AU X.prog X.w) X.A (UO e (.Slice none none (some st) p2) (.ref a) (.ref s3.heap.objs.size)) (EP X pins σ Q) X.xe {s3 with heap:=s3.heap.push {cls:=.type "slice",data:=.fields #[.none,.none,.int (-1) t2]}};refine tail_any (ops:=[.ref a,.ref s3.heap.objs.size]) ht.isList.typeIs Ya.lookup ?_ (by with_unfolding_all rfl);refine nN ht.isList (nO ..) .none .none (.int _ t2) (by decide) ?_ (by rw[DH];lia);refine⟨.ref _,_,I4.laid (t':=s3.toks) (o:=.lst xs.reverse) (λb ob q=>BK _ q) (Az _) ?_,rfl,q _ (I4.AZ.fresh (Az _))⟩;refine⟨by rw[RK];exact hz,its.reverse,0,r.reverse,?_⟩;rw[PySem.W.krv_pick];exact C_ _ rfl
end
def amh(a d:A5):argsOk "max" ⟨[a],[(EB "default",d)]⟩:=by unfold argsOk;kernel_rfl
section
variable{prog:Bs}{w:Bg}{A:CB}{R:Result->AA->Prop}{I:A0}{fp wr:List A0}{n:Nat}{P:Nat->A5->Prop}{St:Nat->B5->Prop}{d:A5}
def i_(W:Walks prog w A.in1 I fp wr n P St)(bt:Nat->Nat->Bool)(gn:CmpOf prog w A.in1 .Gt P bt)(B:A0)(hB:B∉fp):∀(k j:Nat)(s:AA)(vb:A5)(c:Nat),
 n-(j+1)=k->j+1<=n->St (j+1) s.heap->P (L3 bt j) vb->s.heap.get? B=some {cls:=.type "list",dict:=none,data:=.seq #[vb,vb] c,slots:=#[]}->
 (∀v h' tk,P (L3 bt (n-1)) v->(∀b o,b∉wr->b≠B->s.heap.get? b=some o->h'.get? b=some o)->R (.ok (.ret v)) {s with heap:=h',toks:=tk})->
 JF (AU prog w) A (.builtin "max.loop" ⟨[.ref I,.none,.ref B],[(EB "default",d)]⟩) R s
 |0,j,s,vb,c,hk,hj,Bt,hP,hS,hR=>by
  have Vy:B∉wr:=λz=>hB (W.sub _ z);have aJ:j+1=n:=by omega
  refine UK nW ?_;rw[UB P9 _];show AJ _ A.in1 (seqItems? (.ref B)>>=_) _ _ s;refine AN (Kw hS rfl ?_);show AJ _ A.in1 (tryCatch (JG (.ref I)) _>>=_) _ _ s;refine AN (RO (W.done s _ _ (aJ▸Bt) λh1 tk kp=>?_));have Iz:=kp B _ Vy hS;show AJ _ A.in1 (updateSeq B (λ_=>#[])>>=_) _ _ _;refine AN (Ym Iz rfl (AN (Pb (BN ?_))));exact hR vb _ tk (by rw[<-aJ];exact hP) λb o z1 z2 e=>(Hl _ _ (Ct z2)).trans (kp b o z1 e)
 |k+1,j,s,vb,c,hk,hj,Bt,hP,hS,hR=>by
  have Vy:B∉wr:=λz=>hB (W.sub _ z);have Qt:(toString "max"++toString ".loop":String)="max.loop":=by decide
  have B3:j+1<n:=by omega
  refine UK nW ?_;rw[UB P9 _];show AJ _ A.in1 (seqItems? (.ref B)>>=_) _ _ s;refine AN (Kw hS rfl ?_);show AJ _ A.in1 (tryCatch (JG (.ref I)) _>>=_) _ _ s;refine AN (RO (W.item (j+1) s _ _ B3 Bt λv h1 tk aY cY kp=>?_));have Iz:=kp B _ Vy hS;show AJ _ A.in1 (tryCatch (I0 [v,v] (richCompare .Gt v vb>>=_)) _>>=_) _ _ _;refine AN (RO (PX (AN (gn (j+1) (L3 bt j) v vb _ _ _ aY hP (AN (PX (Nd (AN (Pb (BN ?_))))))))));cases hb:bt (j+1) (L3 bt j)with
  |true=>
   simp only[if_true];refine AN (Ym Iz rfl (AN (Pb ?_)));rw[Qt];refine BN ⟨PY P9 _,i_ W bt gn B hB k (j+1) _ v _ (by omega) B3 (W.frame _ _ _ cY λb z o e=>?_) (by simp only[L3,hb,if_true];exact aY) (P6 _ Iz rfl) λv2 h2 X5 q Vu=>?_⟩
   .exact(Hl _ _ (λy:B=b=>hB (by rw[y];exact z))).trans e
   .exact hR v2 h2 X5 q λb o z1 z2 e=>Vu b o z1 z2 ((Hl _ _ (Ct z2)).trans (kp b o z1 e))
  |false=>
   simp only[NW,if_false];refine AN (Pb ?_);rw[Qt];refine BN ⟨PY P9 _,i_ W bt gn B hB k (j+1) _ vb c (by omega) B3 cY (by simp only[L3,hb,NW,if_false];exact hP) Iz λv2 h2 X5 q Vu=>?_⟩;exact hR v2 h2 X5 q λb o z1 z2 e=>Vu b o z1 z2 (kp b o z1 e)
end
section
variable{prog:Bs}{w:Bg}{A:CB}{E:A5->AA->Prop}{s:AA}{l:A0}{xs:Array (Int×Tok)}{d:A5}{Q:A5->AA->Prop}
def ami(hh:A.handled=none)(hl:s.heap.IsList l (Pf xs))
 (h0:xs.size=0->∀h' tk,(∀b o,s.heap.get? b=some o->h'.get? b=some o)->Q d {s with heap:=h',toks:=tk})
 (h1:0<xs.size->∀v h' tk,(Pf xs)[L3 (λi j=>decide (Ie xs i>Ie xs j)) (xs.size-1)]? =some v->(∀b o,s.heap.get? b=some o->h'.get? b=some o)->Q v {s with heap:=h',toks:=tk}):
 AJ (AU prog w) A (HQ (.builtin "max") [.ref l] [(EB "default",d)]) Q E s:=by
 have Qt:(toString "max"++toString ".loop":String)="max.loop":=by decide
 refine kmk_tree PySem.F.kind_max PySem.F.plain_max PySem.F.entry_max (amh _ _) ?_;show AJ _ A.in1 (ad2 "max" ["key","default"] 0 ⟨[],[(EB "default",d)]⟩>>=_) _ _ s;refine AN (wpAny_of_eq (show ad2 "max" ["key","default"] 0 ⟨[],[(EB "default",d)]⟩=pure [none,some d]from rfl) ?_);refine AN (BN (AN (iter_intList hl λs2 e st MY cM=>?_)));refine AN (Yd ?_);rw[Qt];have W:=afH (prog:=prog) (w:=w) (A:=A.in1) (by exact hh) s.heap.objs.size l cM (Pf xs);have iN:s2.heap.objs.size∉[s.heap.objs.size,l]:=λhm=>GR _ (MY _ hm);have old:∀(h':B5),(∀b o,b∉[s.heap.objs.size]->b≠s2.heap.objs.size->(s2.heap.push {cls:=.type "list",data:=.seq #[]}).get? b=some o->h'.get? b=some o)->∀b o,s.heap.get? b=some o->h'.get? b=some o:=λh' kp b o q=>by
  have lt:=BZ q;refine kp b o (λz=>?_) (λz=>?_) (BK _ (by rw[e];exact BK _ q))
  .rw[C5.mp z]at lt;exact GR _ lt
  .have:s.heap.objs.size<s2.heap.objs.size:=MY _ (by simp);rw[z]at lt;exact GR _ (Jr lt this)
 refine BN ⟨PY P9 _,?_⟩;have GL:(λi h=>Heap.IsListIter h s.heap.objs.size l i/\h.IsList l (Pf xs)) 0 (s2.heap.push {cls:=.type "list",data:=.seq #[]}):=W.frame 0 _ _ st λb _ o e=>BK _ e;refine UK nW ?_;rw[UB P9 _];show AJ _ A.in1 (seqItems? (.ref s2.heap.objs.size)>>=_) _ _ _;refine AN (Kw (C_ _ rfl) rfl ?_);show AJ _ A.in1 (tryCatch (JG (.ref s.heap.objs.size)) _>>=_) _ _ _;have hsz:(Pf xs).size=xs.size:=by simp[Pf]
 by_cases c:xs.size=0
 .refine AN (RO (W.done _ _ _ (by rw[hsz,c];exact GL) λh2 tk kp=>?_));refine AN (ZY (BN ?_));have Fq:s2.gens=s.gens/\s2.drawn=s.drawn/\s2.os=s.os:=by rw[e];exact⟨rfl,rfl,rfl⟩
  have:=h0 c h2 tk (old h2 λb o z1 _ q=>kp b o z1 q);rw[<-Fq.1,<-Fq.2.1,<-Fq.2.2]at this;exact this
 .refine AN (RO (W.item 0 _ _ _ (by rw[hsz];lia) GL λv h2 tk aY cY kp=>?_));have Vy:s2.heap.objs.size∉[s.heap.objs.size]:=λz=>iN (W.sub _ z);have Iz:=kp _ _ Vy (C_ s2.heap (o:={cls:=.type "list",data:=.seq #[]}) rfl);show AJ _ A.in1 (updateSeq s2.heap.objs.size (λ_=>#[v,v])>>=_) _ _ _;refine AN (Ym Iz rfl ?_);rw[Qt];refine BN ⟨PY P9 _,i_ W _ (CmpOf.ints_gt (Ie xs) (λ_ _=>intItems_at)) s2.heap.objs.size iN _ 0 _ v _ rfl (by rw[hsz];lia) (W.frame _ _ _ cY λb z o q=>?_) aY (P6 _ Iz rfl) λv2 h3 X5 q Vu=>?_⟩
  .exact(Hl _ _ (λy:s2.heap.objs.size=b=>iN (by rw[y];exact z))).trans q
  .have Fq:s2.gens=s.gens/\s2.drawn=s.drawn/\s2.os=s.os:=by rw[e];exact⟨rfl,rfl,rfl⟩
   have:=h1 (by lia) v2 h3 X5 (by rw[<-hsz];exact q) (old h3 λb o z1 z2 q=>Vu b o z1 z2 ((Hl _ _ (Ct z2)).trans (kp b o z1 q)));rw[<-Fq.1,<-Fq.2.1,<-Fq.2.2]at this;exact this
end
def Kb(ns:List Int):Int:=ns.foldl max 0
def acq:∀(ns:List Int),a<=ns.foldl max a
 |[]=>Int.le_refl _
 |n::ns=>Kp (RS a n) (acq ns)
def mX:∀(ns:List Int)(a x:Int),x∈ns->x<=ns.foldl max a
 |n::ns,a,x,h=>by
  rcases B2.mp h with z|z
  .rw[z];exact Kp (ng a n) (acq ns)
  .exact mX ns _ x z
def acr:∀(ns:List Int)(a:Int),ns.foldl max a=a\/ns.foldl max a∈ns
 |[],a=> .inl rfl
 |n::ns,a=>by
  rcases acr ns (max a n)with z|z
  .show ns.foldl max (max a n)=a\/ns.foldl max (max a n)∈n::ns;rw[z];by_cases c:a<=n
   .right;rw[ads c];exact Bu
   .left;exact Z6 (by lia)
  .exact .inr (Ba _ z)
section
variable{X:Cx}{x:Str}{p pos kp:Pos}{e d:B7}{t:TA}{td:TE}
def abd(K:Ae)(t:TA)(td:TE):TE:=λσ H Q=>t σ H λvs H1=>td σ H1 λd H2=>∃(a:A0)(ns:List Int),vs=[.ref a]/\d=.int 0/\A4 K H2 a (ns.map V.int)/\(∀n∈ns,0<=n)/\Q (.int (Kb ns)) H2
def apZ(hc:X.calm=true)(hg:Gl X "max")(hm:X.mg "max"=none)(ha:PA X [e] t)(hd:PE X d td)
 (he:autoParam (B0 [e] X.env=[(false,As e X.env)]) auR):PE X (.Call (.Name "max" p) [e] [⟨some "default",d,kp⟩] pos) (abd X.K t td):=by
 intro pins s σ H Q I h;refine PD (NP I hg hm boot_max ?_);refine callWith_kw ?_ (by rw[he];rfl) (by rw[he];rfl);refine Be (ha pos pins s σ H _ I h) λus s1 AG=>?_;obtain⟨vs,H1,I1,r1,q1⟩:=AG;refine kws_cons (Be (hd pins s1 σ H1 _ I1 q1) λdv s2⟨dx,H2,I2,rd,q2⟩=>kws_nil ?_);w_up;obtain⟨a,ns,rfl,rfl,hq,cU,q⟩:=q2;obtain⟨u,rfl,ru⟩:=vals1 r1;fin2;cases ru;w_up;obtain⟨t0,rfl⟩:=rd;obtain⟨its,rv,pl,hz⟩:=I2.list hq;have hi:=intsAre_of rv;obtain⟨xs,ex⟩:=hi.allInts.items;fin2;have hn:numsOf (Pf xs).toList=ns:=by rw[<-ex];exact hi.numsOf
 rw[nums_intItems]at hn;have hl:=pl.isList;rw[ex]at hl;show AJ _ _ (HQ (.builtin "max") [.ref a] [(EB "default",.int 0 t0)]) _ _ s2;refine ami (I2.ok.hd hc) hl (λz h' tk kp=>?_) λz v h' tk hv kp=>?_
 .have:ns=[]:=by rw[<-hn];exact List.eq_nil_of_length_eq_zero (by simpa using z)
  subst this;exact⟨.int 0,H2,I2.kept kp,⟨_,rfl⟩,q⟩
 .obtain⟨t1,rfl⟩:=intItems_at hv;obtain⟨h1,h2⟩:=argBest_gt (Ie xs) (xs.size-1);have em:Ie xs (L3 (λi j=>decide (Ie xs i>Ie xs j)) (xs.size-1))=Kb ns:=by
   have m1:Ie xs (L3 (λi j=>decide (Ie xs i>Ie xs j)) (xs.size-1))∈ns:=by
    rw[<-hn,numAt_eq];exact PySem.getD_mem (by rw[AV,RJ];lia)
   have m2:∀y∈ns,y<=Ie xs (L3 (λi j=>decide (Ie xs i>Ie xs j)) (xs.size-1)):=λy hy=>by
    rw[<-hn]at hy;w_up;obtain⟨j,hj,rfl⟩:=mem_getD hy;fin2;rw[AV,RJ]at hj;rw[<-numAt_eq];exact h2 j (by lia)
   have m3:=mX ns 0 _ m1;rcases acr ns 0 with z0|z0
   .have:=cU _ m1;have z0:Kb ns=0:=z0;show _=Kb ns;have m3:_<=Kb ns:=m3;lia
   .have:=m2 _ z0;have m3:_<=Kb ns:=m3;have this:Kb ns<=_:=this;lia
  rw[em];exact⟨.int (Kb ns),H2,I2.kept kp,⟨_,rfl⟩,q⟩
end
abbrev afU:List A5:=[.type "ValueError",.type "Exception",.type "BaseException",.type "object"]
structure Xc(K:Ae)(C:A0):Prop where
 ex:oh K C afU "ValueError.__new__"=true
 kt:PySem.W.ktsIn K C "BaseException"=true
set_option tactic.hygienic true in
def agR{K:Ae}{h:B5}(X:K.In h)(q:oh K C afT newId=true):
 ∃bm N nm q bs hdct sn sub ab col dd k0 k1 k2 k3 k5 mN,h.get? C=some (excClassObj nm q C N bs bm hdct sn sub ab col dd k0 k1 k2 k3 k5 newId)/\h.Ns N mN/\mN "__init__"=none/\OwnTail h afT bm:=by
 unfold oh at q;split at q
 .rename_i dd cd sl ho;generalize hm:cd.mro=ms at q;generalize hs:sl.toList=ls at q;rcases ms with _|⟨v,bm⟩
  .cases q
  cases v<;>try (cases q;done)
  rename_i C';rcases ls with _|⟨k0,_|⟨k1,_|⟨k2,_|⟨k3,_|⟨k4,ls⟩⟩⟩⟩⟩<;>try (cases q;done)
  rcases k4 with _|k4
  .cases q
  cases k4<;>try (cases q;done)
  rename_i n;rcases ls with _|⟨k5,_|_⟩<;>try (cases q;done)
  .dsimp only at q;simp only[CH,beq_iff_eq,Bool.not_eq_true']at q;w_up;obtain⟨⟨⟨⟨⟨rfl,rfl⟩,tD⟩,ht⟩,AZ⟩,cR⟩:=q;obtain⟨nm,bs,mro,ns,qn,hd,sn,sub,ab,col,del⟩:=cd;fin2;dsimp only at hm tD AZ cR;subst hm tD;obtain⟨l⟩:=sl;simp only at hs;subst hs;exact⟨bm,ns,nm,qn,bs,hd,sn,sub,ab,col,dd,k0,k1,k2,k3,k5,_,X _ _ ho,.of_isNs (PySem.W.isNs_of_in X AZ),PySem.W.nsMap_none_of_in X AZ cR,PySem.W.tail_of_in X ht⟩
 .cases q
section
variable{X:Cx}{x:Str}{C:A0}{np FR pos:Pos}{e:B7}{es:List B7}{t:TA}{E:XK}
def ac0(C:A0)(E:XK)(t:TA):TS:=λ_ σ H=>t σ H λvs H1=>vs.length<=Al/\E (.ref C) none H1
def Ij(hc:X.calm=true)(hx:X.ex=[])(hp:LY X E)(hg:Gl X x)(hm:X.mg x=some (.ref C))(hk:Xc X.K C)(ha:PA X (e::es) t)(DO:autoParam ((x==("__debug__":Str))=false) auD)
 (he:autoParam (B0 (e::es) X.env=(false,As e X.env)::B0 es X.env) auR)(Ax:autoParam ((D7 FR (B0 es X.env)).any (·.1)=false) auR):
 PS X (.Raise (some (.Call (.Name x np) (e::es) [] FR)) none pos) (ac0 C E t):=by
 intro pins s σ H D I h;w_up;obtain⟨tl,N,nm,q,bs,hdct,sn,sub,ab,col,dd,k0,k1,k2,k3,k5,mN,hC,hN,cR,T⟩:=agR I.mod.Oy hk.ex;fin2;refine wpAny_Raise_call_subT (C:=C) (nm:=nm) (q:=q) (N:=N) (bs:=bs) (bm:=tl) (hdct:=hdct) (sn:=sn) (sub:=sub) (ab:=ab) (col:=col) (dd:=dd) (k0:=k0) (k1:=k1) (k2:=k2) (k3:=k3) (k5:=k5)
  adL (mN:=mN) (T.hasType adL.hasBase) (I.ok.hd hc) (by rw[he];show(false||(D7 FR (B0 es X.env)).any (·.1))=false;rw[Ax];rfl) cR (R9 I hg hm ⟨rfl,?_⟩ DO)
 have hA:=ha FR pins s σ H _ I h;rw[he]at hA⊢;refine nX (Be hA λus s2⟨vs,H2,I2,r2,hz,q2⟩=>⟨rfl,by show us.length<=_;rw[<-r2.length];exact hz,I2.bk _ _ hC,hN.keeps I2.bk,T.keeps I2.bk,λh' a hm=>?_⟩);have I3:Inv X pins σ H2 {s2 with heap:=h'}:=I2.kept (t':=s2.toks) hm.keeps;have hf:H2 a=none:=by
  cases z:H2 a with
  |none=>rfl
  |some o=>
   have q:=I2.AZ a o z;cases e:s2.heap.get? a with
   |none=>exact absurd e (by
    obtain⟨ob,w⟩:=(show∃ob,s2.heap.get? a=some ob from by
     cases o with
     |lst xs=>obtain⟨_,its,n,_,w⟩:=q;exact⟨_,w⟩
     |tup xs=>obtain⟨_,its,_,ob,w,_⟩:=q;exact⟨_,w⟩
     |dK A9=>obtain⟨_,_,vs,_,ob,_,_,w,_⟩:=q;exact⟨_,w⟩
     |dT A9=>obtain⟨_,_,_,_,ob,_,_,w,_⟩:=q;exact⟨_,w⟩
     |set S n=>obtain⟨ob,_,_,_,w,_⟩:=q;exact⟨_,w⟩
     |ins C dx fs=>obtain⟨_,_,_,w,_⟩:=q;exact⟨_,w⟩
     |own x=>exact q
     |xd fs=>obtain⟨mA,n1,_⟩:=q;obtain⟨ob,_,_,w,_⟩:=n1;exact⟨_,w⟩
     |XU lo hi=>obtain⟨_,_,_,w⟩:=q;exact⟨_,w⟩
     |CY ob u=>exact⟨_,q.1⟩
     |Oj ps=>exact⟨_,q⟩
     |met f x=>exact⟨_,q⟩
     |ext φ=>exact q.2.1)
    rw[w];simp)
   |some ob=>rw[hm.new]at e;cases e
 w_up;obtain⟨tt,ho,_,_⟩:=hm.there;fin2;exact hp _ _ ⟨σ,H2,a,.ref C,none,rfl,I3.L8,⟨⟨_,_,ho,rfl,rfl,rfl⟩,(I2.V0 hm.new (by rw[hx];simp) hf).L8,λT e=>nomatch e⟩,q2⟩
end
def dZ(X:Cx)(st:D8)(t:TS):Prop:=∀(s:AA)(σ:St)(H:Hp)(D:Ends),Inv X [] σ H s->t D σ H->AJ (AU X.prog X.w) X.A (exec st X.env) (SP X [] D) X.xe s
def KE(X:Cx)(st:List D8)(t:TS):Prop:=∀(s:AA)(σ:St)(H:Hp)(D:Ends),Inv X [] σ H s->t D σ H->AJ (AU X.prog X.w) X.A (execs st X.env) (SP X [] D) X.xe s
def PS.Ak{st:D8}{t:TS}(h:PS X st t):dZ X st t:=λs σ H D I q=>h [] s σ H D I q
def JQ.Ak{st:List D8}{t:TS}(h:JQ X st t):KE X st t:=λs σ H D I q=>h [] s σ H D I q
def Mp{X:Cx}{st:D8}{rest:List D8}{t u:TS}(h1:dZ X st t)(h2:KE X rest u):KE X (st::rest) (X4 t u):=by
 intro s σ H D I h;refine n_ (GY (h1 s σ H _ I h) (λf s1 q=>?_) λ_ _ z=>z);cases f with
 |next=>
  obtain⟨JN,H1,I1,q1⟩:=q;exact h2 s1 JN H1 D I1 q1
 |brk=>exact q
 |cont=>exact q
 |ret u=>exact q
abbrev Cx.Mz(X:Cx)(a:A0):Cx:={X with A:=X.A.mark (some (.ref a)),calm:=false,xe:=λ_ _=>False}
def Inv.Mz(I:Inv X [] σ H s):Inv (X.Mz a) [] σ H s:=
 ⟨⟨I.ok.mod,I.ok.kind,I.ok.glob,I.ok.blt,I.ok.above,I.ok.inj,I.ok.has,I.ok.Px,(λz=>by cases z),I.ok.frames,I.ok.Tn,I.ok.O3,I.ok.bs,I.ok.L9,I.ok.QU,I.ok.O4,I.ok.HV,I.ok.MS⟩,I.os,I.bare,I.base,I.loc,I.cell,I.free,I.G8,I.pin,I.AZ,I.len⟩
def Inv.att(I:Inv X [] σ H s)(J:Inv (X.Mz a) [] B1 H' s'):Inv X [] B1 H' s':=
 ⟨I.ok,J.os,J.bare,J.base,J.loc,J.cell,J.free,J.G8,J.pin,J.AZ,J.len⟩
def blank(σ:St):St:=Ar σ.length none
def Inv.blank(I:Inv X pins σ H s):Inv X pins (blank σ) H s:=
 I.weak (by simp[L2.blank]) λi v e=>by
  unfold L2.blank at e;rw[mw]at e;split at e<;>cases e
def acg(C:A0)(n:Nat)(tb:XK->TS)(th:TS):TS:=λD σ H=>tb (λcls _ H'=>cls=.ref C/\th {nx:=λ_ _=>False,rt:=D.rt} (Ar n none) H') D σ H
section
variable{X:Cx}{x:Str}{C:A0}{np cU pos:Pos}{body:List D8}{h0:D8}{hs:List D8}{tb:XK->TS}{th:TS}
def jt(Bt:X.stack=X.env::X.outer)(DP:X.env.frame=some X.env.locals)(hx:X.ex=[])(Oq:X.pn=[])(hg:Gl X x)(hm:X.mg x=some (.ref C))(hk:Xc X.K C)
 (hb:∀(E:XK)(W:A5->AA->Prop),LY (X.JM W) E->JQ (X.JM W) body (tb E))(hh:∀a,JQ (X.Mz a) (h0::hs) th)(DO:autoParam ((x==("__debug__":Str))=false) auD):
 dZ X (.Try body [.ExceptHandler (some (.Name x np)) none (h0::hs) cU] [] [] pos) (acg C X.N.length tb th):=by
 intro s σ H D I h;refine wpAny_Try_except ?_;have hB:=hb _ (Wx X (λcls _ H'=>cls=.ref C/\th {nx:=λ_ _=>False,rt:=D.rt} (Ar X.N.length none) H')) (λe s' w=>by
  w_up;obtain⟨σ,H,a,cls,tb,e1,I1,F1,q⟩:=w;fin2;exact⟨σ,H,a,cls,tb,e1,I1.Md,⟨F1.LG,F1.fa,F1.ft⟩,q⟩) [] s σ H D (I.JM _) h
 refine GY hB (λf s1 h1=>?_) λe s1 w=>?_
 .have h1:=SP.Md h1;cases f with
  |next=>exact UI h1
  |brk=>exact h1
  |cont=>exact h1
  |ret u=>exact h1
 .obtain⟨JN,H1,a,cls,tbk,rfl,I1,F1,rfl,q⟩:=w;refine kS I1 Bt DP rfl F1 λh2 T2 I2 F2 _=>?_;refine bI (s:={s1 with heap:=h2}) I2 F2 λh3 I3 F3 _=>?_;w_up;obtain⟨nm,q',N,bs,bm,hdct,sn,sub,ab,col,dd,k0,k1,k2,k3,k5,newId,hC,Ha,hbT⟩:=PySem.W.kts_cls I3.F5 hk.kt;obtain⟨_,oe,vs,oT,ts,fl,z1,z2,_⟩:=F3.LG;fin2;refine wpAny_handleBy_cons (codeAny_handlers_test ?_) (by intro q;cases q);have afy:Inv (X.Mz a) [] JN H1 {s1 with heap:=h3}:=I3.Mz;refine R9 (X:=X.Mz a) afy hg hm ?_ DO;refine wpAny_excMatches_sub_self hC z1 z2 Ha (codeAny_handlers_suite ?_);refine bI (X:=X) (s:={s1 with heap:=h3}) I3 F3 λh4 I4 F4 _=>?_;have qR:Inv (X.Mz a) [] (blank JN) H1 {s1 with heap:=h4}:=I4.blank.Mz;have hl:blank JN=Ar X.N.length none:=by unfold blank;rw[I1.len]
  rw[hl]at qR;have hS:=hh a [] {s1 with heap:=h4} _ H1 _ qR q;refine GY hS (λf s5 h5=>?_) λ_ _ z=>z.elim;cases f with
  |next=>obtain⟨_,_,_,z⟩:=h5;exact z.elim
  |brk=>obtain⟨_,_,_,z⟩:=h5;exact z.elim
  |cont=>obtain⟨_,_,_,z⟩:=h5;exact z.elim
  |ret u=>
   w_up;obtain⟨v,B1,H',J,rv,z⟩:=h5;fin2;exact⟨v,B1,H',I4.att J,rv,z⟩
end
abbrev Cx.MN(X:Cx)(s:AA)(H:Hp)(scope:G3)(CU:Env)(fp:List A0)(pn:List (A0×Obj))(W:A5->AA->Prop):Cx:={X with EV:=s,MH:=H,env:=CU,outer:=X.stack,ex:=fp,fn:=λx=>scope.names.lookup x==some .cell,pn:=pn,xe:=W}
def Zt(X:Cx)(E:XK)(C:A0)(e:A5)(s':AA):Prop:=∃(σ:St)(H:Hp)(a:A0)(cls:A5)(tb:Option A0)(m:Str->Option A5),e=.ref a/\Inv X [] σ H s'/\QG X [] H s'.heap a cls tb/\E cls none H/\s'.heap.Ns C m/\Dj X [] H C
def QF.away(f:QF h a cls tb)(hn:h.Ns C m)(k:∀b o,b≠C->h.get? b=some o->h'.get? b=some o):QF h' a cls tb:=by
 obtain⟨o,es,ep,ho,hd,_⟩:=hn;cases tb with
 |none=>
  obtain⟨oe,vs,q1,q2,q3,q4⟩:=f;exact⟨oe,vs,k _ _ (λz=>by rw[z,ho]at q1;cases q1;rw[hd]at q3;cases q3) q1,q2,q3,q4⟩
 |some T=>
  obtain⟨ne,oe,vs,oT,ts,fl,q1,q2,q3,q4,q5,q6,q7⟩:=f;exact⟨ne,oe,vs,oT,ts,fl,k _ _ (λz=>by rw[z,ho]at q1;cases q1;rw[hd]at q3;cases q3) q1,q2,q3,q4,k _ _ (λz=>by rw[z,ho]at q5;cases q5;rw[hd]at q6;cases q6) q5,q6,q7⟩
def av7(Bt:X.stack=X.env::X.outer)(DP:X.env.frame=some X.env.locals)(hx:X.ex=[])(Qu:LY X E)(cF:ce.frame=X.env.frame)(w:Zt X E C e s'):
 Pg (AU X.prog X.w) X.A ce (λe s=>Pe (AU X.prog X.w) X.A X.xe use Qf acc C (.error e) s) e s':=by
 w_up;obtain⟨σ,H,a,cls,tb,m,rfl,I,F,q,hn,hC⟩:=w;obtain⟨o,es,ep,ho,hd,hr⟩:=id hn;fin2;have QT:C≠a:=λz=>by
  have f:=F.LG;rw[z]at ho;cases tb with
  |none=>obtain⟨oe,vs,q1,_,q3,_⟩:=f;rw[ho]at q1;cases q1;rw[hd]at q3;cases q3
  |some T=>obtain⟨_,oe,vs,_,_,_,q1,_,q3,_⟩:=f;rw[ho]at q1;cases q1;rw[hd]at q3;cases q3
 have noT:tb≠some C:=λz=>by
  have f:=F.LG;rw[z]at f;w_up;obtain⟨_,_,_,oT,ts,_,_,_,_,_,q5,q6,_⟩:=f;fin2;rw[ho]at q5;cases q5;rw[hd]at q6;cases q6
 have noF:C∉ET X.stack:=λz=>by
  rcases B2.mp (I.Xi C z)with z|z
  .exact hC.2.1 z
  .exact hC.2.2.1 z
 refine kS I Bt DP cF F λh1 T1 I1 F1 kp=>?_;have gU:h1.Ns C m:=⟨o,es,ep,kp C o ho noF QT noT,hd,hr⟩;refine⟨m,gU,λh2 sb CU Pm=>?_⟩;have I2:Inv X [] σ H {s' with heap:=h2}:=I1.turned (t':=s'.toks) (λb ob hb e=>(sb.2 b hb).trans e) hC.1 hC.2.1 hC.2.2.2.1 hC.2.2.2.2.1 hC.2.2.2.2.2;have F2:QG X [] H h2 a cls (some T1):=⟨F1.LG.away gU λb ob hb e=>(sb.2 b hb).trans e,F1.fa,F1.ft⟩;w_up;obtain⟨_,oe,vs,oT,ts,fl,q1,q2,q3,q4,_⟩:=F2.LG;fin2;unfold PySem.passOn;refine AN (IZ (s:={s' with heap:=h2}) q1 q3 q4 ?_);rw[if_neg (by simp)];refine AN ?_;refine bI (s:={s' with heap:=h2}) I2 F2 λh3 I3 F3 _=>wpAny_throw (Qu _ _ ⟨σ,H,a,cls,some T1,rfl,I3,F3,q⟩)
section
variable{X:Cx}
def wH
 (Bt:X.stack=X.env::X.outer)(DP:X.env.frame=some X.env.locals)(LS:X.ex=[])(Qu:LY X E)(hc:X.calm=true)(hN:X.N.Nodup)(I:Inv X pins σ H s)(hi:PI X tg iter wi)(ok:OK X.N X.env.scope scope own)
 (hg:∀(s:AA)(H:Hp)(C:A0)(cl:List (Str×A0))(fp:List A0),PG (X.CO s H scope (D6 scope cl C X.env) fp) tg g)(ht:∀(s:AA)(H:Hp)(C:A0)(cl:List (Str×A0))(fp:List A0),Pp (X.CO s H scope (D6 scope cl C X.env) fp) ifs tt)
 (he:∀(s:AA)(H:Hp)(C:A0)(cl:List (Str×A0))(fp:List A0)(pn:List (A0×Obj))(W:A5->AA->Prop),ES (D2 X.prog X.w) (X.MN s H scope (D6 scope cl C X.env) fp pn W) E->PE (X.MN s H scope (D6 scope cl C X.env) fp pn W) elt te)(hs:∀x,PF iter X.env x=pure x)
 (h:N0 wi g tt te (own.map (·.2)) σ H Q)
 (iM:∀D C s' m H',Inv X pins σ H' s'->Q (.ref D) H'->s'.heap.Ns C m->Dj X pins H' C->Pe (AU X.prog X.w) X.A X.xe use Qf (.ref D) C (.ok .next) s'):
 AJ (AU X.prog X.w) X.A (ZG (.ListComp elt [⟨tg,iter,ifs,0⟩] scope pos) scope X.env pos' (newList []) false (As iter X.env) use) Qf X.xe s:=by
 have OE:∀y∈scope.names,y.2=.free->∃c,X.env.cells.lookup y.1=some c:=λy hy e=>by
  rcases ok.free y hy e with k|k
  .exact I.ok.has _ (.inl k)
  .exact I.ok.has _ (.inr k)
 refine adG (use:=use) rfl hs (rZ OE) ok.kind (λy hy e=>by rw[ok.uniq y hy,e])
  (Be (hi pins s σ H _ I h) λxv s1 hx=>Be hx λbX s2 h2=>?_)
 w_up;obtain⟨it,fp,tn,J,H2,e,I2,T,Li,f2,q⟩:=h2;fin2;subst e;refine Yd (wq ?_) (by show 0<=Al;decide);generalize hD:s2.heap.objs.size=D;have iH:H2 D=none:=I2.AZ.fresh (Kq hD);w_up;obtain⟨W,⟨m0,w0⟩,turn⟩:=q D iH;fin2;generalize Vf:({s2 with heap:=s2.heap.push {cls:=.type "list",data:=.seq ([]:List A5).toArray}}:AA)=s3;have I3:Inv X pins σ (upd H2 D (.lst [])) s3:=by
  rw[<-Vf];refine I2.laid (t':=s2.toks) (λb o e=>BK _ e) (Kq hD) ⟨Er _,[],0,.nil,?_⟩;rw[<-hD];exact C_ _ rfl
 have h3:s3.heap=s2.heap.push {cls:=.type "list",data:=.seq ([]:List A5).toArray}:=by rw[<-Vf]
 have sz:∀b∈fp,b<s2.heap.objs.size:=λb hb=>by
  w_up;obtain⟨o,e,_⟩:=T.obj _ _ Li b hb;fin2;exact BZ e
 have f3:∀b∈fp,Dj X pins (upd H2 D (.lst [])) b/\b<s3.heap.objs.size:=λb hb=>by
  have B3:=sz b hb;refine⟨⟨?_,(f2 b hb).2⟩,by rw[h3,FG];exact Yc B3⟩;rw[AY (by rw[<-hD];exact DU B3)];exact(f2 b hb).1
 have Tj:tn 0 s3.heap:=T.keep _ _ _ Li λb _ o e=>by rw[h3];exact BK _ e
 have I4:=qF I3 ok hN f3;have pg:=hg s3 (upd H2 D (.lst [])) s3.heap.objs.size (DK (s3.heap.objs.size+1) scope.names (DN X.env.cells scope.names [])) fp;have pt:=ht s3 (upd H2 D (.lst [])) s3.heap.objs.size (DK (s3.heap.objs.size+1) scope.names (DN X.env.cells scope.names [])) fp;have pe:=he s3 (upd H2 D (.lst [])) s3.heap.objs.size (DK (s3.heap.objs.size+1) scope.names (DN X.env.cells scope.names [])) fp;have cF:(D6 scope (DK (s3.heap.objs.size+1) scope.names (DN X.env.cells scope.names [])) s3.heap.objs.size X.env).frame=X.env.frame:=rfl;show JF _ _ (.compStart (.ListComp elt [⟨tg,iter,ifs,0⟩] scope pos) 0 (.ref it) (.ref D) (D6 scope (DK (s3.heap.objs.size+1) scope.names (DN X.env.cells scope.names [])) s3.heap.objs.size X.env)) (Pe (AU X.prog X.w) X.A X.xe use Qf (.ref D) s3.heap.objs.size) {s3 with heap:=L1 (s3.heap.push {cls:=.type "dict",data:=.dict #[]}) scope.names};have Vx:∀b∈fp,(upd H2 D (.lst [])) b=none:=λb hb=>(f3 b hb).1.1;generalize Pm:D6 scope (DK (s3.heap.objs.size+1) scope.names (DN X.env.cells scope.names [])) s3.heap.objs.size X.env=ce at I4 pg pt pe cF⊢;have cL:ce.locals=s3.heap.objs.size:=by subst Pm;rfl
 generalize aV:upd H2 D (.lst [])=H3 at I3 I4 pg pt pe w0 Vx f3;generalize jP:({s3 with heap:=L1 (s3.heap.push {cls:=.type "dict",data:=.dict #[]}) scope.names}:AA)=s4 at I4⊢;have Wy:tn 0 s4.heap:=T.keep _ _ _ Tj λb _ o e=>by rw[<-jP];exact UJ _ _ _ _ (BK _ e)
 have stat:∀{B1:St}{H':Hp}{s':AA},Inv (X.CO s3 H3 scope ce fp) [] B1 H' s'->(∀b∈fp,H' b=none)->∀b∈fp,Dj (X.CO s3 H3 scope ce fp) [] H' b:=λ{B1 H' s'}I' hn b hb=>
  ⟨hn b hb,(I'.ok.O3 b hb).1,I'.ok.O4 b hb,.inl hb,λx c e=>(I'.ok.O3 b hb).2 x c e,λp hp=>absurd (show p∈([]:List (A0×Obj))++[]from hp) (by simp)⟩
 have loop:JF (AU X.prog X.w) X.A (.compLoop (.ListComp elt [⟨tg,iter,ifs,0⟩] scope pos) 0 (.ref it) (.ref D) ce) (Pe (AU X.prog X.w) X.A X.xe use Qf (.ref D) s3.heap.objs.size) s4:=by
  refine r_ (λn s'=>∃i H',Inv (X.CO s3 H3 scope ce fp) [] (wipe σ (own.map (·.2))) H' s'/\tn i s'.heap/\(∀b∈fp,H' b=none)/\W i n H') ?_ m0 ⟨0,H3,I4,Wy,Vx,w0⟩;intro n s5 AG;w_up;obtain⟨i,H5,I5,My,n5,w5⟩:=AG;fin2;rcases turn i n H5 w5 with⟨stop,qq⟩|⟨go,Nx,iL,step⟩
  .have td:=T.done (X.CO s3 H3 scope ce fp) rfl rfl rfl hc i [] s5 _ H5 (λ_ _=>False) I5 (stat I5 n5) My stop;refine Ka td λr s6 AG=>?_;obtain⟨hr,I6⟩:=AG;subst hr;have I7:Inv X pins σ H5 s6:=I3.Uj (ch:=fp) I6.os I6.base I6.AZ I6.bare λb hb=>⟨(f3 b hb).1.2.2.2.1,(f3 b hb).1.2.1,(f3 b hb).1.2.2.2.2.1,(f3 b hb).1.2.2.2.2.2⟩;have nC:H5 s3.heap.objs.size=none:=by
    have z:H5 ce.locals=none:=I6.free;rw[cL]at z;exact z
   w_up;obtain⟨m,hn,_⟩:=I6.loc;fin2;have hn:s6.heap.Ns ce.locals m:=hn;rw[cL]at hn;exact iM D s3.heap.objs.size s6 m H5 I7 qq hn (I3.KJ (Az _) nC)
  .have ti:=T.item (X.CO s3 H3 scope ce fp) rfl rfl rfl hc i [] s5 _ H5 (λ_ _=>False) I5 (stat I5 n5) My go;refine Ka ti λr s6 EI=>?_;obtain⟨u,hr,h6⟩:=EI;subst hr;refine Ka h6 λ_ s7 Uh=>?_;obtain⟨x,H7,I7,r7,y7,Qj,n7⟩:=Uh;have q_:=T.obj _ _ Qj;have dG:=I7.pinned (stat I7 n7) q_;refine Ka (pg _ s7 _ H7 x u _ dG r7 (step x H7 y7)) λ_ s8 Ui=>?_;obtain⟨Kj,H8,I8,Vn,q8⟩:=Ui;refine Ka (pt _ s8 Kj H8 _ I8 q8) λb s9 iE=>?_;obtain⟨H9,I9,q9⟩:=iE;have fin:∀{s':AA}{H':Hp},Inv (X.CO s3 H3 scope ce fp) ([]++K7 fp s7.heap) Kj H' s'->Nx H'->∃m,m<n/\∃i H',Inv (X.CO s3 H3 scope ce fp) [] (wipe σ (own.map (·.2))) H' s'/\tn i s'.heap/\(∀b∈fp,H' b=none)/\W i m H':=λ{s' H'}I' nx=>by
    w_up;obtain⟨m',hm,w'⟩:=iL H' nx;fin2;have WV:∀b∈fp,∀o,s7.heap.get? b=some o->s'.heap.get? b=some o/\H' b=none:=λb hb o e=>
     let z:=I'.pin (b,o) (Jl _ (Jl _ (VW hb e)))
     ⟨z.1,z.2.1⟩
    have hl:(wipe σ (own.map (·.2))).length=Kj.length:=by rw[<-Vn,XE]
    refine⟨m',hm,i+1,H',(I'.TC (pins:=[])).weak hl (λj v e=>?_),T.keep _ _ _ Qj λb hb o e=>(WV b hb o e).1,λb hb=>?_,w'⟩
    .rw[<-Vn]at e;exact(XF e).1
    .obtain⟨o,e,_⟩:=T.obj _ _ Qj b hb;exact(WV b hb o e).2
   cases b with
   |false=>
    simp only[NW,if_false]at q9⊢;exact fin I9 q9
   |true=>
    simp only[if_true]at q9⊢;have hC:∀{H':Hp},H' s3.heap.objs.size=none->Dj X [] H' s3.heap.objs.size:=λ{H'}z=>(I3.KJ (Az _) z).L8;have pass:ES (D2 X.prog X.w) (X.MN s3 H3 scope ce fp (K7 fp s7.heap) (Zt X E s3.heap.objs.size)) E:=by
     intro jq B1 H' s' e Mv J AG;w_up;obtain⟨a,cls,T,Bp,rfl,os,bare,un,AZ,fl,⟨ha,sa⟩,⟨hT,sT⟩,q⟩:=AG;have J':Inv (X.MN s3 H3 scope ce fp (K7 fp s7.heap) (Zt X E s3.heap.objs.size)) jq B1 Bp Mv:=J.Uj (ch:=[]) os un AZ bare (by simp);have ag0:Inv X pins σ Bp Mv:=I3.Uj (ch:=fp) J'.os J'.base J'.AZ J'.bare λb hb=>⟨(f3 b hb).1.2.2.2.1,(f3 b hb).1.2.1,(f3 b hb).1.2.2.2.2.1,(f3 b hb).1.2.2.2.2.2⟩;have anO:∀b,s'.heap.get? b=none->b∉fp:=λb hb z=>by
      obtain⟨o,e,_⟩:=q_ b z;have:=(J.pin (b,o) (U9 _ (VW z e))).1;rw[hb]at this;cases this
     have old:∀b,s'.heap.get? b=none->s3.heap.get? b=none:=λb hb=>by
      cases z:s3.heap.get? b with
      |none=>rfl
      |some o=>
       obtain⟨o',z'⟩:=J.base.there b o z (anO b hb);rw[hb]at z';cases z'
     have nC:Bp s3.heap.objs.size=none:=by
      have z:Bp ce.locals=none:=J'.free;rw[cL]at z;exact z
     obtain⟨m,hn,_⟩:=J'.loc;fin2;have hn:Mv.heap.Ns ce.locals m:=hn;rw[cL]at hn;exact⟨σ,Bp,a,cls,some T,m,rfl,ag0.L8,⟨fl,(I3.V0 (old a sa) (by rw[LS];simp) ha).L8,λT' z=>by cases z;exact(I3.V0 (old T sT) (by rw[LS];simp) hT).L8⟩,q,hn,hC nC⟩
    have ag1:Inv (X.MN s3 H3 scope ce fp (K7 fp s7.heap) (Zt X E s3.heap.objs.size)) [] Kj H9 s9:=
     ⟨⟨I9.ok.mod,I9.ok.kind,I9.ok.glob,I9.ok.blt,I9.ok.above,I9.ok.inj,I9.ok.has,I9.ok.Px,I9.ok.hd,I9.ok.frames,I9.ok.Tn,I9.ok.O3,I9.ok.bs,I9.ok.L9,I9.ok.QU,I9.ok.O4,I9.ok.HV,I9.ok.MS⟩,I9.os,I9.bare,I9.base,I9.loc,I9.cell,I9.free,I9.G8,λp hp=>I9.pin p (by simpa using hp),I9.AZ,I9.len⟩
    refine GY (pe (K7 fp s7.heap) _ pass [] s9 Kj H9 _ ag1 q9) (λz lq⟨yv,pZ,JP,k9,acc,iG,jZ,nx⟩=>?_) λe lq wx=>?_
    .have afP:Inv (X.CO s3 H3 scope ce fp) ([]++K7 fp s7.heap) Kj pZ lq:=
      ⟨I9.ok,JP.os,JP.bare,JP.base,JP.loc,JP.cell,JP.free,JP.G8,λp hp=>JP.pin p (by simpa using hp),JP.AZ,JP.len⟩
     exact qi (X:=X.CO s3 H3 scope ce fp) afP iG jZ k9 λs11 dF=>fin dF nx
    .exact av7 Bt DP LS Qu cF wx
 exact adD loop (T.self X.A 0 _ _ _ Wy loop)
def FZ(Bt:X.stack=X.env::X.outer)(DP:X.env.frame=some X.env.locals)(LS:X.ex=[])(Qu:LY X E)(hc:X.calm=true)(hN:X.N.Nodup)(hi:PI X tg iter wi)(ok:OK X.N X.env.scope scope own)
 (hg:∀(s:AA)(H:Hp)(C:A0)(cl:List (Str×A0))(fp:List A0),PG (X.CO s H scope (D6 scope cl C X.env) fp) tg g)(ht:∀(s:AA)(H:Hp)(C:A0)(cl:List (Str×A0))(fp:List A0),Pp (X.CO s H scope (D6 scope cl C X.env) fp) ifs tt)
 (he:∀(s:AA)(H:Hp)(C:A0)(cl:List (Str×A0))(fp:List A0)(pn:List (A0×Obj))(W:A5->AA->Prop),ES (D2 X.prog X.w) (X.MN s H scope (D6 scope cl C X.env) fp pn W) E->PE (X.MN s H scope (D6 scope cl C X.env) fp pn W) elt te)(hs:autoParam (∀x,PF iter X.env x=pure x) auI):
 PE X (.ListComp elt [⟨tg,iter,ifs,0⟩] scope pos) (N0 wi g tt te (own.map (·.2))):=by
 intro pins s σ H Q I h;rw[eval_ListComp];refine wH Bt DP LS Qu hc hN I hi ok hg ht he hs h λD C s' m H' I' q hn f=>⟨m,hn,λFp sb=>?_⟩;obtain⟨f0,f1,f2,f3,f4,f5⟩:=f;exact⟨.ref D,H',I'.turned (t':=s'.toks) (λb o hb e=>(sb.2 b hb).trans e) f0 f1 f3 f4 f5,rfl,q⟩
def Y8(Bt:X.stack=X.env::X.outer)(DP:X.env.frame=some X.env.locals)(LS:X.ex=[])(Qu:LY X E)(hc:X.calm=true)(hN:X.N.Nodup)(hy:X.N[i]? =some y)(FK:X.env.scope.names.lookup y=some .local)
 (jS:M2 (.ListComp elt [⟨tg,iter,ifs,0⟩] scope pos) (some (.Name y py)) ki.line X.env=pure true)(hi:PI X tg iter wi)(ok:OK X.N X.env.scope scope own)
 (hg:∀(s:AA)(H:Hp)(C:A0)(cl:List (Str×A0))(fp:List A0),PG (X.CO s H scope (D6 scope cl C X.env) fp) tg g)(ht:∀(s:AA)(H:Hp)(C:A0)(cl:List (Str×A0))(fp:List A0),Pp (X.CO s H scope (D6 scope cl C X.env) fp) ifs tt)
 (he:∀(s:AA)(H:Hp)(C:A0)(cl:List (Str×A0))(fp:List A0)(pn:List (A0×Obj))(W:A5->AA->Prop),ES (D2 X.prog X.w) (X.MN s H scope (D6 scope cl C X.env) fp pn W) E->PE (X.MN s H scope (D6 scope cl C X.env) fp pn W) elt te)(hs:autoParam (∀x,PF iter X.env x=pure x) auI):
 PS X (.Assign [.Name y py] (.ListComp elt [⟨tg,iter,ifs,0⟩] scope pos) ki) (X0 (N0 wi g tt te (own.map (·.2))) (DD i)):=by
 intro pins s σ H D I h;rw[adW _ _ _ _ jS];refine AN (ZL (AN ?_));show AJ _ X.A (do let _<-ZG (.ListComp elt [⟨tg,iter,ifs,0⟩] scope pos) scope X.env (firstIterPos [⟨tg,iter,ifs,0⟩] pos) (newList []) false (As iter X.env) (some (M8 (.Name y py) X.env))) _ _ s;have h:N0 wi g tt te (own.map (·.2)) σ H (λx H1=>DD i x σ H1 D.nx):=h;refine AN (Be (wH (Qf:=λ_ s'=>SP X pins D .next s') Bt DP LS Qu hc hN I hi ok hg ht he hs h λL C s' m H' I' q hn f=>?_) λ_ s' hq=>BN (BN hq));show AJ _ _ (M8 (.Name y py) X.env (.ref L)) _ _ _;refine oE (lJ (v:=V.ref L) I' hN hy (.inl FK) rfl (λs2 I2 AG=>?_) (.inr FK));obtain⟨a,sb,ha⟩:=AG;w_up;obtain⟨f0,f1,f2,f3,f4,f5⟩:=f;fin2;have iQ:C≠a:=by
  rcases ha with z|z
  .rw[z];exact f1
  .exact λe=>f4 y a z e.symm
 refine⟨m,hn.sameBut sb iQ,λh3 kq=>?_⟩;exact⟨_,H',I2.turned (t':=s2.toks) (λb o hb e=>(kq.2 b hb).trans e) f0 f1 f3 f4 f5,q⟩
end
def PE.or(h:PE X e t)(h':PE X e t'):PE X e (λσ H Q=>t σ H Q\/t' σ H Q):=λpins s σ H Q I q=>q.elim (h pins s σ H Q I) (h' pins s σ H Q I)
structure Sa(K:Ae)(C:A0)(m:Str)(f:A0):Prop where
 hg:ae0 K (.ref C) "__getattribute__"=some (some (.builtin "type.__getattribute__"))
 hr:aeP K C (.type "type")=true
 hf:(match oR K (.ref C) (.type "type") m with|some (.val v)=>v==.ref f|_=>false)=true
 hh:Ye (.ref f)=true
set_option tactic.hygienic true in
def Sa.is{K:Ae}{C:A0}(B:Sa K C m f):oR K (.ref C) (.type "type") m=some (.val (.ref f)):=by
 have h:=B.hf;split at h
 .rename_i v e;rw[e,eq_of_beq h]
 .cases h
section
variable{X:Cx}{CX:K8}{k:Nat}{f C:A0}{fd:Rp}{ps:List Str}{sp:Sp}{CW:List V}{ds:List A5}{E:XK}{x m:Str}{p pos apos:Pos}{e o:B7}{es:List B7}{ta:TE}{t:TA}
def apN(hg:Gl X x)(hm:X.mg x=some (.ref C))(B:Sa X.K C m f)(hk:Lr X.K (.ref f)=true)(F:K9 X.prog X.w X.K X.mg X.base CX k f fd ps sp)(hr:By k X.A)(hb:Binds X.K fd ps ds)(hd:Ai CW ds)(hx:ES CX X E)(ha:PA X (e::es) t)
 (DO:autoParam ((x==("__debug__":Str))=false) auD)
 (Bt:autoParam (B0 (e::es) X.env=(false,As e X.env)::B0 es X.env) auR)(Ax:autoParam ((D7 pos (B0 es X.env)).any (·.1)=false) auR)
 (ht:autoParam (As (.Call (.Attribute (.Name x p) m apos) (e::es) [] pos) X.env=(do
  let ov<-As (.Name x p) X.env
  M6 apos.atName
  let(f,first)<-I0 [ov] (Nn ov m pl)
  Rq pos f first (D7 pos (B0 (e::es) X.env)) (Pd pos (Pa [] X.env)))) auR):
 PE X (.Call (.Attribute (.Name x p) m apos) (e::es) [] pos) (T9 sp CW E t):=by
 intro pins s σ H Q I h;refine mo (pl:=pl) (R9 I hg hm ?_ DO) ht;refine PySem.W.method_cls I.F5 B.hg (PySem.W.cls_value I.F5 B.hr B.is B.hh ?_);have I1:=I.tok (s.toks+1);refine U4 (first:=[]) (h₀:=X.base) I.ok.mod.Oy hk (Be (ha pos pins _ σ H _ I1 h) λus s2⟨vs,H2,I2,r,q2⟩=>⟨I2.F5,?_⟩) Bt Ax;exact We F hr hb hd hx I2 r q2
def mM(i:Nat)(f:A0)(sp:Sp)(CW:List V)(E:XK)(t:TA):TE:=λσ H Q=>σ[i]? =some (some (.ref f))/\t σ H λvs H1=>sp (vs++CW) H1 Q E
def apR(F:K9 X.prog X.w X.K X.mg X.base CX k f fd ps sp)(hr:By k X.A)(hN:X.N[i]? =some x)(hv:Ny X.env.scope x)(hk:Lr X.K (.ref f)=true)(hb:Binds X.K fd ps ds)(hd:Ai CW ds)(hx:ES CX X E)
 (ha:PA X (e::es) t)(DO:autoParam ((x==("__debug__":Str))=false) auD)(J0:autoParam ((x==("__classdict__":Str))=false) auD)(he:autoParam (B0 (e::es) X.env=(false,As e X.env)::B0 es X.env) auR)(Ax:autoParam ((D7 pos (B0 es X.env)).any (·.1)=false) auR):
 PE X (.Call (.Name x p) (e::es) [] pos) (mM i f sp CW E t):=by
 intro pins s σ H Q I h;obtain⟨hs,h⟩:=h;refine PD (Be (yF hN hv DO J0 pins s σ H (λv H1=>v=.ref f/\H1=H) I (by unfold RB;rw[hs];exact⟨rfl,rfl⟩)) λu s1 AG=>?_);obtain⟨v,H1,I1,r1,e1,e2⟩:=AG;subst e1 e2;cases r1;refine U4 (h₀:=X.base) I.ok.mod.Oy hk (Be (ha pos pins s1 σ H1 _ I1 h) λus s2⟨vs,H2,I2,r,q⟩=>⟨I2.F5,?_⟩) he Ax;exact We F hr hb hd hx I2 r q
end
def CD{P:Bs}{w:Bg}{K:Ae}{mg:Str->Option A5}{base:B5}{N:List Str}{qual:Str}:
 LY (Ey (D2 P w) P w K mg base N qual scope f cd A outer s H E) E:=λe s' W=>alu (X:=Ey (D2 P w) P w K mg base N qual scope f cd A outer s H E) rfl rfl rfl W
def AD{P:Bs}{w:Bg}{K:Ae}{mg:Str->Option A5}{base:B5}{N:List Str}{qual:Str}:
 ES (D2 P w) (Ey (D2 P w) P w K mg base N qual scope f cd A outer s H E) E:=LY.passes (X:=Ey (D2 P w) P w K mg base N qual scope f cd A outer s H E) rfl CD
def Dd{P:Bs}{w:Bg}{K:Ae}{mg:Str->Option A5}{base:B5}{N:List Str}{qual:Str}:
 PassesOwn (AU P w) (Ey (D2 P w) P w K mg base N qual scope f cd A outer s H E).A (Ey (D2 P w) P w K mg base N qual scope f cd A outer s H E).env (Ey (D2 P w) P w K mg base N qual scope f cd A outer s H E).xe:=PassesOwn.leaving
def aif{CX:K8}{P:Bs}{w:Bg}{K:Ae}{mg:Str->Option A5}{base:B5}{k:Nat}{f:A0}{name qual:Str}{params:Arguments}{body:List D8}{scope:G3}{dV kV doc pm AF ct oc:A5}{an od:Option A0}
 {Lf:Array (Option A5)}{N ps:List Str}{sp:Sp}(lk:K.lookup f=some ⟨oc,od,.func (Hu name qual params body scope dV kV doc pm an AF ct),Lf⟩)(J0:Yl K AF qual=true)(S:Af N ps scope)
 (len:∀vs H Q E,sp vs H Q E->vs.length=ps.length)
 (Hb:∀(A:CB)(outer:List Env)(s:AA)(H:Hp)(vs:List V)(Q:VK)(E:XK),By k (A.deeper (HP qual scope s.heap.objs.size f AF))->sp vs H Q E->
  ∃t,KE (Ey CX P w K mg base N qual scope f AF A outer s H E) body t/\t {nx:=λ_ H'=>Q .Ah H',rt:=Q} (start N vs) H):
 K9 P w K mg base CX (k+1) f (Hu name qual params body scope dV kV doc pm an AF ct) ps sp:=by
 refine⟨len,λA outer s H args us vs Q E hr e0 hb r LQ=>?_⟩;have hl:=len _ _ _ _ LQ;have KX:K.In s.heap:=e0.mod.Oy.keeps λb o e=>(e0.bs b o e).1;have lim:s.heap.NoLimit:=e0.mod.nolimit.keeps λb o e=>(e0.bs b o e).1;have alP:∀y∈ps.zip us,scope.names.lookup y.1=some .local\/(scope.names.lookup y.1=some .cell/\((DK (s.heap.objs.size+1) scope.names []).lookup y.1).isSome=true):=λ⟨n,v⟩hy=>by
  rcases S.par n (GX hy).1 with q|q
  .exact .inl q
  .exact .inr ⟨q,adB _ _ _ (.inl q)⟩
 refine codeAny_call_function hr.depth (KX _ _ lk) rfl S.co S.gen rfl (PySem.W.codeRec_of KX J0) (hb _ _ _ _ ?_);refine wpAny_newFunctionEnv_cells S.kind alP λenv he s1 x=>?_;subst he;refine⟨lim.keeps x.toInCall.keep,codeAny_func ?_⟩;obtain⟨t,ht,hq⟩:=Hb A outer s H vs Q E (hr.deeper _) LQ;have I:Inv (Ey CX P w K mg base N qual scope f AF A outer s H E) [] (start N vs) H s1:=amB S hr.hd e0 hl r x;refine GY (ht s1 (start N vs) H _ I hq) (λfl s' hs=>?_) λe s' hs=>hs;have fin:∀{B1:St}{H':Hp}{v:V}{u:A5},Inv (Ey CX P w K mg base N qual scope f AF A outer s H E) [] B1 H' s'->RelV v u->Q v H'->CE outer P w H s Q u s':=
  λ{B1 H' v u}J rv q=>⟨v,H',J.os,J.bare,J.base,J.AZ,rv,q⟩
 cases fl with
 |ret u=>
  obtain⟨v,B1,H',J,rv,q⟩:=hs;exact fin J rv q
 |next=>
  obtain⟨B1,H',J,q⟩:=hs;exact fin (v:=V.Ah) (u:=Ky) J rfl q
 |brk=>
  obtain⟨_,_,_,q⟩:=hs;exact Hw q
 |cont=>
  obtain⟨_,_,_,q⟩:=hs;exact Hw q
end L2
namespace PySem
open Sem (wp)
namespace F
def ats(a b c:A5):checkTypeCall "zip" ⟨[a,b,c],[]⟩=pure ():=by kernel_rfl
def anJ(a b c:A5):checkBuiltinCall "zip.__new__" ⟨[.type "zip",a,b,c],[]⟩=pure ():=by kernel_rfl
def afl(a b c d:A5):argsOk "object.__init__" ⟨[a,b,c,d],[]⟩:=by
 unfold argsOk;rw[signature?_of (id:="object.__init__") (n:=['_','_','t','i','n','i','_','_']) (o:=['t','c','e','j','b','o']) (by kernel_rfl) owner_object];kernel_rfl
end F
abbrev Dz(h:B5)(T:A0)(a b c:A5):Prop:=h.get? T=some {cls:=.type "tuple",data:=.seq #[a,b,c]}
section
variable{prog:Bs}{w:Bg}{A:CB}{E:A5->AA->Prop}{s:AA}
def me(hT:Dz s.heap T a b c)
 (h:∀h',h'.get? T=some {cls:=.type "tuple",data:=.seq ((#[a,b,c]:Array A5).setIfInBounds k x)}->UM T s.heap h'->Q () {s with heap:=h'}):
 AJ (AU prog w) A (updateSeq T (·.setIfInBounds k x)) Q E s:=by
 refine Ym hT rfl (h _ ?_ (awP ..));rw[P6 _ hT rfl];simp[Rc]
structure Z3(z TI TO i1 i2 i3 l1 l2 l3:A0):Prop where
 TIz:TI≠z
 TOz:TO≠z
 i1z:i1≠z
 i2z:i2≠z
 bU:i3≠z
 TITO:TI≠TO
 TIi1:TI≠i1
 TIi2:TI≠i2
 agK:TI≠i3
 TOi1:TO≠i1
 TOi2:TO≠i2
 gD:TO≠i3
 i12:i1≠i2
 uN:i1≠i3
 uO:i2≠i3
 l1z:l1≠z
 l2z:l2≠z
 l3z:l3≠z
 l2TO:l2≠TO
 alo:l3≠TO
 l2i1:l2≠i1
 alp:l3≠i1
 alq:l3≠i2
def avE{xs ys zs:Array A5}{x y u a b c:A5}{Q:A5->AA->Prop}(D:Z3 z TI TO i1 i2 i3 l1 l2 l3)
 (hz:Gb s.heap z TI TO .none)(Cq:Dz s.heap TI (.ref i1) (.ref i2) (.ref i3))(DE:Dz s.heap TO a b c)
 (h1:s.heap.IsListIter i1 l1 k)(h2:s.heap.IsListIter i2 l2 k)(h3:s.heap.IsListIter i3 l3 k)(CP:s.heap.IsList l1 xs)(D4:s.heap.IsList l2 ys)(El:s.heap.IsList l3 zs)
 (hx:xs[k]? =some x)(hy:ys[k]? =some y)(hu:zs[k]? =some u)
 (hQ:∀h',Gb h' z TI TO (Jx s.heap.objs.size)->Dz h' TO x y u->h'.IsListIter i1 l1 (k+1)->h'.IsListIter i2 l2 (k+1)->h'.IsListIter i3 l3 (k+1)->Dz h' s.heap.objs.size x y u->h'.objs.size=s.heap.objs.size+1->
  (∀c o,c≠z->c≠TO->c≠i1->c≠i2->c≠i3->s.heap.get? c=some o->h'.get? c=some o)->Q (.ref s.heap.objs.size) {s with heap:=h'}):
 AJ (AU prog w) A (Uc.«zip.__next__» ⟨[.ref z],[]⟩) (λfin s'=>∃v,fin=.done (.ret v)/\Q v s') E s:=by
 show AJ _ _ (field (.ref z) 2>>=_) _ _ _;refine AN (IZ hz rfl (x:=.bool false) rfl ?_);show AJ _ _ (field (.ref z) 3>>=_) _ _ _;refine AN (IZ hz rfl (x:=.ref TI) rfl ?_);refine AN (Kw Cq rfl ?_);show AJ _ _ (YF (.ref z)>>=_) _ _ _;refine AN ?_;unfold YF;refine AN (IZ hz rfl (x:=.none) rfl (BN ?_));simp only[if_true];refine AN (ZY ?_);refine AN (IZ hz rfl (x:=.ref TO) rfl ?_);refine AN (U5 hz (by simp) λOx R6 ND=>?_);replace R6:Gb Ox z TI TO .ellipsis:=R6;refine AN ?_;simp only[ni,oS,oQ,Yk];refine AN (AN (ZH ?_));show AJ _ _ (YR (.ref i1)>>=_) _ _ _;refine AN (nH (h1.extBut ND.extBut D.i1z) (CP.extBut ND.extBut D.l1z) hx λNJ ajI Qx=>BN ?_);have tq:Dz NJ TO a b c:=Qx.extBut _ _ D.TOi1 (ND.extBut _ _ D.TOz DE);refine AN (Kw tq rfl ?_);refine AN (me tq λNK iO Qy=>?_);replace iO:Dz NK TO x b c:=iO;refine AN (Pb (BN ?_));have k3:∀d o,d≠z->d≠i1->d≠TO->s.heap.get? d=some o->NK.get? d=some o:=λd o d1 d2 d3 e=>Qy.extBut _ _ d3 (Qx.extBut _ _ d2 (ND.extBut _ _ d1 e));refine AN (AN (ZH ?_));show AJ _ _ (YR (.ref i2)>>=_) _ _ _;refine AN (nH (h2.at λo e=>k3 _ o D.i2z D.i12.symm D.TOi2.symm e) (D4.at λo e=>k3 _ o D.l2z D.l2i1 D.l2TO e) hy λik akf Vi=>BN ?_);have tu:Dz ik TO x b c:=Vi.extBut _ _ D.TOi2 iO;refine AN (Kw tu rfl ?_);refine AN (me tu λcn iP Vj=>?_);replace iP:Dz cn TO x y c:=iP;refine AN (Pb (BN ?_));have k5:∀d o,d≠z->d≠i1->d≠i2->d≠TO->s.heap.get? d=some o->cn.get? d=some o:=λd o d1 d2 d4 d3 e=>Vj.extBut _ _ d3 (Vi.extBut _ _ d4 (k3 d o d1 d2 d3 e));refine AN (AN (ZH ?_));show AJ _ _ (YR (.ref i3)>>=_) _ _ _;refine AN (nH (h3.at λo e=>k5 _ o D.bU D.uN.symm D.uO.symm D.gD.symm e) (El.at λo e=>k5 _ o D.l3z D.alp D.alq D.alo e) hu λam6 aki Sf=>BN ?_);have tw:Dz am6 TO x y c:=Sf.extBut _ _ D.gD iP;refine AN (Kw tw rfl ?_);refine AN (me tw λGq a_ Sh=>?_);replace a_:Dz Gq TO x y u:=a_;refine AN (Pb (BN (BN ?_)));refine AN (Kw a_ rfl ?_);refine AN (wpAny_newTuple ?_);have hsz:Gq.objs.size=s.heap.objs.size:=by rw[Sh.1,Sf.1,Vj.1,Vi.1,Qy.1,Qx.1,ND.1]
 have uM:Gb Gq z TI TO .ellipsis:=Sh.extBut _ _ D.TOz.symm (Sf.extBut _ _ D.bU.symm (Vj.extBut _ _ D.TOz.symm (Vi.extBut _ _ D.i2z.symm (Qy.extBut _ _ D.TOz.symm (Qx.extBut _ _ D.i1z.symm R6)))));have alR:∀c o,c≠z->c≠TO->c≠i1->c≠i2->c≠i3->s.heap.get? c=some o->Gq.get? c=some o:=λc o c1 c2 c3 c4 c5 e=>
  Sh.extBut _ _ c2 (Sf.extBut _ _ c5 (k5 c o c1 c3 c4 c2 e))
 have ajh:Gq.IsListIter i1 l1 (k+1):=((((ajI.extBut Qy.extBut D.TOi1.symm).extBut Vi.extBut D.i12).extBut Vj.extBut D.TOi1.symm).extBut Sf.extBut D.uN).extBut Sh.extBut D.TOi1.symm;have akg:Gq.IsListIter i2 l2 (k+1):=((akf.extBut Vj.extBut D.TOi2.symm).extBut Sf.extBut D.uO).extBut Sh.extBut D.TOi2.symm;have akj:Gq.IsListIter i3 l3 (k+1):=aki.extBut Sh.extBut D.gD.symm;have vJ:z<Gq.objs.size:=BZ uM;show AJ _ _ (ad1 (.ref z) (.ref Gq.objs.size)>>=_) _ _ _;refine AN ?_;unfold ad1;have am4:Gb (Gq.push {cls:=.type "tuple",data:=.seq #[x,y,u]}) z TI TO .ellipsis:=BK _ uM;refine AN (U5 am4 (by simp) λam7 ij jT=>?_);replace ij:Gb am7 z TI TO (Jx Gq.objs.size):=ij;refine U5 ij (by simp) λhA NH jQ=>?_;replace NH:Gb hA z TI TO (Jx Gq.objs.size):=NH;have up:∀c o,c≠z->Gq.get? c=some o->hA.get? c=some o:=λc o c1 e=>jQ.extBut _ _ c1 (jT.extBut _ _ c1 (BK _ e));have tp:Dz hA Gq.objs.size x y u:=jQ.extBut _ _ (Ly vJ) (jT.extBut _ _ (Ly vJ) (C_ _ rfl));have vI:hA.objs.size=Gq.objs.size+1:=by rw[jQ.1,jT.1,FG]
 rw[hsz]at NH tp vI;refine BN ⟨_,rfl,?_⟩;show Q (.ref Gq.objs.size) _;rw[hsz];exact hQ hA NH (up _ _ D.TOz a_) (ajh.at λo e=>up _ o D.i1z e) (akg.at λo e=>up _ o D.i2z e) (akj.at λo e=>up _ o D.bU e) tp vI λc o c1 c2 c3 c4 c5 e=>up c o c1 (alR c o c1 c2 c3 c4 c5 e)
def avC(hh:A.handled=none)(D:Z3 z TI TO i1 i2 i3 l1 l2 l3)
 (hz:Gb s.heap z TI TO .none)(Cq:Dz s.heap TI (.ref i1) (.ref i2) (.ref i3))(DE:Dz s.heap TO a b c)
 (h1:s.heap.IsListIter i1 l1 k)(CP:s.heap.IsList l1 xs)(hx:xs[k]? =none)
 (hE:∀h' e,(∀c o,c≠z->c≠i1->s.heap.get? c=some o->h'.get? c=some o)->(∃o,h'.get? e=some o/\o.cls=.type "StopIteration")->E (.ref e) {s with heap:=h'}):
 AJ (AU prog w) A (Uc.«zip.__next__» ⟨[.ref z],[]⟩) Q E s:=by
 show AJ _ _ (field (.ref z) 2>>=_) _ _ _;refine AN (IZ hz rfl (x:=.bool false) rfl ?_);show AJ _ _ (field (.ref z) 3>>=_) _ _ _;refine AN (IZ hz rfl (x:=.ref TI) rfl ?_);refine AN (Kw Cq rfl ?_);show AJ _ _ (YF (.ref z)>>=_) _ _ _;refine AN ?_;unfold YF;refine AN (IZ hz rfl (x:=.none) rfl (BN ?_));simp only[if_true];refine AN (ZY ?_);refine AN (IZ hz rfl (x:=.ref TO) rfl ?_);refine AN (U5 hz (by simp) λOx R6 ND=>?_);replace R6:Gb Ox z TI TO .ellipsis:=R6;refine AN ?_;simp only[ni,oS,oQ,Yk];refine AN (AN (ZH ?_));show AJ _ _ (YR (.ref i1)>>=_) _ _ _;refine AN (wpAny_nextOf_list_end hh (h1.extBut ND.extBut D.i1z) (CP.extBut ND.extBut D.l1z) hx λNJ e Qx he=>?_);obtain⟨oe,jD,Pm⟩:=he;have uL:Gb NJ z TI TO .ellipsis:=Qx _ _ D.i1z.symm R6;have ak9:e≠z:=λx=>by subst x;rw[uL]at jD;cases jD;simp at Pm
 exact U5 uL (by simp) λNK _ Qy=>hE NK e (λc o c1 c3 x=>Qy.extBut _ _ c1 (Qx _ _ c3 (ND.extBut _ _ c1 x))) ⟨oe,Qy.extBut _ _ ak9 jD,Pm⟩
def anN(D:Z3 z TI TO i1 i2 i3 l1 l2 l3)
 (hz:Gb s.heap z TI TO .none)(Cq:Dz s.heap TI (.ref i1) (.ref i2) (.ref i3))(DE:Dz s.heap TO a b c)
 (h1:s.heap.IsListIter i1 l1 k)(h2:s.heap.IsListIter i2 l2 k)(h3:s.heap.IsListIter i3 l3 k)(CP:s.heap.IsList l1 xs)(D4:s.heap.IsList l2 ys)(El:s.heap.IsList l3 zs)
 (hx:xs[k]? =some x)(hy:ys[k]? =some y)(hu:zs[k]? =some u)
 (hQ:∀h',Gb h' z TI TO (Jx s.heap.objs.size)->Dz h' TO x y u->h'.IsListIter i1 l1 (k+1)->h'.IsListIter i2 l2 (k+1)->h'.IsListIter i3 l3 (k+1)->Dz h' s.heap.objs.size x y u->h'.objs.size=s.heap.objs.size+1->
  (∀c o,c≠z->c≠TO->c≠i1->c≠i2->c≠i3->s.heap.get? c=some o->h'.get? c=some o)->Q (some (.ref s.heap.objs.size)) {s with heap:=h'}):
 AJ (AU prog w) A (JG (.ref z)) Q E s:=by
 have hT:s.TypeIs (.ref z) "zip":=⟨_,hz,rfl⟩;unfold JG;exact AN (wpAny_attempt (adJ (name:=EB "__next__") hT Yn
  (aeY Yn hT aeZ
   (avE D hz Cq DE h1 h2 h3 CP D4 El hx hy hu λh' a1 a2 a3 a4 a5 a6 a7 a8=>BN (hQ h' a1 a2 a3 a4 a5 a6 a7 a8)) (ae1 _))))
def anM(hh:A.handled=none)(D:Z3 z TI TO i1 i2 i3 l1 l2 l3)
 (hz:Gb s.heap z TI TO .none)(Cq:Dz s.heap TI (.ref i1) (.ref i2) (.ref i3))(DE:Dz s.heap TO a b c)
 (h1:s.heap.IsListIter i1 l1 k)(CP:s.heap.IsList l1 xs)(hx:xs[k]? =none)
 (hQ:∀h',(∀c o,c≠z->c≠i1->s.heap.get? c=some o->h'.get? c=some o)->Q none {s with heap:=h'}):AJ (AU prog w) A (JG (.ref z)) Q E s:=by
 have hT:s.TypeIs (.ref z) "zip":=⟨_,hz,rfl⟩;unfold JG;refine AN (wpAny_attempt (adJ (name:=EB "__next__") hT Yn
  (aeY Yn hT aeZ (avC hh D hz Cq DE h1 CP hx λh' e hk he=>?_) (ae1 _))))
 obtain⟨o,ho,hc⟩:=he;refine AN (wpAny_isInstance (T:="StopIteration") (b:=true) ⟨o,ho,hc⟩ isSubtype_stop ?_);exact BN (hQ _ hk)
end
abbrev XJ(h:B5)(l1:A0):B5:=h.push {cls:=.type "list_iterator",data:=.fields #[.ref l1,.int 0 0]}
abbrev XM(h:B5)(l1 l2:A0):B5:=(XJ h l1).push {cls:=.type "list_iterator",data:=.fields #[.ref l2,.int 0 0]}
abbrev Xm(h:B5)(l1 l2 l3:A0):B5:=(XM h l1 l2).push {cls:=.type "list_iterator",data:=.fields #[.ref l3,.int 0 0]}
abbrev YB(h:B5)(l1 l2 l3:A0):B5:=(Xm h l1 l2 l3).push {cls:=.type "tuple",data:=.seq #[.ref h.objs.size,.ref (XJ h l1).objs.size,.ref (XM h l1 l2).objs.size]}
abbrev YC(h:B5)(l1 l2 l3:A0):B5:=(YB h l1 l2 l3).push {cls:=.type "tuple",data:=.seq #[.none,.none,.none]}
abbrev RE(h:B5)(l1 l2 l3:A0):B5:=(YC h l1 l2 l3).push {cls:=.type "zip",data:=.fields #[.none,.bool false,.bool false,.ref (Xm h l1 l2 l3).objs.size,.ref (YB h l1 l2 l3).objs.size]}
def amj(l1 l2 l3:A0)(xs ys zs:Array A5):
 Meets (Uc.«zip.__new__» ⟨[.type "zip",.ref l1,.ref l2,.ref l3],[]⟩) (λ_ R s=>s.heap.IsList l1 xs/\s.heap.IsList l2 ys/\s.heap.IsList l3 zs/\
  R (.ok (.ret (.ref (YC s.heap l1 l2 l3).objs.size))) {s with heap:=RE s.heap l1 l2 l3}):=
 .of_wp λprog w A R s h=>by
  obtain⟨hp,g,d,tk,os⟩:=s;obtain⟨CP,D4,El,h⟩:=h;have az5:=sub_zip;have akq:pH (pI ⟨hp,g,d,tk,os⟩) l1 xs:=CP;have akr:pH (pI ⟨hp.push {cls:=.type "list_iterator",data:=.fields #[.ref l1,.int 0 0]},g,d,tk,os⟩) l2 ys:=nk D4 _;have aks:pH (pI ⟨(hp.push {cls:=.type "list_iterator",data:=.fields #[.ref l1,.int 0 0]}).push {cls:=.type "list_iterator",data:=.fields #[.ref l2,.int 0 0]},g,d,tk,os⟩) l3 zs:=nk (nk El _) _
  wp_walk using RW akq,RW akr,RW aks
  exact⟨_,rfl,h⟩
section
variable{prog:Bs}{w:Bg}{A:CB}{E:A5->AA->Prop}{s:AA}
def agy(CP:s.heap.IsList l1 xs)(D4:s.heap.IsList l2 ys)(El:s.heap.IsList l3 zs)
 (h:∀h',Gb h' (s.heap.objs.size+5) (s.heap.objs.size+3) (s.heap.objs.size+4) .none->Dz h' (s.heap.objs.size+3) (.ref s.heap.objs.size) (.ref (s.heap.objs.size+1)) (.ref (s.heap.objs.size+2))->
  Dz h' (s.heap.objs.size+4) .none .none .none->h'.IsListIter s.heap.objs.size l1 0->h'.IsListIter (s.heap.objs.size+1) l2 0->h'.IsListIter (s.heap.objs.size+2) l3 0->
  (∀c o,s.heap.get? c=some o->h'.get? c=some o)->Q (.ref (s.heap.objs.size+5)) {s with heap:=h'}):
 AJ (AU prog w) A (HQ (.type "zip") [.ref l1,.ref l2,.ref l3]) Q E s:=by
 refine callType_new F.called_zip (by decide) (F.ats _ _ _) (F.anJ _ _ _) (λobj=>F.afl obj _ _ _) F.entry_zip_new
  (amj l1 l2 l3 xs ys zs) ⟨CP,D4,El,?_⟩
 have z1:(XJ s.heap l1).objs.size=s.heap.objs.size+1:=FG ..;have z2:(XM s.heap l1 l2).objs.size=s.heap.objs.size+2:=by rw[FG,z1]
 have z3:(Xm s.heap l1 l2 l3).objs.size=s.heap.objs.size+3:=by rw[FG,z2]
 have z4:(YB s.heap l1 l2 l3).objs.size=s.heap.objs.size+4:=by rw[FG,z3]
 have z5:(YC s.heap l1 l2 l3).objs.size=s.heap.objs.size+5:=by rw[FG,z4]
 have g6:(RE s.heap l1 l2 l3).get? (YC s.heap l1 l2 l3).objs.size=some _:=C_ _ rfl;have g5:(RE s.heap l1 l2 l3).get? (YB s.heap l1 l2 l3).objs.size=some _:=BK _ (C_ _ rfl);have g4:(RE s.heap l1 l2 l3).get? (Xm s.heap l1 l2 l3).objs.size=some _:=BK _ (BK _ (C_ _ rfl));have g3:(RE s.heap l1 l2 l3).get? (XM s.heap l1 l2).objs.size=some _:=BK _ (BK _ (BK _ (C_ _ rfl)));have g2:(RE s.heap l1 l2 l3).get? (XJ s.heap l1).objs.size=some _:=BK _ (BK _ (BK _ (BK _ (C_ _ rfl))));have g1:(RE s.heap l1 l2 l3).get? s.heap.objs.size=some _:=BK _ (BK _ (BK _ (BK _ (BK _ (C_ _ rfl)))));show _/\_;rw[z3,z4,z5]at g6;rw[z1,z2,z3]at g4;rw[z4]at g5;rw[z2]at g3;rw[z1]at g2;rw[z5];exact⟨⟨_,g6,rfl⟩,h _ g6 g4 g5 ⟨_,g1,rfl,rfl⟩ ⟨_,g2,rfl,rfl⟩ ⟨_,g3,rfl,rfl⟩ λc o x=>
  BK _ (BK _ (BK _ (BK _ (BK _ (BK _ x)))))⟩
def avA(I l1 l2 l3:Nat)(h1:l1<I)(h2:l2<I)(h3:l3<I):Z3 (I+5) (I+3) (I+4) I (I+1) (I+2) l1 l2 l3:=by
 constructor<;>(refine PySem.W.neN ?_;lia)
end
end PySem
namespace L2
open PySem PySem.Spec PyProof.Rows
def VD(K:Ae)(a b c:A0):It:=
 ⟨λi H=>∃(xs ys zs:List V)(x y z:V),A4 K H a xs/\A4 K H b ys/\A4 K H c zs/\xs[i]? =some x/\ys[i]? =some y/\zs[i]? =some z,
  λi H v H'=>∃T x y z,v=.ref T/\H T=none/\H'=upd H T (.tup [x,y,z])/\(∀xs,A4 K H a xs->xs[i]? =some x)/\(∀ys,A4 K H b ys->ys[i]? =some y)/\∀zs,A4 K H c zs->zs[i]? =some z,
  λi H=>∃xs:List V,A4 K H a xs/\xs.length<=i⟩
def au_{P:Bs}{w:Bg}{K:Ae}{elts:List B7}{kk:Nat}{JK:Pos}{a b c z TI TO i1 i2 i3:A0}(D:Z3 z TI TO i1 i2 i3 a b c):
 Turn P w K (.Tuple elts kk JK) (VD K a b c) [z,TI,TO,i1,i2,i3] z (λi h=>Gb h z TI TO .none/\Dz h TI (.ref i1) (.ref i2) (.ref i3)/\(∃x y u,Dz h TO x y u)/\h.IsListIter i1 a i/\h.IsListIter i2 b i/\h.IsListIter i3 c i)where
 mem:=by simp
 obj:=λi h st d hc=>by
  w_up;obtain⟨hz,Cq,⟨x,y,u,DE⟩,⟨o1,e1,_,d1⟩,⟨o2,e2,_,d2⟩,⟨o3,e3,_,d3⟩⟩:=st;fin2;have e':d=z\/d=TI\/d=TO\/d=i1\/d=i2\/d=i3:=by simpa using hc
  rcases e' with q|q|q|q|q|q
  .rw[q];exact⟨_,hz,λv q=>nomatch q⟩
  .rw[q];exact⟨_,Cq,λv q=>nomatch q⟩
  .rw[q];exact⟨_,DE,λv q=>nomatch q⟩
  .rw[q];exact⟨o1,e1,λv q=>by rw[d1]at q;cases q⟩
  .rw[q];exact⟨o2,e2,λv q=>by rw[d2]at q;cases q⟩
  .rw[q];exact⟨o3,e3,λv q=>by rw[d3]at q;cases q⟩
 keep:=λi h h' st k=>by
  w_up;obtain⟨hz,Cq,⟨x,y,u,DE⟩,h1,h2,h3⟩:=st;fin2;exact⟨k z (by simp) _ hz,k TI (by simp) _ Cq,⟨x,y,u,k TO (by simp) _ DE⟩,h1.at λo q=>k i1 (by simp) o q,h2.at λo q=>k i2 (by simp) o q,h3.at λo q=>k i3 (by simp) o q⟩
 item:=by
  intro X hP hw hK hc i pins s σ H E I hf st hg;subst hP hw hK;w_up;obtain⟨hz,Cq,⟨x0,y0,u0,DE⟩,h1,h2,h3⟩:=st;obtain⟨xs,ys,zs,x,y,v,J3,KW,cV,hx,hy,hv⟩:=hg;obtain⟨its,rv,p,_⟩:=I.list J3;obtain⟨J4,Qg,p2,_⟩:=I.list KW;obtain⟨amG,zF,p3,_⟩:=I.list cV;obtain⟨u,hu,ru⟩:=rv.get hx;obtain⟨u2,jW,lj⟩:=Qg.get hy;obtain⟨u3,hu3,ru3⟩:=zF.get hv;fin2;have LU:z<s.heap.objs.size:=BZ hz;refine anN D hz Cq DE h1 h2 h3 p.isList p2.isList p3.isList (x:=u) (y:=u2) (u:=u3) (by simpa using hu) (by simpa using jW) (by simpa using hu3) λh' z' gC iF SR akh hT hsz hk=>?_;refine⟨_,rfl,adM (s:={s with heap:=h'}) z' λFp mB sb=>?_⟩;have Vz:Fp.get? s.heap.objs.size=some {cls:=.type "tuple",data:=.seq #[u,u2,u3]}:=(sb.2 _ (Ly LU)).trans hT;have new:Dg X.prog X.w (upd H s.heap.objs.size (.tup [x,y,v])) Fp s.heap.objs.size (.tup [x,y,v]):=
   ⟨by show 3<=Al;decide,[u,u2,u3],.cons ru (.cons lj (.cons ru3 .nil)),⟨_,Vz,rfl,_,rfl⟩⟩
  have I1:Inv X pins σ (upd H s.heap.objs.size (.tup [x,y,v])) {s with heap:=Fp}:=
   I.mY (t':=s.toks) (ch:=[z,TI,TO,i1,i2,i3]) (λc o hb q=>(sb.2 c (λq'=>hb (by simp[q']))).trans (hk c o (λq'=>hb (by simp[q'])) (λq'=>hb (by simp[q'])) (λq'=>hb (by simp[q'])) (λq'=>hb (by simp[q'])) (λq'=>hb (by simp[q'])) q)) hf (Az _) new
  refine⟨.ref s.heap.objs.size,_,I1,rfl,⟨_,x,y,v,rfl,I.AZ.fresh (Az _),rfl,λl hl=>by rw[I.QK hl J3];exact hx,λl hl=>by rw[I.QK hl KW];exact hy,λl hl=>by rw[I.QK hl cV];exact hv⟩,⟨mB,?_,⟨u,u2,u3,?_⟩,?_,?_,?_⟩,λd LL=>?_⟩
  .exact(sb.2 _ D.TIz).trans (hk _ _ D.TIz D.TITO D.TIi1 D.TIi2 D.agK Cq)
  .exact(sb.2 _ D.TOz).trans gC
  .exact iF.at λo q=>(sb.2 _ D.i1z).trans q
  .exact SR.at λo q=>(sb.2 _ D.i2z).trans q
  .exact akh.at λo q=>(sb.2 _ D.bU).trans q
  .have B3:d<s.heap.objs.size:=by
    have e':d=z\/d=TI\/d=TO\/d=i1\/d=i2\/d=i3:=by simpa using LL
    rcases e' with q|q|q|q|q|q
    .rw[q];exact LU
    .rw[q];exact BZ Cq
    .rw[q];exact BZ DE
    .rw[q];obtain⟨_,e1,_⟩:=h1;exact BZ e1
    .rw[q];obtain⟨_,e2,_⟩:=h2;exact BZ e2
    .rw[q];obtain⟨_,e3,_⟩:=h3;exact BZ e3
   rw[AY (DU B3)];exact(hf d LL).1
 done:=by
  intro X hP hw hK hc i pins s σ H E I hf st hg;subst hP hw hK;w_up;obtain⟨hz,Cq,⟨x0,y0,u0,DE⟩,h1,h2,h3⟩:=st;obtain⟨xs,J3,tL⟩:=hg;obtain⟨its,rv,p,_⟩:=I.list J3;fin2;have l1:=rv.length;have he:its.toArray[i]? =none:=by simp;lia
  exact anM (I.ok.hd hc) D hz Cq DE h1 p.isList he λh' hk=>⟨rfl,I.acv (t':=s.toks) (ch:=[z,TI,TO,i1,i2,i3]) (λc o hb q=>
   hk c o (λq'=>hb (by simp[q'])) (λq'=>hb (by simp[q'])) q) hf⟩
 self:=λA i s Q E st h=>Yx st.1 h
def uX(K:Ae)(ta:TA):TI:=λσ H R=>ta σ H λvs H1=>Mi vs λx y z=>Bm x λa=>Bm y λb=>Bm z λc=>∃xs ys zs,A4 K H1 a xs/\A4 K H1 b ys/\A4 K H1 c zs/\R (VD K a b c) H1
def aph{X:Cx}{e e2 e3:B7}{ta:TA}{p pos JK:Pos}{elts:List B7}{kk:Nat}(hg:Gl X "zip")(hm:X.mg "zip"=none)(ha:PA X [e,e2,e3] ta)
 (hs:autoParam (B0 [e,e2,e3] X.env=(false,As e X.env)::B0 [e2,e3] X.env) auR)(Ax:autoParam ((D7 pos (B0 [e2,e3] X.env)).any (·.1)=false) auR):
 PI X (.Tuple elts kk JK) (.Call (.Name "zip" p) [e,e2,e3] [] pos) (uX X.K ta):=by
 intro pins s σ H R I h;refine Call_ (NP I hg hm qK (P4 (Be (ha pos pins s σ H _ I h) λus s1 AG=>?_) hs Ax));obtain⟨vs,H1,I1,r1,q1⟩:=AG;w_up;obtain⟨a,b,c,ex,xs,ys,zs,J3,KW,cV,q⟩:=aoO q1;fin2;subst ex;cases r1 with
 |cons r rr=>
  cases rr with
  |cons r' rr=>
   cases rr with
   |cons k8 rr=>
   cases rr;cases r;cases r';cases k8;w_up;obtain⟨its,rv,p1,_⟩:=I1.list J3;obtain⟨J4,Qg,p2,_⟩:=I1.list KW;obtain⟨amG,zF,p3,_⟩:=I1.list cV;fin2;have la:a<s1.heap.objs.size:=p1.lt;have lb:b<s1.heap.objs.size:=p2.lt;have lc:c<s1.heap.objs.size:=p3.lt;refine agy p1.isList p2.isList p3.isList λh' hz Cq DE h1 h2 h3 hk=>Yx hz ?_;have I2:Inv X pins σ H1 {s1 with heap:=h'}:=I1.kept (t':=s1.toks) hk;refine⟨s1.heap.objs.size+5,[s1.heap.objs.size+5,s1.heap.objs.size+3,s1.heap.objs.size+4,s1.heap.objs.size,s1.heap.objs.size+1,s1.heap.objs.size+2],_,_,H1,rfl,I2,au_ (avA s1.heap.objs.size a b c la lb lc),⟨hz,Cq,⟨_,_,_,DE⟩,h1,h2,h3⟩,λd LL=>?_,q⟩;have e':d=s1.heap.objs.size+5\/d=s1.heap.objs.size+3\/d=s1.heap.objs.size+4\/d=s1.heap.objs.size\/d=s1.heap.objs.size+1\/d=s1.heap.objs.size+2:=by simpa using LL
   have hle:s1.heap.objs.size<=d:=by
    rcases e' with z|z|z|z|z|z<;>rw[z]<;>first|exact Fy _ _|exact Az _
   exact I1.KJ hle (I1.AZ.fresh hle)
end L2
namespace SB
open PySem PySem.Spec PyProof.Rows L2
def ani(x:Nat):x&&&2139095040=x/2^23 %256*2^23:=by
 have e:(2139095040:Nat)=255*2^23:=by decide
 rw[e];apply YI;intro i;rw[Yo,YM,YM];by_cases c:23<=i
 .rw[show(256:Nat)=2^8 from rfl,mz,nB,show(255:Nat)=2^8-1 from rfl,Nat.testBit_two_pow_sub_one];simp only[c,decide_true,aex];rw[show i-23+23=i by omega,Bool.and_comm]
 .simp[c]
def qg{x:Nat}(hx:x<2^32):Hq (x:Int) 2139095040=((x/2^23 %256*2^23:Nat):Int):=by
 rw[Np (by lia) (by decide),Fw];show((x&&&2139095040:Nat):Int)=_;rw[ani]
def afj(x:Nat):Hq (x:Int) 8388607=((x %2^23:Nat):Int):=by
 have:=Sb.afv (x:=(x:Int)) 23 (by lia);rw[show((2:Int)^23-1)=8388607 by decide]at this;rw[this];lia
def ant{c:Nat}(hc:c<2^23):Lo (c:Int) 8388608=((c+2^23:Nat):Int):=by
 have:=Sb.qD (a:=(c:Int)) (b:=1) (k:=23) (by lia) (by lia) (by decide);rw[show(1:Int)*2^23=8388608 by decide]at this;rw[this];lia
def qf(h:Int):Hq h 1=h %2:=bitAnd_m1 h
def x_(n:Nat):n&&&2=2*(n/2 %2):=by
 apply YI;intro i;rw[Yo,show(2:Nat)=2^1 from rfl,ae6];rw[show 2^1*(n/2^1 %2^1)=(n/2^1 %2^1)*2^1 from BV _ _,YM,mz,nB];by_cases c:i=1
 .subst c;simp
 .have:¬(1=i):=λz=>c z.symm;by_cases c2:1<=i
  .simp[this,c2,show¬(i-1<1) by lia]
  .simp[this,c2]
def afi(h:Int):Hq h 2=2*(h/2 %2):=by
 by_cases c:0<=h
 .obtain⟨n,rfl⟩:=NU c;rw[Np (by lia) (by decide),Fw];show((n&&&2:Nat):Int)=_;rw[x_];lia
 .unfold Hq;rw[decide_eq_false c];show(2:Int)-(((2:Int).toNat&&&(aei h).toNat:Nat):Int)=_;rw[show(2:Int).toNat=2 from rfl,Nat.and_comm,x_];unfold aei;obtain⟨n,hn⟩:=NU (show 0<= -h-1 by lia);rw[hn,Fw];lia
def QQ(hx:x<2^32):x&&&2147483648=if 2^31<=x then 2^31 else 0:=by
 have e:x&&&2147483648=x/2^31 %2*2^31:=by
  apply YI;intro i;rw[show(2147483648:Nat)=2^31 from rfl,Yo,ae6,YM,show(2:Nat)=2^1 from rfl,<-Nat.pow_mul];rw[mz,nB];by_cases c:i=31
  .subst c;simp
  .have:¬(31=i):=λz=>c z.symm;by_cases c2:31<=i
   .simp[this,c2,show¬(i-31<1) by lia]
   .simp[this,c2]
 rw[e];split<;>lia
def gL{x:Nat}(hx:x<2^32):Hq (x:Int) 2147483648=if 2^31<=x then 2^31 else 0:=by
 rw[Np (by omega) (by decide),Fw];show((x&&&2147483648:Nat):Int)=_;rw[QQ hx];split<;>rfl
def xu{x:Nat}(hx:x<2^31):Lo (x:Int) 2147483648=((2^31+x:Nat):Int):=by
 have:=Sb.qD (a:=(x:Int)) (b:=1) (k:=31) (by lia) (by lia) (by decide);rw[show(1:Int)*2^31=2147483648 by decide]at this;rw[this];lia
def or0(x:Nat):Lo (x:Int) 0=(x:Int):=by
 rw[Sb.afw (by omega) (by decide),Fw];simp
def av9{x:Nat}(hx:x<2^32):Yv (x:Int) 2147483648=((Ks x:Nat):Int):=by
 rw[bitXor_and,gL hx];unfold Ks IY;by_cases c:2^31<=x
 .rw[if_pos c,if_pos (decide_eq_true c)];show _=((x-2^31:Nat):Int);lia
 .rw[if_neg c,if_neg (by simpa using c)];show _=((x+2^31:Nat):Int);lia
def xa(hx:x<2^32)(hy:y<2^32):x^^^y<2^32:=Nat.xor_lt_two_pow hx hy
def acZ{x y:Nat}(hx:x<2^32)(hy:y<2^32):Hq (Yv (x:Int) (y:Int)) 2147483648=((Jq (IY x !=IY y):Nat):Int):=by
 rw[Sb.afQ (by lia) (by lia),Fw,Fw,gL (xa hx hy)];have key:(2^31<=x^^^y)↔((IY x !=IY y)=true):=by
  have h1:=QQ hx;have h2:=QQ hy;have h3:=QQ (xa hx hy);have h4:(x^^^y)&&&2147483648=(x&&&2147483648)^^^(y&&&2147483648):=Nat.and_xor_distrib_right;rw[h1,h2]at h4;unfold IY;by_cases a:2^31<=x<;>by_cases b:2^31<=y
  .rw[if_pos a,if_pos b,ael,h3]at h4;have:¬2^31<=x^^^y:=λz=>by rw[if_pos z]at h4;exact absurd h4 (by decide)
   simp[a,b,this]
  .rw[if_pos a,if_neg b,Nat.xor_zero,h3]at h4;have:2^31<=x^^^y:=P2 λz=>by rw[if_neg z]at h4;exact absurd h4 (by decide)
   simp[a,b,this]
  .rw[if_neg a,if_pos b,Nat.zero_xor,h3]at h4;have:2^31<=x^^^y:=P2 λz=>by rw[if_neg z]at h4;exact absurd h4 (by decide)
   simp[a,b,this]
  .rw[if_neg a,if_neg b,ael,h3]at h4;have:¬2^31<=x^^^y:=λz=>by rw[if_pos z]at h4;exact absurd h4 (by decide)
   simp[a,b,this]
 unfold Jq;by_cases c:2^31<=x^^^y
 .rw[if_pos c,if_pos (key.mp c)];rfl
 .rw[if_neg c,if_neg (λz=>c (key.mpr z))];rfl
def afk{x y:Nat}(hx:x<2^32)(hy:y<2^32):Hq (Hq (x:Int) (y:Int)) 2147483648=if IY x=true/\IY y=true then 2^31 else 0:=by
 rw[Np (x:=(x:Int)) (y:=(y:Int)) (by lia) (by lia),Fw,Fw];have hl:x&&&y<2^32:=FD Nat.and_le_left hx;rw[gL hl];have key:(2^31<=x&&&y)↔(IY x=true/\IY y=true):=by
  have h1:=QQ hx;have h2:=QQ hy;have h3:=QQ hl;have h4:(x&&&y)&&&2147483648=(x&&&2147483648)&&&(y&&&2147483648):=by
   apply YI;intro i;simp only[Yo];cases x.testBit i<;>cases y.testBit i<;>simp
  rw[h1,h2,h3]at h4;unfold IY;rw[decide_eq_true_eq,decide_eq_true_eq];by_cases a:2^31<=x<;>by_cases b:2^31<=y
  .rw[if_pos a,if_pos b,Nat.and_self]at h4;have:2^31<=x&&&y:=P2 λz=>by rw[if_neg z]at h4;exact absurd h4 (by decide)
   exact⟨λ_=>⟨a,b⟩,λ_=>this⟩
  .rw[if_neg b,Nat.and_zero]at h4;have:¬2^31<=x&&&y:=λz=>by rw[if_pos z]at h4;exact absurd h4 (by decide)
   exact⟨λz=>absurd z this,λz=>absurd z.2 b⟩
  .rw[if_neg a,aem]at h4;have:¬2^31<=x&&&y:=λz=>by rw[if_pos z]at h4;exact absurd h4 (by decide)
   exact⟨λz=>absurd z this,λz=>absurd z.1 a⟩
  .rw[if_neg a,aem]at h4;have:¬2^31<=x&&&y:=λz=>by rw[if_pos z]at h4;exact absurd h4 (by decide)
   exact⟨λz=>absurd z this,λz=>absurd z.1 a⟩
 by_cases c:2^31<=x&&&y
 .rw[if_pos c,if_pos (key.mp c)]
 .rw[if_neg c,if_neg (λz=>c (key.mpr z))]
def anu{s:Nat}(b:Bool)(hs:s<2^31):Lo (s:Int) ((Jq b:Nat):Int)=((Jq b+s:Nat):Int):=by
 cases b with
 |true=>exact xu hs
 |false=>rw[show Jq false+s=s from EM s];exact or0 s
def or1(n:Nat):Lo (n:Int) 1=((n+(1-n %2):Nat):Int):=by
 rw[bitOr_and,qf];lia
end SB
namespace Sg
open PySem PySem.Spec PyProof.Rows L2
def GI(mg:Str->Option A5)(x:Str)(n:Int):Prop:=∃t,mg x=some (.int n t)
def GS(mg:Str->Option A5)(x:Str)(y:Str):Prop:=∃t,mg x=some (.str y t)
def Au(g:GI X.mg x n)(hg:autoParam (Gl X x) auR)(hd:autoParam ((x==("__debug__":Str))=false) auD):PE X (.Name x pos) (tC (.int n)):=by
 obtain⟨t,e⟩:=g;exact Y3 hg e ⟨t,rfl⟩ hd
def yJ(g:GS X.mg x y)(hg:autoParam (Gl X x) auR)(hd:autoParam ((x==("__debug__":Str))=false) auD):PE X (.Name x pos) (tC (.str y)):=by
 obtain⟨t,e⟩:=g;exact Y3 hg e ⟨t,rfl⟩ hd
def A_(P:Bs)(w:Bg)(K:Ae)(mg:Str->Option A5)(base:B5)(k:Nat)(f:A0)(ps:List Str)(sp:Sp):Prop:=
 ∃fd,K9 P w K mg base (D2 P w) k f fd ps sp/\Binds K fd ps []/\Lr K (.ref f)=true
structure Fn(K:Ae)(x qual:Str)(st:D8)(f:A0):Prop where
 ex:∃fd,aF K x qual st f fd
section
variable{P:Bs}{w:Bg}{K:Ae}{mg:Str->Option A5}{base:B5}
def Fn.ok{x qual:Str}{st:D8}{f:A0}(F:Fn K x qual st f)(S:Af N ps (AO st))
 (akI:∀(kV doc pm:A5)(an:Option A0)(AF ct:A5)(us:List A5),us.length=ps.length->M3 (Hu x qual (JT st) (FT st) (AO st) .none kV doc pm an AF ct) ⟨us,[]⟩=pure (ps.zip us))
 (len:∀vs H Q E,sp vs H Q E->vs.length=ps.length)
 (Hb:∀(AF:A5)(A:CB)(outer:List Env)(s:AA)(H:Hp)(vs:List V)(Q:VK)(E:XK),By k (A.deeper (HP qual (AO st) s.heap.objs.size f AF))->sp vs H Q E->
  ∃t,KE (Ey (D2 P w) P w K mg base N qual (AO st) f AF A outer s H E) (FT st) t/\t {nx:=λ_ H'=>Q .Ah H',rt:=Q} (start N vs) H):A_ P w K mg base (k+1) f ps sp:=by
 w_up;obtain⟨fd,FF⟩:=F.ex;obtain⟨oc,od,kV,doc,pm,an,AF,ct,Lf,rfl,lk,J0⟩:=FF.ex;fin2;exact⟨_,aif lk J0 S len λA outer s H vs Q E hr LQ=>Hb AF A outer s H vs Q E hr LQ,FF.binds akI,FF.kp⟩
end
section
variable{X:Cx}{k j:Nat}{f C:A0}{ps:List Str}{sp:Sp}{E:XK}{x m:Str}{p pos apos:Pos}{e o:B7}{es:List B7}{ta:TE}{t:TA}
def Ag(F:A_ X.prog X.w X.K X.mg X.base k f ps sp)(hm:X.mg x=some (.ref f))(hr:By j X.A)(hx:ES (D2 X.prog X.w) X E)(ha:PA X (e::es) t)(hk:autoParam (k<=j) auD)(hg:autoParam (Gl X x) auR)
 (DO:autoParam ((x==("__debug__":Str))=false) auD)(he:autoParam (B0 (e::es) X.env=(false,As e X.env)::B0 es X.env) auR)(Ax:autoParam ((D7 pos (B0 es X.env)).any (·.1)=false) auR):
 PE X (.Call (.Name x p) (e::es) [] pos) (T9 sp [] E t):=by
 obtain⟨fd,F,b,kp⟩:=F;exact apQ F (hr.mono hk) hg hm kp b .nil hx ha DO he Ax
def Bb(F:A_ X.prog X.w X.K X.mg X.base k f ps sp)(c:B8 X.K C)(hm:Bh X.K C m f)(hr:By j X.A)(hx:ES (D2 X.prog X.w) X E)(he:PE X o ta)(ha:PA X (e::es) t)(hk:autoParam (k<=j) auD)
 (Bt:autoParam (B0 (e::es) X.env=(false,As e X.env)::B0 es X.env) auR)(Ax:autoParam ((D7 pos (B0 es X.env)).any (·.1)=false) auR)
 (ht:autoParam (As (.Call (.Attribute o m apos) (e::es) [] pos) X.env=(do
  let ov<-As o X.env
  M6 apos.atName
  let(f,first)<-I0 [ov] (Nn ov m pl)
  Rq pos f first (D7 pos (B0 (e::es) X.env)) (Pd pos (Pa [] X.env)))) auR):
 PE X (.Call (.Attribute o m apos) (e::es) [] pos) (X2 C m sp [] E ta t):=by
 obtain⟨fd,F,b,kp⟩:=F;exact ap_ he c hm F (hr.mono hk) b .nil hx ha Bt Ax ht
def Cf(F:A_ X.prog X.w X.K X.mg X.base k f ps sp)(c:B8 X.K C)(hm:Bh X.K C m f)(hr:By j X.A)(hx:ES (D2 X.prog X.w) X E)(he:PE X o ta)(hk:autoParam (k<=j) auD)
 (ht:autoParam (As (.Call (.Attribute o m apos) [] [] pos) X.env=(do
  let ov<-As o X.env
  M6 apos.atName
  let(f,first)<-I0 [ov] (Nn ov m pl)
  Rq pos f first (D7 pos (B0 [] X.env)) (Pd pos (Pa [] X.env)))) auR):
 PE X (.Call (.Attribute o m apos) [] [] pos) (X2 C m sp [] E ta RA):=by
 obtain⟨fd,F,b,kp⟩:=F;exact apa he c hm F (hr.mono hk) b .nil hx ht
def F9(F:A_ X.prog X.w X.K X.mg X.base k f ps sp)(M:Mk X.K C f)(hm:X.mg x=some (.ref C))(hr:By j X.A)(hx:ES (D2 X.prog X.w) X E)(ha:PA X (e::es) t)(hk:autoParam (k+1<=j) auD)(hg:autoParam (Gl X x) auR)
 (DO:autoParam ((x==("__debug__":Str))=false) auD)(he:autoParam (B0 (e::es) X.env=(false,As e X.env)::B0 es X.env) auR)(Ax:autoParam ((D7 pos (B0 es X.env)).any (·.1)=false) auR):
 PE X (.Call (.Name x p) (e::es) [] pos) (X1 C sp [] E t):=by
 obtain⟨fd,F,b,kp⟩:=F;exact apX M F (hr.mono hk) hg hm b .nil hx ha DO he Ax
def aoy(F:A_ X.prog X.w X.K X.mg X.base k f ps sp)(M:Mk X.K C f)(hm:X.mg x=some (.ref C))(hr:By j X.A)(hx:ES (D2 X.prog X.w) X E)(hk:autoParam (k+1<=j) auD)(hg:autoParam (Gl X x) auR)
 (DO:autoParam ((x==("__debug__":Str))=false) auD):PE X (.Call (.Name x p) [] [] pos) (X1 C sp [] E RA):=by
 obtain⟨fd,F,b,kp⟩:=F;exact apY M F (hr.mono hk) hg hm b .nil hx DO
def Y1(F:A_ X.prog X.w X.K X.mg X.base k f ps sp)(B:Sa X.K C m f)(hm:X.mg x=some (.ref C))(hr:By j X.A)(hx:ES (D2 X.prog X.w) X E)(ha:PA X (e::es) t)(hk:autoParam (k<=j) auD)(hg:autoParam (Gl X x) auR)
 (DO:autoParam ((x==("__debug__":Str))=false) auD)
 (Bt:autoParam (B0 (e::es) X.env=(false,As e X.env)::B0 es X.env) auR)(Ax:autoParam ((D7 pos (B0 es X.env)).any (·.1)=false) auR)
 (ht:autoParam (As (.Call (.Attribute (.Name x p) m apos) (e::es) [] pos) X.env=(do
  let ov<-As (.Name x p) X.env
  M6 apos.atName
  let(f,first)<-I0 [ov] (Nn ov m pl)
  Rq pos f first (D7 pos (B0 (e::es) X.env)) (Pd pos (Pa [] X.env)))) auR):
 PE X (.Call (.Attribute (.Name x p) m apos) (e::es) [] pos) (T9 sp [] E t):=by
 obtain⟨fd,F,b,kp⟩:=F;exact apN hg hm B kp F (hr.mono hk) b .nil hx ha DO Bt Ax ht
def y9(i:Nat)(F:A_ X.prog X.w X.K X.mg X.base k f ps sp)(hr:By j X.A)(hx:ES (D2 X.prog X.w) X E)(ha:PA X (e::es) t)(hk:autoParam (k<=j) auD)(hN:autoParam (X.N[i]? =some x) auR)
 (hv:Ny X.env.scope x:=by first|exact A6 rfl|exact C1 (A6 rfl))(DO:autoParam ((x==("__debug__":Str))=false) auD)(J0:autoParam ((x==("__classdict__":Str))=false) auD)
 (he:autoParam (B0 (e::es) X.env=(false,As e X.env)::B0 es X.env) auR)(Ax:autoParam ((D7 pos (B0 es X.env)).any (·.1)=false) auR):
 PE X (.Call (.Name x p) (e::es) [] pos) (mM i f sp [] E t):=by
 obtain⟨fd,F,b,kp⟩:=F;exact apR F (hr.mono hk) hN hv kp b .nil hx ha DO J0 he Ax
end
section
variable{D:Ends}{σ:L2.St}{H:Hp}{Q:VK}
def arR(t u:TS):X4 t u D σ H=t {D with nx:=u D} σ H:=rfl
def aqR(te:TE)(g:TG):X0 te g D σ H=te σ H λx H1=>g x σ H1 D.nx:=rfl
def aqJ(i:Nat)(v:V)(R:L2.St->Hp->Prop):DD i v σ H R=R (σ.set i (some v)) H:=rfl
def lK(r:R2)(ta tb:TE):X3 r ta tb σ H Q=ta σ H λx H1=>tb σ H1 λy H2=>r x y H2 Q:=rfl
def aqw(r:V->Hp->VK->Prop)(ta:TE):aci r ta σ H Q=ta σ H λx H1=>r x H1 Q:=rfl
def jd(v:V):tC v σ H Q=Q v H:=rfl
def lN(v:V)(r:L2.St):RB 0 (some v::r) H Q=Q v H:=rfl
def lO(i:Nat)(x:Option V)(r:L2.St):RB (i+1) (x::r) H Q=RB i r H Q:=rfl
def zV(g:Int->Int->V)(i j:Int):IG g (.int i) (.int j) H Q=Q (g i j) H:=rfl
def aqL(C:Int->Int->Prop)(g:Int->Int->V)(i j:Int):rI C g (.int i) (.int j) H Q=(C i j/\Q (g i j) H):=rfl
def aqM(g:Int->V)(i:Int):rU g (.int i) H Q=Q (g i) H:=rfl
def aqg(i j:Int):Wa (.int i) (.int j) H Q=Q (.bl (decide (i=j))) H:=rfl
def zW(i j:Int):YA (.int i) (.int j) H Q=Q (.bl (!decide (i=j))) H:=rfl
def aqh(i j:Str):Wa (.str i) (.str j) H Q=Q (.bl (decide (i=j))) H:=rfl
def jc(c:Bool)(R:Bool->Prop):Le (.bl c) R=R c:=rfl
def lM(t:TE)(R:Bool->Hp->Prop):acf t σ H R=t σ H λx H'=>Le x λk=>R k H':=rfl
def je(c:TT)(t u:TS):aby c t u D σ H=c σ H λb H1=>if b=true then t D σ H1 else u D σ H1:=rfl
def aqF(c:TT)(t u:TE):abx c t u σ H Q=c σ H λb H1=>if b=true then t σ H1 Q else u σ H1 Q:=rfl
def arP(te:TE):acd te D σ H=te σ H D.rt:=rfl
def arQ:aty D σ H=D.rt .Ah H:=rfl
def kE:abe D σ H=D.nx σ H:=rfl
def aqf(te:TE):abv te D σ H=te σ H λ_ H1=>D.nx σ H1:=rfl
def aqO(t u:TT)(R:Bool->Hp->Prop):abm t u σ H R=t σ H λc H1=>if c=true then u σ H1 R else R false H1:=rfl
def arK(t u:TT)(R:Bool->Hp->Prop):abh t u σ H R=t σ H λc H1=>if c=true then R true H1 else u σ H1 R:=rfl
def arD(t:TT)(R:Bool->Hp->Prop):abg t σ H R=t σ H λc H1=>R (!c) H1:=rfl
def arX(t:TE)(R:Bool->Hp->Prop):tB t σ H R=t σ H λx H1=>Le x λc=>R c H1:=rfl
def aqW(sp:Sp)(E:XK)(t:TA):T9 sp [] E t σ H Q=t σ H λvs H1=>sp (vs++[]) H1 Q E:=rfl
def arB(R:List V->Hp->Prop):RA σ H R=R [] H:=rfl
def aqa(ta:TE)(tr:TA)(R:List V->Hp->Prop):mO ta tr σ H R=ta σ H λx H1=>tr σ H1 λxs H2=>R (x::xs) H2:=rfl
def aqZ(r:List V->Hp->VK->Prop)(t:TA):mL r t σ H Q=t σ H λvs H1=>r vs H1 Q:=rfl
def arN(C:A0)(E:XK)(t:TA):ac0 C E t D σ H=t σ H λvs H1=>vs.length<=Al/\E (.ref C) none H1:=rfl
def aqS(i:Nat)(te:TE)(ti:Zq):abo i te ti D σ H=Wr σ[i]? λx=>te σ H λy H1=>ti x y H1 λz H2=>D.nx (σ.set i (some z)) H2:=rfl
def aq_(r r':R2)(ta tb tc:TE):abq r r' ta tb tc σ H Q=ta σ H λx H1=>tb σ H1 λy H2=>r x y H2 λz H3=>Le z λk=>(if k=true then tc σ H3 λw' H4=>r' y w' H4 Q else Q (.bl false) H3):=rfl
def atf(x y:α)(r:List α):(x::r).set 0 y=y::r:=rfl
def atg(i:Nat)(x y:α)(r:List α):(x::r).set (i+1) y=x::r.set i y:=rfl
def iu[Decidable c]:(if decide c=true then A else B)=(if c then A else B):=by
 by_cases h:c<;>simp[h]
def iw:(if(!c)=true then A else B)=(if c=true then B else A):=by cases c<;>simp
def aqG(f:Int->Int->Int)(i j:Int):ip f (.int i) (.int j) H Q=Q (.int (f i j)) H:=rfl
end
end Sg
local macro_rules | `(tactic| gp_on) => `(tactic| (refine ⟨?_, ?_⟩; rotate_left; conv => lhs; whnf))
local macro_rules | `(tactic| kj_on) => `(tactic| exact ⟨rfl, rfl, rfl, by decide +kernel, rfl, by decide +kernel, by decide +kernel⟩)
set_option genInjectivity false
set_option genSizeOf false
namespace Sg
open PySem PySem.Spec PyProof.Rows L2
def top(i:Nat):D8:=avU.main.body.getD i (.Pass ⟨0,0,0,0⟩)
def aa4:{s//inClass (top 1) 0=s}:=by gp_on
def aa5:{s//inClass (top 1) 1=s}:=by gp_on
def aa6:{s//inClass (top 1) 2=s}:=by gp_on
def zK:{s//inClass (top 2) 0=s}:=by gp_on
def yo:{s//inClass (top 2) 1=s}:=by gp_on
def aaJ:{s//top 3=s}:=by gp_on
def abF:{s//top 4=s}:=by gp_on
def zm:{s//top 5=s}:=by gp_on
def abW:{s//top 6=s}:=by gp_on
def zk:{s//top 19=s}:=by gp_on
def zj:{s//top 20=s}:=by gp_on
def zt:{s//top 21=s}:=by gp_on
def abU:{s//top 22=s}:=by gp_on
def zr:{s//top 23=s}:=by gp_on
def abT:{s//top 24=s}:=by gp_on
def abG:{s//top 25=s}:=by gp_on
def zo:{s//top 26=s}:=by gp_on
def abR:{s//top 27=s}:=by gp_on
def aaL:{s//top 28=s}:=by gp_on
def abY:{s//top 29=s}:=by gp_on
def abN:{s//top 30=s}:=by gp_on
def abX:{s//top 31=s}:=by gp_on
def aa9:{s//inClass (top 35) 0=s}:=by gp_on
def aaA:{s//inClass (top 35) 1=s}:=by gp_on
def aa7:{s//inClass (top 35) 2=s}:=by gp_on
def aa8:{s//inClass (top 35) 3=s}:=by gp_on
def zq:{s//top 36=s}:=by gp_on
def aaC:{s//top 37=s}:=by gp_on
def aaB:{s//top 38=s}:=by gp_on
def abO:{s//top 39=s}:=by gp_on
def aaH:{s//top 40=s}:=by gp_on
def aaZ:{s//inClass (top 42) 0=s}:=by gp_on
def aa_:{s//inClass (top 42) 1=s}:=by gp_on
def aaM:{s//inClass (top 43) 0=s}:=by gp_on
def aaN:{s//inClass (top 43) 1=s}:=by gp_on
def aaO:{s//inClass (top 43) 2=s}:=by gp_on
def zL:{s//inClass (top 43) 3=s}:=by gp_on
def aa2:{s//inClass (top 44) 0=s}:=by gp_on
def aa3:{s//inClass (top 44) 1=s}:=by gp_on
def aa1:{s//inClass (top 44) 2=s}:=by gp_on
def aai:{s//inClass (top 45) 0=s}:=by gp_on
def aaj:{s//inClass (top 45) 1=s}:=by gp_on
def aah:{s//inClass (top 45) 2=s}:=by gp_on
def zu:{s//inClass (top 45) 3=s}:=by gp_on
def zi:{s//top 46=s}:=by gp_on
def yq:{s//inClass (top 48) 0=s}:=by gp_on
def yt:{s//inClass (top 48) 1=s}:=by gp_on
def yw:{s//inClass (top 48) 2=s}:=by gp_on
def yr:{s//inClass (top 48) 3=s}:=by gp_on
def yu:{s//inClass (top 48) 4=s}:=by gp_on
def yz:{s//inClass (top 48) 5=s}:=by gp_on
def yp:{s//inClass (top 48) 6=s}:=by gp_on
def yx:{s//inClass (top 48) 7=s}:=by gp_on
def aad:{s//inClass (top 50) 0=s}:=by gp_on
def aab:{s//inClass (top 50) 1=s}:=by gp_on
def aac:{s//inClass (top 50) 2=s}:=by gp_on
def aaf:{s//inClass (top 50) 3=s}:=by gp_on
def aae:{s//inClass (top 50) 4=s}:=by gp_on
def aag:{s//inClass (top 50) 5=s}:=by gp_on
def abZ:{s//top 51=s}:=by gp_on
def abL:{s//top 61=s}:=by gp_on
def abP:{s//top 62=s}:=by gp_on
def abS:{s//top 63=s}:=by gp_on
def abI:{s//top 64=s}:=by gp_on
def abK:{s//top 65=s}:=by gp_on
def abJ:{s//top 66=s}:=by gp_on
def aaI:{s//top 67=s}:=by gp_on
def abH:{s//top 68=s}:=by gp_on
def abM:{s//top 69=s}:=by gp_on
def aaG:{s//top 70=s}:=by gp_on
def aaa:{s//inClass (top 72) 0=s}:=by gp_on
def abQ:{s//top 73=s}:=by gp_on
def abV:{s//top 74=s}:=by gp_on
def aaK:{s//top 75=s}:=by gp_on
def zp:{s//top 76=s}:=by gp_on
def zh:{s//top 77=s}:=by gp_on
def aaE:{s//top 93=s}:=by gp_on
def aaD:{s//top 94=s}:=by gp_on
def zx:{s//inClass (top 95) 0=s}:=by gp_on
def zw:{s//inClass (top 95) 1=s}:=by gp_on
def zy:{s//inClass (top 95) 2=s}:=by gp_on
def aAn:{s//inClass (top 95) 3=s}:=by gp_on
def aa0:{s//inClass (top 95) 4=s}:=by gp_on
def aaS:{s//inClass (top 96) 0=s}:=by gp_on
def aaP:{s//inClass (top 96) 1=s}:=by gp_on
def aaX:{s//inClass (top 96) 2=s}:=by gp_on
def aaW:{s//inClass (top 96) 3=s}:=by gp_on
def aaR:{s//inClass (top 96) 4=s}:=by gp_on
def aaV:{s//inClass (top 96) 5=s}:=by gp_on
def aaY:{s//inClass (top 96) 6=s}:=by gp_on
def aaQ:{s//inClass (top 96) 7=s}:=by gp_on
def aaT:{s//inClass (top 96) 8=s}:=by gp_on
def aaU:{s//inClass (top 96) 9=s}:=by gp_on
def aaF:{s//top 97=s}:=by gp_on
structure Ad where
 Shape:A0
 Gg:A0
 DC:A0
 CF:A0
 Layer:A0
 FN:A0
 G6:A0
 Ed:A0
 Conv:A0
 Net:A0
 KC:A0
 G4:A0
 awv:A0
 Reader:A0
 Cp:A0
 fo:A0
 fq:A0
 fu:A0
 dt:A0
 e7:A0
 cut:A0
 parts:A0
 joined:A0
 turned:A0
 is_finite:A0
 ir:A0
 opposite:A0
 mW:A0
 kO:A0
 mV:A0
 plus:A0
 minus:A0
 times:A0
 over:A0
 m7:A0
 root:A0
 m6:A0
 gA:A0
 gB:A0
 g8:A0
 g9:A0
 ib:A0
 gJ:A0
 gI:A0
 lh:A0
 fX:A0
 dJ:A0
 VG:A0
 eQ:A0
 eR:A0
 eU:A0
 eP:A0
 d7:A0
 d8:A0
 d5:A0
 da:A0
 df:A0
 d_:A0
 cp:A0
 fB:A0
 eC:A0
 eG:A0
 eJ:A0
 eE:A0
 eI:A0
 eO:A0
 e9:A0
 eK:A0
 dQ:A0
 dO:A0
 dP:A0
 dS:A0
 dR:A0
 dU:A0
 zeros:A0
 lS:A0
 kg:A0
 mU:A0
 lP:A0
 lR:A0
 lQ:A0
 fY:A0
 js:A0
 lT:A0
 fT:A0
 dM:A0
 mS:A0
 Xl:A0
 bE:A0
 mixed:A0
 eased:A0
 answers:A0
 gM:A0
 cu:A0
 cq:A0
 cx:A0
 cy:A0
 cz:A0
 eZ:A0
 eW:A0
 dD:A0
 dC:A0
 eY:A0
 dB:A0
 dE:A0
 eX:A0
 e_:A0
 dA:A0
 fH:A0
 Zr:A0
structure afa(K:Ae)(mg:Str->Option A5)(a:Ad):Prop where
 KD:GI mg "PLUS_ZERO" 0
 MI:GI mg "MINUS_ZERO" 2147483648
 ONE:GI mg "ONE" 1065353216
 aE:GI mg "EXPONENT" 2139095040
 afN:GI mg "FRACTION" 8388607
 ag2:GI mg "LEADING" 8388608
 pY:GI mg "FRACTION_BITS" 23
 dH:GI mg "KEPT_BITS" 24
 IK:GI mg "FINE_BITS" 149
 agD:GI mg "ROOT_BITS" 54
 agJ:GI mg "SUM_BITS" 17
 ag5:GI mg "MOST_FINE_BITS" 426
 agH:GS mg "SIGNS" "\n 0123456789abcdefghijklmnopqrstuvwxyz"
 afM:GS mg "FIRST_WORD" "input "
 ag4:GI mg "MOST_DIGITS" 4
 Zr:mg "WINDOWS"=some (.ref a.Zr)
 au0:∀H,C6 K H a.Zr [.int 1,.int 3,.int 5]
 ag6:GI mg "MOST_LAYERS" 8
 ag7:GI mg "MOST_MADE" 4096
 ag8:GI mg "MOST_OWN" 65536
 afK:GI mg "BEGIN" 0
 agI:GI mg "SIZES" 1
 agG:GI mg "SET" 2
 afO:GI mg "GET" 3
 agE:GI mg "RUN" 4
 agL:GI mg "TRAIN" 5
 afL:GI mg "EASE" 6
 OL:GI mg "DONE" 0
 Zs:GI mg "WRONG_COUNT" (-2)
 gF:GI mg "WRONG_VALUE" (-3)
 pX:GI mg "FAILED" (-4)
 Zi:GI mg "NO_NET" (-9)
 ag3:GI mg "MOST_BYTES" 4096
 fJ:mg "abs"=none
 afq:mg "all"=none
 afr:mg "dict"=none
 VS:mg "enumerate"=none
 afs:mg "int"=none
 E0:mg "len"=none
 S8:mg "max"=none
 ph:mg "min"=none
 aft:mg "ord"=none
 Iu:mg "range"=none
 LZ:mg "zip"=none
 KO:mg "NotANet"=some (.ref a.KC)
 Kf:Xc K a.KC
 V7:mg "NotFinite"=some (.ref a.DC)
 X7:Xc K a.DC
structure afb(K:Ae)(mg:Str->Option A5)(a:Ad):Prop where
 ahg:Fn K "__init__" "Shape.__init__" aa4.1 a.fo
 ahh:Fn K "plane_size" "Shape.plane_size" aa5.1 a.fq
 iV:Bh K a.Shape "plane_size" a.fq
 ahi:Fn K "size" "Shape.size" aa6.1 a.fu
 L6:Bh K a.Shape "size" a.fu
 agS:Fn K "__init__" "Box.__init__" zK.1 a.dt
 agT:Fn K "moved" "Box.moved" yo.1 a.e7
 vU:Bh K a.Gg "moved" a.e7
 ahR:Fn K "cut" "cut" aaJ.1 a.cut
 aQ:mg "cut"=some (.ref a.cut)
 aiv:Fn K "parts" "parts" abF.1 a.parts
 Ue:mg "parts"=some (.ref a.parts)
 aio:Fn K "joined" "joined" zm.1 a.joined
 V8:mg "joined"=some (.ref a.joined)
 aiR:Fn K "turned" "turned" abW.1 a.turned
 qu:mg "turned"=some (.ref a.turned)
 ain:Fn K "is_finite" "is_finite" zk.1 a.is_finite
 ajT:mg "is_finite"=some (.ref a.is_finite)
 aim:Fn K "is_above_zero" "is_above_zero" zj.1 a.ir
 fe:mg "is_above_zero"=some (.ref a.ir)
 ait:Fn K "opposite" "opposite" zt.1 a.opposite
 ajU:mg "opposite"=some (.ref a.opposite)
 aiP:Fn K "to_units" "to_units" abU.1 a.mW
 JW:mg "to_units"=some (.ref a.mW)
 ais:Fn K "nearest" "nearest" zr.1 a.kO
 V9:mg "nearest"=some (.ref a.kO)
 aiO:Fn K "to_single" "to_single" abT.1 a.mV
 qt:mg "to_single"=some (.ref a.mV)
 aiw:Fn K "plus" "plus" abG.1 a.plus
 SO:mg "plus"=some (.ref a.plus)
 aip:Fn K "minus" "minus" zo.1 a.minus
 aR:mg "minus"=some (.ref a.minus)
 aj7:Fn K "times" "times" abR.1 a.times
 O9:mg "times"=some (.ref a.times)
 aiu:Fn K "over" "over" aaL.1 a.over
 ajV:mg "over"=some (.ref a.over)
 aiT:Fn K "with_rest" "with_rest" abY.1 a.m7
 qv:mg "with_rest"=some (.ref a.m7)
 aj3:Fn K "root" "root" abN.1 a.root
 aja:mg "root"=some (.ref a.root)
 aiS:Fn K "whole_root" "whole_root" abX.1 a.m6
 ajf:mg "whole_root"=some (.ref a.m6)
 ahl:Fn K "__init__" "Sums.__init__" aa9.1 a.gA
 ahm:Fn K "stay_finite" "Sums.stay_finite" aaA.1 a.gB
 amY:Bh K a.CF "stay_finite" a.gB
 ahj:Fn K "add_up" "Sums.add_up" aa7.1 a.g8
 c9:Bh K a.CF "add_up" a.g8
 ahk:Fn K "in_singles" "Sums.in_singles" aa8.1 a.g9
 cA:Bh K a.CF "in_singles" a.g9
 air:Fn K "most_bits" "most_bits" zq.1 a.ib
 i9:mg "most_bits"=some (.ref a.ib)
 ahK:Fn K "add_up_singles" "add_up_singles" aaC.1 a.gJ
 ajM:mg "add_up_singles"=some (.ref a.gJ)
 ahn:Fn K "add_up_fine" "add_up_fine" aaB.1 a.gI
 ajL:mg "add_up_fine"=some (.ref a.gI)
 aj4:Fn K "row_sums" "row_sums" abO.1 a.lh
 iA:mg "row_sums"=some (.ref a.lh)
 ahP:Fn K "column_sums" "column_sums" aaH.1 a.fX
 ajO:mg "column_sums"=some (.ref a.fX)
 ai8:Fn K "__init__" "Layer.__init__" aaZ.1 a.dJ
 ai9:Fn K "own_back" "Layer.own_back" aa_.1 a.VG
 axW:Bh K a.Layer "own_back" a.VG
 ahv:Fn K "__init__" "Dense.__init__" aaM.1 a.eQ
 ahw:Fn K "make" "Dense.make" aaN.1 a.eR
 amz:Bh K a.FN "make" a.eR
 ahx:Fn K "own_back" "Dense.own_back" aaO.1 a.eU
 an0:Bh K a.FN "own_back" a.eU
 ahu:Fn K "given_back" "Dense.given_back" zL.1 a.eP
 amy:Bh K a.FN "given_back" a.eP
 ahe:Fn K "__init__" "Relu.__init__" aa2.1 a.d7
 ahf:Fn K "make" "Relu.make" aa3.1 a.d8
 amW:Bh K a.G6 "make" a.d8
 ahd:Fn K "given_back" "Relu.given_back" aa1.1 a.d5
 amV:Bh K a.G6 "given_back" a.d5
 ahW:Fn K "__init__" "Pool.__init__" aai.1 a.da
 ahX:Fn K "make" "Pool.make" aaj.1 a.df
 anB:Bh K a.Ed "make" a.df
 ahV:Fn K "given_back" "Pool.given_back" aah.1 a.d_
 anA:Bh K a.Ed "given_back" a.d_
 ahY:Fn K "taken_places" "Pool.taken_places" zu.1 a.cp
 vd:Bh K a.Ed "taken_places" a.cp
 ail:Fn K "first_greatest" "first_greatest" zi.1 a.fB
 ajS:mg "first_greatest"=some (.ref a.fB)
 agV:Fn K "__init__" "Conv.__init__" yq.1 a.eC
 ahp:Fn K "make" "Conv.make" yt.1 a.eG
 vW:Bh K a.Conv "make" a.eG
 ahr:Fn K "slide" "Conv.slide" yw.1 a.eJ
 amv:Bh K a.Conv "slide" a.eJ
 agt:Fn K "inside" "Conv.inside" yr.1 a.eE
 vV:Bh K a.Conv "inside" a.eE
 ahq:Fn K "own_back" "Conv.own_back" yu.1 a.eI
 amu:Bh K a.Conv "own_back" a.eI
 aht:Fn K "weights_back" "Conv.weights_back" yz.1 a.eO
 amx:Bh K a.Conv "weights_back" a.eO
 agU:Fn K "given_back" "Conv.given_back" yp.1 a.e9
 amt:Bh K a.Conv "given_back" a.e9
 ahs:Fn K "swapped" "Conv.swapped" yx.1 a.eK
 amw:Bh K a.Conv "swapped" a.eK
 aiD:Fn K "__init__" "Net.__init__" aad.1 a.dQ
 aiB:Fn K "comes_out" "Net.comes_out" aab.1 a.dO
 vZ:Bh K a.Net "comes_out" a.dO
 aiC:Fn K "has_own" "Net.has_own" aac.1 a.dP
 v_:Bh K a.Net "has_own" a.dP
 ahT:Fn K "sizes" "Net.sizes" aaf.1 a.dS
 an9:Bh K a.Net "sizes" a.dS
 ahS:Fn K "set_own" "Net.set_own" aae.1 a.dR
 an8:Bh K a.Net "set_own" a.dR
 ahU:Fn K "stages" "Net.stages" aag.1 a.dU
 vc:Bh K a.Net "stages" a.dU
 aiU:Fn K "zeros" "zeros" abZ.1 a.zeros
 Q7:mg "zeros"=some (.ref a.zeros)
 aj1:Fn K "read_net" "read_net" abL.1 a.lS
 aj_:mg "read_net"=some (.ref a.lS)
 aj5:Fn K "split_lines" "split_lines" abP.1 a.kg
 ajb:mg "split_lines"=some (.ref a.kg)
 aj8:Fn K "to_signs" "to_signs" abS.1 a.mU
 ajd:mg "to_signs"=some (.ref a.mU)
 aiy:Fn K "read_given" "read_given" abI.1 a.lP
 ajX:mg "read_given"=some (.ref a.lP)
 aj0:Fn K "read_layers" "read_layers" abK.1 a.lR
 ajZ:mg "read_layers"=some (.ref a.lR)
 aiz:Fn K "read_layer" "read_layer" abJ.1 a.lQ
 ajY:mg "read_layer"=some (.ref a.lQ)
 ahQ:Fn K "conv_layer" "conv_layer" aaI.1 a.fY
 ajP:mg "conv_layer"=some (.ref a.fY)
 aix:Fn K "pool_layer" "pool_layer" abH.1 a.js
 ajW:mg "pool_layer"=some (.ref a.js)
 aj2:Fn K "read_number" "read_number" abM.1 a.lT
 SQ:mg "read_number"=some (.ref a.lT)
 ahO:Fn K "check_size" "check_size" aaG.1 a.fT
 qo:mg "check_size"=some (.ref a.fT)
 aiA:Fn K "__init__" "Lesson.__init__" aaa.1 a.dM
 aj6:Fn K "taken_back" "taken_back" abQ.1 a.mS
 ajc:mg "taken_back"=some (.ref a.mS)
 aiQ:Fn K "train_step" "train_step" abV.1 a.Xl
 aje:mg "train_step"=some (.ref a.Xl)
 aho:Fn K "ease_step" "ease_step" aaK.1 a.bE
 ajQ:mg "ease_step"=some (.ref a.bE)
 aiq:Fn K "mixed" "mixed" zp.1 a.mixed
 qp:mg "mixed"=some (.ref a.mixed)
 aik:Fn K "eased" "eased" zh.1 a.eased
 ajR:mg "eased"=some (.ref a.eased)
 ahM:Fn K "answers" "answers" aaE.1 a.answers
 ax5:mg "answers"=some (.ref a.answers)
 ahL:Fn K "answer_call" "answer_call" aaD.1 a.gM
 ajN:mg "answer_call"=some (.ref a.gM)
 ah_:Fn K "__init__" "Reader.__init__" zx.1 a.cu
 ahZ:Fn K "at_end" "Reader.at_end" zw.1 a.cq
 amU:Bh K a.Reader "at_end" a.cq
 aha:Fn K "take_number" "Reader.take_number" zy.1 a.cx
 Sw:Bh K a.Reader "take_number" a.cx
 ahb:Fn K "take_numbers" "Reader.take_numbers" aAn.1 a.cy
 jA:Bh K a.Reader "take_numbers" a.cy
 ahc:Fn K "take_row" "Reader.take_row" aa0.1 a.cz
 QM:Bh K a.Reader "take_row" a.cz
 ai1:Fn K "__init__" "Held.__init__" aaS.1 a.eZ
 ahy:Fn K "begin" "Held.begin" aaP.1 a.eW
 an1:Bh K a.Cp "begin" a.eW
 ai6:Fn K "sizes_told" "Held.sizes_told" aaX.1 a.dD
 an6:Bh K a.Cp "sizes_told" a.dD
 ai5:Fn K "set_own" "Held.set_own" aaW.1 a.dC
 an5:Bh K a.Cp "set_own" a.dC
 ai0:Fn K "get_own" "Held.get_own" aaR.1 a.eY
 an3:Bh K a.Cp "get_own" a.eY
 ai4:Fn K "run" "Held.run" aaV.1 a.dB
 an4:Bh K a.Cp "run" a.dB
 ai7:Fn K "train" "Held.train" aaY.1 a.dE
 an7:Bh K a.Cp "train" a.dE
 ahz:Fn K "ease" "Held.ease" aaQ.1 a.eX
 an2:Bh K a.Cp "ease" a.eX
 ai2:Fn K "learn" "Held.learn" aaT.1 a.e_
 vX:Bh K a.Cp "learn" a.e_
 ai3:Fn K "refusal" "Held.refusal" aaU.1 a.dA
 vY:Bh K a.Cp "refusal" a.dA
 ahN:Fn K "are_finite" "are_finite" aaF.1 a.fH
 qm:mg "are_finite"=some (.ref a.fH)
 amX:Bh K a.G6 "own_back" a.VG
 anC:Bh K a.Ed "own_back" a.VG
 a9:Sa K a.Layer "__init__" a.dJ
structure afc(K:Ae)(mg:Str->Option A5)(a:Ad):Prop where
 bP:mg "Layer"=some (.ref a.Layer)
 SM:mg "Shape"=some (.ref a.Shape)
 FQ:B8 K a.Shape
 To:Mk K a.Shape a.fo
 xY:Ap K a.Shape "planes"
 xZ:Ap K a.Shape "rows"
 xX:Ap K a.Shape "columns"
 rS:mg "Box"=some (.ref a.Gg)
 LD:B8 K a.Gg
 vo:Mk K a.Gg a.dt
 vO:Ap K a.Gg "top"
 vL:Ap K a.Gg "bottom"
 vM:Ap K a.Gg "left"
 vN:Ap K a.Gg "right"
 aP:mg "Sums"=some (.ref a.CF)
 E1:B8 K a.CF
 cG:Mk K a.CF a.gA
 bT:Ap K a.CF "starts"
 bR:Ap K a.CF "left"
 bS:Ap K a.CF "right"
 kJ:Ap K a.CF "are_fine"
 ak0:mg "Dense"=some (.ref a.FN)
 Pw:B8 K a.FN
 amN:Mk K a.FN a.eQ
 w8:Ap K a.FN "given"
 xN:Ap K a.FN "made"
 xO:Ap K a.FN "own_count"
 ajK:mg "Relu"=some (.ref a.G6)
 Zf:B8 K a.G6
 amT:Mk K a.G6 a.d7
 ane:Ap K a.G6 "given"
 anf:Ap K a.G6 "made"
 ang:Ap K a.G6 "own_count"
 ak4:mg "Pool"=some (.ref a.Ed)
 MO:B8 K a.Ed
 amR:Mk K a.Ed a.da
 xT:Ap K a.Ed "given"
 xU:Ap K a.Ed "made"
 xV:Ap K a.Ed "own_count"
 rT:mg "Conv"=some (.ref a.Conv)
 Ew:B8 K a.Conv
 vp:Mk K a.Conv a.eC
 vT:Ap K a.Conv "window"
 vQ:Ap K a.Conv "half"
 ic:Ap K a.Conv "weights"
 vP:Ap K a.Conv "given"
 vR:Ap K a.Conv "made"
 vS:Ap K a.Conv "own_count"
 ak3:mg "Net"=some (.ref a.Net)
 D3:B8 K a.Net
 amQ:Mk K a.Net a.dQ
 xR:Ap K a.Net "given"
 xS:Ap K a.Net "layers"
 OT:Ap K a.Net "own"
 kI:Ap K a.Net "v"
 jB:Ap K a.Net "m"
 kH:Ap K a.Net "s"
 ak2:mg "Lesson"=some (.ref a.G4)
 Ze:B8 K a.G4
 amP:Mk K a.G4 a.dM
 xP:Ap K a.G4 "error"
 xQ:Ap K a.G4 "own_g"
 ajJ:mg "Reader"=some (.ref a.Reader)
 EG:B8 K a.Reader
 amS:Mk K a.Reader a.cu
 xW:Ap K a.Reader "calls"
 bQ:Ap K a.Reader "place"
 ak1:mg "Held"=some (.ref a.Cp)
 HW:B8 K a.Cp
 amO:Mk K a.Cp a.eZ
 cI:Ap K a.Cp "net"
structure Txt(K:Ae)(mg:Str->Option A5)(a:Ad):Prop extends afa K mg a,afb K mg a,afc K mg a
def ars:Af ["self","planes","rows","columns"] ["self","planes","rows","columns"] (AO aa4.1):=by kj_on
def art:Af ["self"] ["self"] (AO aa5.1):=by kj_on
def aru:Af ["self"] ["self"] (AO aa6.1):=by kj_on
def ar5:Af ["self","top","bottom","left","right"] ["self","top","bottom","left","right"] (AO zK.1):=by kj_on
def ar6:Af ["self","down","aside"] ["self","down","aside"] (AO yo.1):=by kj_on
def as7:Af ["numbers","shape","box","taken","plane","row","start"] ["numbers","shape","box"] (AO aaJ.1):=by kj_on
def ari:Af ["numbers","length","start"] ["numbers","length"] (AO abF.1):=by kj_on
def ar_:Af ["lists","whole","part"] ["lists"] (AO zm.1):=by kj_on
def atb:Af ["numbers","shape","plane"] ["numbers","shape"] (AO abW.1):=by kj_on
def asC:Af ["single"] ["single"] (AO zk.1):=by kj_on
def asB:Af ["single"] ["single"] (AO zj.1):=by kj_on
def arf:Af ["single"] ["single"] (AO zt.1):=by kj_on
def atY:Af ["single","count","exponent"] ["single"] (AO abU.1):=by kj_on
def ard:Af ["fine","dropped","halves","single"] ["fine"] (AO zr.1):=by kj_on
def atX:Af ["fine"] ["fine"] (AO abT.1):=by kj_on
def arj:Af ["x","y","exact"] ["x","y"] (AO abG.1):=by kj_on
def ara:Af ["x","y"] ["x","y"] (AO zo.1):=by kj_on
def atV:Af ["x","y"] ["x","y"] (AO abR.1):=by kj_on
def arh:Af ["x","y","divisor","dividend","quotient"] ["x","y"] (AO aaL.1):=by kj_on
def atd:Af ["fine","is_left"] ["fine","is_left"] (AO abY.1):=by kj_on
def atP:Af ["x","square","left_out","short","whole"] ["x"] (AO abN.1):=by kj_on
def atc:Af ["square","guess","better"] ["square"] (AO abX.1):=by kj_on
def arx:Af ["self","starts","left","right","single"] ["self","starts","left","right"] (AO aa9.1):=by kj_on
def ary:Af ["self","product_bits"] ["self"] (AO aaA.1):=by kj_on
def arv:Af ["self","start","left","right"] ["self","start","left","right"] (AO aa7.1):=by kj_on
def arw:Af ["self","totals","total"] ["self","totals"] (AO aa8.1):=by kj_on
def arc:Af ["counts","count"] ["counts"] (AO zq.1):=by kj_on
def as0:Af ["start","left","right","total","x","y"] ["start","left","right"] (AO aaC.1):=by kj_on
def arz:Af ["start","left","right","total","x","y","product","dropped","halves"] ["start","left","right"] (AO aaB.1):=by kj_on
def atQ:Af ["starts","left","right","sums","length","totals","row","start"] ["starts","left","right"] (AO abO.1):=by kj_on
def as5:Af ["starts","left","right","sums","width","totals","column","start"] ["starts","left","right"] (AO aaH.1):=by kj_on
def asN:Af ["self","given","made","own_count"] ["self","given","made","own_count"] (AO aaZ.1):=by kj_on
def asO:Af ["self","numbers","g"] ["self","numbers","g"] (AO aa_.1):=by kj_on
def aqq:Af ["self","given","planes"] ["self","given","planes"] (AO aaM.1):=by kj_on
def aqr:Af ["self","own","numbers","weight_count"] ["self","own","numbers"] (AO aaN.1):=by kj_on
def aqs:Af ["self","numbers","g","weights","made","number"] ["self","numbers","g"] (AO aaO.1):=by kj_on
def aqp:Af ["self","own","numbers","g","weight_count"] ["self","own","numbers","g"] (AO zL.1):=by kj_on
def arp:Af ["self","given"] ["self","given"] (AO aa2.1):=by kj_on
def arq:Af ["self","own","numbers","number"] ["self","own","numbers"] (AO aa3.1):=by kj_on
def aro:Af ["self","own","numbers","g","made","number"] ["self","own","numbers","g"] (AO aa1.1):=by kj_on
def asX:Af ["self","given"] ["self","given"] (AO aai.1):=by kj_on
def asY:Af ["self","own","numbers","place"] ["self","own","numbers"] (AO aaj.1):=by kj_on
def asW:Af ["self","own","numbers","g","back","made","place"] ["self","own","numbers","g"] (AO aah.1):=by kj_on
def asZ:Af ["self","numbers","columns","places","top","place","four"] ["self","numbers"] (AO zu.1):=by kj_on
def asA:Af ["numbers","places","best","place"] ["numbers","places"] (AO zi.1):=by kj_on
def ar8:Af ["self","given","planes","window","made"] ["self","given","planes","window"] (AO yq.1):=by kj_on
def aqk:Af ["self","own","numbers","weight_count","sums"] ["self","own","numbers"] (AO yt.1):=by kj_on
def aqm:Af ["self","sums","weights","made","known","y","x","box","numbers","edges","plane","start","part"] ["self","sums"] (AO yw.1):=by kj_on
def aqj:Af ["self","y","x","rows","columns","top","left","bottom","right"] ["self","y","x","rows","columns"] (AO yr.1):=by kj_on
def aql:Af ["self","numbers","g","ones"] ["self","numbers","g"] (AO yu.1):=by kj_on
def aqo:Af ["self","numbers","g","sums","plane","totals","i","j","box","given_box","made","given","pair","left","part"] ["self","numbers","g"] (AO yz.1):=by kj_on
def ar7:Af ["self","own","numbers","g","back","starts"] ["self","own","numbers","g"] (AO yp.1):=by kj_on
def aqn:Af ["self","own","weight_count","windows","plane"] ["self","own"] (AO yx.1):=by kj_on
def asS:Af ["self","given","layers","layer"] ["self","given","layers"] (AO aad.1):=by kj_on
def asQ:Af ["self"] ["self"] (AO aab.1):=by kj_on
def asR:Af ["self","layer","count"] ["self","layer","count"] (AO aac.1):=by kj_on
def asU:Af ["self","totals","layer"] ["self"] (AO aaf.1):=by kj_on
def asT:Af ["self","layer","numbers"] ["self","layer","numbers"] (AO aae.1):=by kj_on
def asV:Af ["self","numbers","stages","layer","own"] ["self","numbers"] (AO aag.1):=by kj_on
def ate:Af ["layer"] ["layer"] (AO abZ.1):=by kj_on
def atM:Af ["text","lines","given"] ["text"] (AO abL.1):=by kj_on
def atR:Af ["text","lines"] ["text"] (AO abP.1):=by kj_on
def atW:Af ["text","signs","byte","sign"] ["text"] (AO abS.1):=by kj_on
def asD:Af ["line","words","given"] ["line"] (AO abI.1):=by kj_on
def atJ:Af ["lines","given","layers","shape","room","line","layer"] ["lines","given"] (AO abK.1):=by kj_on
def atI:Af ["words","shape"] ["words","shape"] (AO abJ.1):=by kj_on
def as6:Af ["planes","window","shape"] ["planes","window","shape"] (AO aaI.1):=by kj_on
def ark:Af ["shape"] ["shape"] (AO abH.1):=by kj_on
def atO:Af ["word"] ["word"] (AO abM.1):=by kj_on
def as4:Af ["shape"] ["shape"] (AO aaG.1):=by kj_on
def asP:Af ["self","net","numbers","wanted","stages","d","out","aim","each"] ["self","net","numbers","wanted"] (AO aaa.1):=by kj_on
def atU:Af ["net","stages","out_g","g","own_g","number","layer"] ["net","stages","out_g"] (AO abQ.1):=by kj_on
def ata:Af ["net","lesson","rates","rate","mu","new_v","new_own","number","own_g","v_then","v","g","w"] ["net","lesson","rates"] (AO abV.1):=by kj_on
def as8:Af ["net","lesson","rates","rate","eps","new_m","new_s","new_own","number","own_g","m_then","s_then","g","w","m","s"] ["net","lesson","rates"] (AO aaK.1):=by kj_on
def arb:Af ["b","before","added","rest","old","new"] ["b","before","added"] (AO zp.1):=by kj_on
def as9:Af ["w","m","s","rate","eps"] ["w","m","s","rate","eps"] (AO zh.1):=by kj_on
def as2:Af ["calls","reader","held","told","answer"] ["calls"] (AO aaE.1):=by kj_on
def as1:Af ["held","reader","call","layer","out_count","rates","numbers"] ["held","reader"] (AO aaD.1):=by kj_on
def asa:Af ["self","calls"] ["self","calls"] (AO zx.1):=by kj_on
def as_:Af ["self"] ["self"] (AO zw.1):=by kj_on
def asb:Af ["self","number"] ["self"] (AO zy.1):=by kj_on
def arl:Af ["self","count","start"] ["self","count"] (AO aAn.1):=by kj_on
def arn:Af ["self"] ["self"] (AO aa0.1):=by kj_on
def asG:Af ["self"] ["self"] (AO aaS.1):=by kj_on
def ar9:Af ["self","text"] ["self","text"] (AO aaP.1):=by kj_on
def asL:Af ["self"] ["self"] (AO aaX.1):=by kj_on
def asK:Af ["self","layer","numbers"] ["self","layer","numbers"] (AO aaW.1):=by kj_on
def asF:Af ["self","layer","count"] ["self","layer","count"] (AO aaR.1):=by kj_on
def asJ:Af ["self","out_count","numbers","refusal"] ["self","out_count","numbers"] (AO aaV.1):=by kj_on
def asM:Af ["self","rates","numbers","wanted"] ["self","rates","numbers","wanted"] (AO aaY.1):=by kj_on
def asE:Af ["self","rates","numbers","wanted"] ["self","rates","numbers","wanted"] (AO aaQ.1):=by kj_on
def asH:Af ["self","step","rates","numbers","wanted","refusal","lesson"] ["self","step","rates","numbers","wanted"] (AO aaT.1):=by kj_on
def asI:Af ["self","given_count","out_count","singles"] ["self","given_count","out_count","singles"] (AO aaU.1):=by kj_on
def as3:Af ["singles","single"] ["singles"] (AO aaF.1):=by kj_on
def JU(x0 x1 x2:V):List (Str×V):=[("planes",x0),("rows",x1),("columns",x2)]
def ajm(x0 x1 x2:V):(JU x0 x1 x2).lookup ("planes":Str)=some x0:=by kernel_rfl
def ajn(x0 x1 x2:V):(JU x0 x1 x2).lookup ("rows":Str)=some x1:=by kernel_rfl
def ajl(x0 x1 x2:V):(JU x0 x1 x2).lookup ("columns":Str)=some x2:=by kernel_rfl
def KN(x0 x1 x2 x3:V):List (Str×V):=[("top",x0),("bottom",x1),("left",x2),("right",x3)]
def aiH(x0 x1 x2 x3:V):(KN x0 x1 x2 x3).lookup ("top":Str)=some x0:=by kernel_rfl
def aiE(x0 x1 x2 x3:V):(KN x0 x1 x2 x3).lookup ("bottom":Str)=some x1:=by kernel_rfl
def aiF(x0 x1 x2 x3:V):(KN x0 x1 x2 x3).lookup ("left":Str)=some x2:=by kernel_rfl
def aiG(x0 x1 x2 x3:V):(KN x0 x1 x2 x3).lookup ("right":Str)=some x3:=by kernel_rfl
def E2(x0 x1 x2 x3:V):List (Str×V):=[("starts",x0),("left",x1),("right",x2),("are_fine",x3)]
def ajr(x0 x1 x2 x3:V):(E2 x0 x1 x2 x3).lookup ("starts":Str)=some x0:=by kernel_rfl
def ajp(x0 x1 x2 x3:V):(E2 x0 x1 x2 x3).lookup ("left":Str)=some x1:=by kernel_rfl
def ajq(x0 x1 x2 x3:V):(E2 x0 x1 x2 x3).lookup ("right":Str)=some x2:=by kernel_rfl
def ajo(x0 x1 x2 x3:V):(E2 x0 x1 x2 x3).lookup ("are_fine":Str)=some x3:=by kernel_rfl
def E_(x0 x1 x2:V):List (Str×V):=[("given",x0),("made",x1),("own_count",x2)]
def V2(x0 x1 x2:V):(E_ x0 x1 x2).lookup ("given":Str)=some x0:=by kernel_rfl
def V3(x0 x1 x2:V):(E_ x0 x1 x2).lookup ("made":Str)=some x1:=by kernel_rfl
def V4(x0 x1 x2:V):(E_ x0 x1 x2).lookup ("own_count":Str)=some x2:=by kernel_rfl
def G9(x0 x1 x2 x3 x4 x5:V):List (Str×V):=[("window",x0),("half",x1),("weights",x2),("given",x3),("made",x4),("own_count",x5)]
def aiK(x0 x1 x2 x3 x4 x5:V):(G9 x0 x1 x2 x3 x4 x5).lookup ("window":Str)=some x0:=by kernel_rfl
def aiI(x0 x1 x2 x3 x4 x5:V):(G9 x0 x1 x2 x3 x4 x5).lookup ("half":Str)=some x1:=by kernel_rfl
def aiJ(x0 x1 x2 x3 x4 x5:V):(G9 x0 x1 x2 x3 x4 x5).lookup ("weights":Str)=some x2:=by kernel_rfl
def rL(x0 x1 x2 x3 x4 x5:V):(G9 x0 x1 x2 x3 x4 x5).lookup ("given":Str)=some x3:=by kernel_rfl
def rM(x0 x1 x2 x3 x4 x5:V):(G9 x0 x1 x2 x3 x4 x5).lookup ("made":Str)=some x4:=by kernel_rfl
def rN(x0 x1 x2 x3 x4 x5:V):(G9 x0 x1 x2 x3 x4 x5).lookup ("own_count":Str)=some x5:=by kernel_rfl
def Cw(x0 x1 x2 x3 x4 x5:V):List (Str×V):=[("given",x0),("layers",x1),("own",x2),("v",x3),("m",x4),("s",x5)]
def aiN(x0 x1 x2 x3 x4 x5:V):(Cw x0 x1 x2 x3 x4 x5).lookup ("given":Str)=some x0:=by kernel_rfl
def aij(x0 x1 x2 x3 x4 x5:V):(Cw x0 x1 x2 x3 x4 x5).lookup ("layers":Str)=some x1:=by kernel_rfl
def V5(x0 x1 x2 x3 x4 x5:V):(Cw x0 x1 x2 x3 x4 x5).lookup ("own":Str)=some x2:=by kernel_rfl
def rP(x0 x1 x2 x3 x4 x5:V):(Cw x0 x1 x2 x3 x4 x5).lookup ("v":Str)=some x3:=by kernel_rfl
def aji(x0 x1 x2 x3 x4 x5:V):(Cw x0 x1 x2 x3 x4 x5).lookup ("m":Str)=some x4:=by kernel_rfl
def ajj(x0 x1 x2 x3 x4 x5:V):(Cw x0 x1 x2 x3 x4 x5).lookup ("s":Str)=some x5:=by kernel_rfl
def Q3(x0 x1:V):List (Str×V):=[("error",x0),("own_g",x1)]
def aiL(x0 x1:V):(Q3 x0 x1).lookup ("error":Str)=some x0:=by kernel_rfl
def aiM(x0 x1:V):(Q3 x0 x1).lookup ("own_g":Str)=some x1:=by kernel_rfl
def EU(x0 x1:V):List (Str×V):=[("calls",x0),("place",x1)]
def ajk(x0 x1:V):(EU x0 x1).lookup ("calls":Str)=some x0:=by kernel_rfl
def bK(x0 x1:V):(EU x0 x1).lookup ("place":Str)=some x1:=by kernel_rfl
def DV(x0:V):List (Str×V):=[("net",x0)]
def rO(x0:V):(DV x0).lookup ("net":Str)=some x0:=by kernel_rfl
end Sg
namespace Sg
open PySem PySem.Spec PyProof.Rows L2
def CS(b:V->Hp->VK->XK->Prop):Sp:=λvs H Q E=>FY vs λx=>b x H Q E
def Dq(b:V->V->Hp->VK->XK->Prop):Sp:=λvs H Q E=>OW vs λx r=>CS (b x) r H Q E
def D9(b:V->V->V->Hp->VK->XK->Prop):Sp:=λvs H Q E=>OW vs λx r=>Dq (b x) r H Q E
def Hi(b:V->V->V->V->Hp->VK->XK->Prop):Sp:=λvs H Q E=>OW vs λx r=>D9 (b x) r H Q E
def Qi(b:V->V->V->V->V->Hp->VK->XK->Prop):Sp:=λvs H Q E=>OW vs λx r=>Hi (b x) r H Q E
def ku(h:CS b vs H Q E):∃v1,vs=[v1]/\b v1 H Q E:=TR h
def kx(h:Dq b vs H Q E):∃v1 v2,vs=[v1,v2]/\b v1 v2 H Q E:=by
 obtain⟨_,r,rfl,h⟩:=QX h;obtain⟨_,rfl,h⟩:=ku h;exact⟨_,_,rfl,h⟩
def kz(h:D9 b vs H Q E):∃v1 v2 v3,vs=[v1,v2,v3]/\b v1 v2 v3 H Q E:=by
 obtain⟨_,r,rfl,h⟩:=QX h;obtain⟨_,_,rfl,h⟩:=kx h;exact⟨_,_,_,rfl,h⟩
def l4(h:Hi b vs H Q E):∃v1 v2 v3 v4,vs=[v1,v2,v3,v4]/\b v1 v2 v3 v4 H Q E:=by
 obtain⟨_,r,rfl,h⟩:=QX h;obtain⟨_,_,_,rfl,h⟩:=kz h;exact⟨_,_,_,_,rfl,h⟩
def aau(h:Qi b vs H Q E):∃v1 v2 v3 v4 v5,vs=[v1,v2,v3,v4,v5]/\b v1 v2 v3 v4 v5 H Q E:=by
 obtain⟨_,r,rfl,h⟩:=QX h;obtain⟨_,_,_,_,rfl,h⟩:=l4 h;exact⟨_,_,_,_,_,rfl,h⟩
section
variable{H:Hp}{Q:VK}{E:XK}
def zY(b:V->Hp->VK->XK->Prop)(x:V):CS b [x] H Q E=b x H Q E:=rfl
def Qa(b:V->V->Hp->VK->XK->Prop)(x y:V):Dq b [x,y] H Q E=b x y H Q E:=rfl
def XO(b:V->V->V->Hp->VK->XK->Prop)(x y z:V):D9 b [x,y,z] H Q E=b x y z H Q E:=rfl
def lL(b:V->V->V->V->Hp->VK->XK->Prop)(x y z u:V):Hi b [x,y,z,u] H Q E=b x y z u H Q E:=rfl
def zZ(b:V->V->V->V->V->Hp->VK->XK->Prop)(x y z u t:V):Qi b [x,y,z,u,t] H Q E=b x y z u t H Q E:=rfl
end
def II:List Str->List V->L2.St
 |[],_=>[]
 |_::N,[]=>none::II N []
 |_::N,v::vs=>some v::II N vs
def st0(vs:List V):II [] vs=[]:=rfl
def acE(x:Str)(N:List Str):II (x::N) []=none::II N []:=rfl
def Li(x:Str)(N:List Str)(v:V)(vs:List V):II (x::N) (v::vs)=some v::II N vs:=rfl
def mH:∀(N:List Str)(vs:List V),vs.length<=N.length->start N vs=II N vs
 |[],[],_=>rfl
 |[],_::_,h=>absurd h (by simp)
 |_::N,[],_=>by
  have:=mH N [] (Er _);rw[acE,<-this];unfold L2.start;rfl
 |x::N,v::vs,h=>by
  have:=mH N vs (by simpa using h);rw[Li,<-this];unfold L2.start;simp
section
variable{P:Bs}{w:Bg}{K:Ae}{mg:Str->Option A5}{base:B5}{x qual:Str}{st:D8}{f:A0}{N:List Str}{k:Nat}
def Fn.Wl(F:Fn K x qual st f)(S:Af N ps (AO st))(hN:ps.length<=N.length)
 (hb:∀(kV doc pm:A5)(an:Option A0)(AF ct:A5)(us:List A5),us.length=ps.length->M3 (Hu x qual (JT st) (FT st) (AO st) .none kV doc pm an AF ct) ⟨us,[]⟩=pure (ps.zip us))
 (len:∀vs H Q E,sp vs H Q E->vs.length=ps.length)
 (Hb:∀(AF:A5)(A:CB)(outer:List Env)(s:AA)(H:Hp)(vs:List V)(Q:VK)(E:XK),By k (A.deeper (HP qual (AO st) s.heap.objs.size f AF))->sp vs H Q E->
  ∃t,KE (Ey (D2 P w) P w K mg base N qual (AO st) f AF A outer s H E) (FT st) t/\t {nx:=λ_ H'=>Q .Ah H',rt:=Q} (II N vs) H):A_ P w K mg base (k+1) f ps sp:=
 F.ok S hb len λAF A outer s H vs Q E hr h=>by
  rw[mH N vs (by rw[len vs H Q E h];exact hN)];exact Hb AF A outer s H vs Q E hr h
def bq:∀{us:List α},us.length=1->∃a,us=[a]
 |[a],_=>⟨a,rfl⟩
def wL:∀{us:List α},us.length=2->∃a b,us=[a,b]
 |a::us,h=>by
  obtain⟨b,rfl⟩:=bq (ZS h);exact⟨a,b,rfl⟩
def wM:∀{us:List α},us.length=3->∃a b c,us=[a,b,c]
 |a::us,h=>by
  obtain⟨b,c,rfl⟩:=wL (ZS h);exact⟨a,b,c,rfl⟩
def wN:∀{us:List α},us.length=4->∃a b c d,us=[a,b,c,d]
 |a::us,h=>by
  obtain⟨b,c,d,rfl⟩:=wM (ZS h);exact⟨a,b,c,d,rfl⟩
def alv:∀{us:List α},us.length=5->∃a b c d e,us=[a,b,c,d,e]
 |a::us,h=>by
  obtain⟨b,c,d,e,rfl⟩:=wN (ZS h);exact⟨a,b,c,d,e,rfl⟩
def Fn.Cy(F:Fn K x qual st f)(S:Af N [q0] (AO st))
 (Hb:∀(AF:A5)(A:CB)(outer:List Env)(s:AA)(H:Hp)(p0:V)(Q:VK)(E:XK),By k (A.deeper (HP qual (AO st) s.heap.objs.size f AF))->b p0 H Q E->N.Nodup->
  ∃t,KE (Ey (D2 P w) P w K mg base N qual (AO st) f AF A outer s H E) (FT st) t/\t {nx:=λ_ H'=>Q .Ah H',rt:=Q} (II N [p0]) H)
 (hN:autoParam (1<=N.length) auD)
 (hb:∀(kV doc pm:A5)(an:Option A0)(AF ct u0:A5),M3 (Hu x qual (JT st) (FT st) (AO st) .none kV doc pm an AF ct) ⟨[u0],[]⟩=pure ([q0].zip [u0]):=by intros;rfl):A_ P w K mg base (k+1) f [q0] (CS b):=
 F.Wl S hN (λkV doc pm an AF ct us hl=>by obtain⟨u0,rfl⟩:=bq hl;exact hb kV doc pm an AF ct u0) (λvs H Q E h=>by obtain⟨_,rfl,_⟩:=ku h;rfl) λAF A outer s H vs Q E hr h=>by
  obtain⟨p0,rfl,h⟩:=ku h;exact Hb AF A outer s H p0 Q E hr h S.nd
def Fn.En(F:Fn K x qual st f)(S:Af N [q0,q1] (AO st))
 (Hb:∀(AF:A5)(A:CB)(outer:List Env)(s:AA)(H:Hp)(p0 p1:V)(Q:VK)(E:XK),By k (A.deeper (HP qual (AO st) s.heap.objs.size f AF))->b p0 p1 H Q E->N.Nodup->
  ∃t,KE (Ey (D2 P w) P w K mg base N qual (AO st) f AF A outer s H E) (FT st) t/\t {nx:=λ_ H'=>Q .Ah H',rt:=Q} (II N [p0,p1]) H)
 (hN:autoParam (2<=N.length) auD)
 (hb:∀(kV doc pm:A5)(an:Option A0)(AF ct u0 u1:A5),M3 (Hu x qual (JT st) (FT st) (AO st) .none kV doc pm an AF ct) ⟨[u0,u1],[]⟩=pure ([q0,q1].zip [u0,u1]):=by intros;rfl):A_ P w K mg base (k+1) f [q0,q1] (Dq b):=
 F.Wl S hN (λkV doc pm an AF ct us hl=>by obtain⟨u0,u1,rfl⟩:=wL hl;exact hb kV doc pm an AF ct u0 u1) (λvs H Q E h=>by obtain⟨_,_,rfl,_⟩:=kx h;rfl) λAF A outer s H vs Q E hr h=>by
  obtain⟨p0,p1,rfl,h⟩:=kx h;exact Hb AF A outer s H p0 p1 Q E hr h S.nd
def Fn.Dc(F:Fn K x qual st f)(S:Af N [q0,q1,q2] (AO st))
 (Hb:∀(AF:A5)(A:CB)(outer:List Env)(s:AA)(H:Hp)(p0 p1 p2:V)(Q:VK)(E:XK),By k (A.deeper (HP qual (AO st) s.heap.objs.size f AF))->b p0 p1 p2 H Q E->N.Nodup->
  ∃t,KE (Ey (D2 P w) P w K mg base N qual (AO st) f AF A outer s H E) (FT st) t/\t {nx:=λ_ H'=>Q .Ah H',rt:=Q} (II N [p0,p1,p2]) H)
 (hN:autoParam (3<=N.length) auD)
 (hb:∀(kV doc pm:A5)(an:Option A0)(AF ct u0 u1 u2:A5),M3 (Hu x qual (JT st) (FT st) (AO st) .none kV doc pm an AF ct) ⟨[u0,u1,u2],[]⟩=pure ([q0,q1,q2].zip [u0,u1,u2]):=by intros;rfl):A_ P w K mg base (k+1) f [q0,q1,q2] (D9 b):=
 F.Wl S hN (λkV doc pm an AF ct us hl=>by obtain⟨u0,u1,u2,rfl⟩:=wM hl;exact hb kV doc pm an AF ct u0 u1 u2) (λvs H Q E h=>by obtain⟨_,_,_,rfl,_⟩:=kz h;rfl) λAF A outer s H vs Q E hr h=>by
  obtain⟨p0,p1,p2,rfl,h⟩:=kz h;exact Hb AF A outer s H p0 p1 p2 Q E hr h S.nd
def Fn.J7(F:Fn K x qual st f)(S:Af N [q0,q1,q2,q3] (AO st))
 (Hb:∀(AF:A5)(A:CB)(outer:List Env)(s:AA)(H:Hp)(p0 p1 p2 p3:V)(Q:VK)(E:XK),By k (A.deeper (HP qual (AO st) s.heap.objs.size f AF))->b p0 p1 p2 p3 H Q E->N.Nodup->
  ∃t,KE (Ey (D2 P w) P w K mg base N qual (AO st) f AF A outer s H E) (FT st) t/\t {nx:=λ_ H'=>Q .Ah H',rt:=Q} (II N [p0,p1,p2,p3]) H)
 (hN:autoParam (4<=N.length) auD)
 (hb:∀(kV doc pm:A5)(an:Option A0)(AF ct u0 u1 u2 u3:A5),M3 (Hu x qual (JT st) (FT st) (AO st) .none kV doc pm an AF ct) ⟨[u0,u1,u2,u3],[]⟩=pure ([q0,q1,q2,q3].zip [u0,u1,u2,u3]):=by intros;rfl):A_ P w K mg base (k+1) f [q0,q1,q2,q3] (Hi b):=
 F.Wl S hN (λkV doc pm an AF ct us hl=>by obtain⟨u0,u1,u2,u3,rfl⟩:=wN hl;exact hb kV doc pm an AF ct u0 u1 u2 u3) (λvs H Q E h=>by obtain⟨_,_,_,_,rfl,_⟩:=l4 h;rfl) λAF A outer s H vs Q E hr h=>by
  obtain⟨p0,p1,p2,p3,rfl,h⟩:=l4 h;exact Hb AF A outer s H p0 p1 p2 p3 Q E hr h S.nd
def Fn.Xs(F:Fn K x qual st f)(S:Af N [q0,q1,q2,q3,q4] (AO st))
 (Hb:∀(AF:A5)(A:CB)(outer:List Env)(s:AA)(H:Hp)(p0 p1 p2 p3 p4:V)(Q:VK)(E:XK),By k (A.deeper (HP qual (AO st) s.heap.objs.size f AF))->b p0 p1 p2 p3 p4 H Q E->N.Nodup->
  ∃t,KE (Ey (D2 P w) P w K mg base N qual (AO st) f AF A outer s H E) (FT st) t/\t {nx:=λ_ H'=>Q .Ah H',rt:=Q} (II N [p0,p1,p2,p3,p4]) H)
 (hN:autoParam (5<=N.length) auD)
 (hb:∀(kV doc pm:A5)(an:Option A0)(AF ct u0 u1 u2 u3 u4:A5),M3 (Hu x qual (JT st) (FT st) (AO st) .none kV doc pm an AF ct) ⟨[u0,u1,u2,u3,u4],[]⟩=pure ([q0,q1,q2,q3,q4].zip [u0,u1,u2,u3,u4]):=by intros;rfl):A_ P w K mg base (k+1) f [q0,q1,q2,q3,q4] (Qi b):=
 F.Wl S hN (λkV doc pm an AF ct us hl=>by obtain⟨u0,u1,u2,u3,u4,rfl⟩:=alv hl;exact hb kV doc pm an AF ct u0 u1 u2 u3 u4) (λvs H Q E h=>by obtain⟨_,_,_,_,_,rfl,_⟩:=aau h;rfl) λAF A outer s H vs Q E hr h=>by
  w_up;obtain⟨p0,p1,p2,p3,p4,rfl,h⟩:=aau h;fin2;exact Hb AF A outer s H p0 p1 p2 p3 p4 Q E hr h S.nd
end
def _root_.L2.A2.new(s:A2 H0 H)(h:H p=none):A2 H0 (upd H p o):=λb u e=>by
 have:=s b u e;rw[AY (Dm this h)];exact this
def _root_.L2.A2.own(s:A2 H0 H)(h:H0 p=none):A2 H0 (upd H p o):=λb u e=>by
 rw[AY (Dm e h)];exact s b u e
def _root_.L2.A2.one(h:H p=none):A2 H (upd H p o):=(A2.refl H).new h
def Ac(p:A0)(H H':Hp):Prop:=∀b o,H b=some o->b≠p->H' b=some o
def Ac.refl(p:A0)(H:Hp):Ac p H H:=λ_ _ e _=>e
def Ac.upd(k:Ac p H0 H):Ac p H0 (upd H p o):=λb u e n=>by rw[AY n];exact k b u e n
def Ac.same(k:Ac p H0 H)(s:A2 H H1):Ac p H0 H1:=λb u e n=>s b u (k b u e n)
def Ac.made(nx:H x=none)(nd:H dx=none)(k:Ac x (L2.upd (L2.upd H dx (.own x)) x (.ins C dx [])) H1):A2 H H1:=A2.made nx nd k
def AL(H:Hp)(v:V)(l:List V):Prop:=∃p,v=.ref p/\H p=some (.lst l)
def AL.mono(h:AL H v l)(s:A2 H H'):AL H' v l:=let⟨p,e,q⟩:=h;⟨p,e,s _ _ q⟩
abbrev Nv(xs:List Nat):List V:=xs.map λ(x:Nat)=>V.int (x:Int)
abbrev Iv(xs:List Int):List V:=xs.map V.int
def AX(H:Hp):List V->List (List V)->Prop
 |[],[]=>True
 |v::vs,l::ls=>AL H v l/\AX H vs ls
 |_,_=>False
def AX.mono(s:A2 H H'):∀{vs:List V}{ls:List (List V)},AX H vs ls->AX H' vs ls
 |[],[],_=>trivial
 |_::_,_::_,h=>⟨h.1.mono s,AX.mono s h.2⟩
def AX.length:∀{vs:List V}{ls:List (List V)},AX H vs ls->vs.length=ls.length
 |[],[],_=>rfl
 |_::_,_::_,h=>by rw[B4,B4,AX.length h.2]
def AX.get':∀(vs:List V)(ls:List (List V))(i:Nat)(l:List V),AX H vs ls->ls[i]? =some l->∃v,vs[i]? =some v/\AL H v l
 |_,[],_,_,_,e=>by simp at e
 |[],_::_,_,_,h,_=>h.elim
 |v::_,_::_,0,l,h,e=>by cases e;exact⟨v,rfl,h.1⟩
 |_::vs,_::ls,i+1,l,h,e=>AX.get' vs ls i l h.2 e
def AX.snoc:∀{vs:List V}{ls:List (List V)},AX H vs ls->AL H v l->AX H (vs++[v]) (ls++[l])
 |[],[],_,q=>⟨q,trivial⟩
 |_::_,_::_,h,q=>⟨h.1,AX.snoc h.2 q⟩
def awu(H:Hp)(v:V)(ls:List (List V)):Prop:=∃vs,AL H v vs/\AX H vs ls
abbrev Cu:=Nat×Nat×Nat
def BB(a:Ad)(H:Hp)(v:V)(s:Cu):Prop:=∃p dx,v=.ref p/\H p=some (.ins a.Shape dx (JU (.int s.1) (.int s.2.1) (.int s.2.2)))
def BB.mono(h:BB a H v s)(m:A2 H H'):BB a H' v s:=let⟨p,dx,e,q⟩:=h;⟨p,dx,e,m _ _ q⟩
def Ud(a:Ad)(H:Hp)(v:V)(t b l r:Int):Prop:=∃p dx,v=.ref p/\H p=some (.ins a.Gg dx (KN (.int t) (.int b) (.int l) (.int r)))
def Small(s:Cu):Prop:=s.1<2^32/\s.2.1<2^32/\s.2.2<2^32
section
variable{K:Ae}{H:Hp}{Q:VK}{σ:L2.St}{D:Ends}
def aq3(ta:TE)(f:Str):mP K ta f σ H Q=ta σ H λx H1=>∃a C dx fs v,x=.ref a/\H1 a=some (.ins C dx fs)/\B8 K C/\Ap K C f/\fs.lookup f=some v/\Q v H1:=rfl
def Bq(h:H p=some (.ins C dx fs))(c:B8 K C)(n:Ap K C f)(l:fs.lookup f=some v)(R:V->Prop):
 (∃a C dx fs v,V.ref p=.ref a/\H a=some (.ins C dx fs)/\B8 K C/\Ap K C f/\fs.lookup f=some v/\R v)=R v:=propext ⟨λ⟨a,C',KH,Gj,v',e1,e2,_,_,e5,q⟩=>by
  cases e1;rw[h]at e2;cases e2;rw[l]at e5;cases e5;exact q,λq=>⟨p,C,dx,fs,v,rfl,h,c,n,l,q⟩⟩
def ahF:(Ey CX P w K mg base N qual sc f cd A outer s H E).K=K:=rfl
def aps(C:A0)(m:Str)(sp:Sp)(E:XK)(ta:TE)(t:TA):X2 C m sp [] E ta t σ H Q=ta σ H λx H1=>∃a dx fs,x=.ref a/\H1 a=some (.ins C dx fs)/\fs.lookup m=none/\t σ H1 λvs H2=>sp (x::(vs++[])) H2 Q E:=rfl
def apq(C:A0)(sp:Sp)(E:XK)(t:TA):X1 C sp [] E t σ H Q=t σ H λvs H1=>∀x dx,H1 x=none->H1 dx=none->dx≠x->sp (.ref x::(vs++[])) (upd (upd H1 dx (.own x)) x (.ins C dx [])) (λv H2=>v=.Ah/\Q (.ref x) H2) E:=rfl
def arS(ta tv:TE)(f:Str):m5 K ta tv f D σ H=(tv σ H λy H1=>ta σ H1 λx H2=>∃a C dx fs,x=.ref a/\H2 a=some (.ins C dx fs)/\B8 K C/\Ap K C f/\fs.length<1000/\D.nx σ (upd H2 a (.ins C dx (AS f y fs)))):=rfl
end
section
variable{K:Ae}{mg:Str->Option A5}{a:Ad}{H:Hp}
def DX(T:Txt K mg a)(h:H p=some (.ins a.Shape dx (JU x0 x1 x2)))(R:V->Prop):
 (∃a C dx fs v,V.ref p=.ref a/\H a=some (.ins C dx fs)/\B8 K C/\Ap K C "planes"/\fs.lookup ("planes":Str)=some v/\R v)=R x0:=Bq h T.FQ T.xY (ajm ..) R
def DY(T:Txt K mg a)(h:H p=some (.ins a.Shape dx (JU x0 x1 x2)))(R:V->Prop):
 (∃a C dx fs v,V.ref p=.ref a/\H a=some (.ins C dx fs)/\B8 K C/\Ap K C "rows"/\fs.lookup ("rows":Str)=some v/\R v)=R x1:=Bq h T.FQ T.xZ (ajn ..) R
def DW(T:Txt K mg a)(h:H p=some (.ins a.Shape dx (JU x0 x1 x2)))(R:V->Prop):
 (∃a C dx fs v,V.ref p=.ref a/\H a=some (.ins C dx fs)/\B8 K C/\Ap K C "columns"/\fs.lookup ("columns":Str)=some v/\R v)=R x2:=Bq h T.FQ T.xX (ajl ..) R
def bO(T:Txt K mg a)(h:H p=some (.ins a.Gg dx (KN x0 x1 x2 x3)))(R:V->Prop):
 (∃a C dx fs v,V.ref p=.ref a/\H a=some (.ins C dx fs)/\B8 K C/\Ap K C "top"/\fs.lookup ("top":Str)=some v/\R v)=R x0:=Bq h T.LD T.vO (aiH ..) R
def bL(T:Txt K mg a)(h:H p=some (.ins a.Gg dx (KN x0 x1 x2 x3)))(R:V->Prop):
 (∃a C dx fs v,V.ref p=.ref a/\H a=some (.ins C dx fs)/\B8 K C/\Ap K C "bottom"/\fs.lookup ("bottom":Str)=some v/\R v)=R x1:=Bq h T.LD T.vL (aiE ..) R
def bM(T:Txt K mg a)(h:H p=some (.ins a.Gg dx (KN x0 x1 x2 x3)))(R:V->Prop):
 (∃a C dx fs v,V.ref p=.ref a/\H a=some (.ins C dx fs)/\B8 K C/\Ap K C "left"/\fs.lookup ("left":Str)=some v/\R v)=R x2:=Bq h T.LD T.vM (aiF ..) R
def bN(T:Txt K mg a)(h:H p=some (.ins a.Gg dx (KN x0 x1 x2 x3)))(R:V->Prop):
 (∃a C dx fs v,V.ref p=.ref a/\H a=some (.ins C dx fs)/\B8 K C/\Ap K C "right"/\fs.lookup ("right":Str)=some v/\R v)=R x3:=Bq h T.LD T.vN (aiG ..) R
def KQ(T:Txt K mg a)(h:H p=some (.ins a.CF dx (E2 x0 x1 x2 x3)))(R:V->Prop):
 (∃a C dx fs v,V.ref p=.ref a/\H a=some (.ins C dx fs)/\B8 K C/\Ap K C "starts"/\fs.lookup ("starts":Str)=some v/\R v)=R x0:=Bq h T.E1 T.bT (ajr ..) R
def MT(T:Txt K mg a)(h:H p=some (.ins a.CF dx (E2 x0 x1 x2 x3)))(R:V->Prop):
 (∃a C dx fs v,V.ref p=.ref a/\H a=some (.ins C dx fs)/\B8 K C/\Ap K C "left"/\fs.lookup ("left":Str)=some v/\R v)=R x1:=Bq h T.E1 T.bR (ajp ..) R
def KP(T:Txt K mg a)(h:H p=some (.ins a.CF dx (E2 x0 x1 x2 x3)))(R:V->Prop):
 (∃a C dx fs v,V.ref p=.ref a/\H a=some (.ins C dx fs)/\B8 K C/\Ap K C "right"/\fs.lookup ("right":Str)=some v/\R v)=R x2:=Bq h T.E1 T.bS (ajq ..) R
def JV(T:Txt K mg a)(h:H p=some (.ins a.CF dx (E2 x0 x1 x2 x3)))(R:V->Prop):
 (∃a C dx fs v,V.ref p=.ref a/\H a=some (.ins C dx fs)/\B8 K C/\Ap K C "are_fine"/\fs.lookup ("are_fine":Str)=some v/\R v)=R x3:=Bq h T.E1 T.kJ (ajo ..) R
def rV(T:Txt K mg a)(h:H p=some (.ins a.FN dx (E_ x0 x1 x2)))(R:V->Prop):
 (∃a C dx fs v,V.ref p=.ref a/\H a=some (.ins C dx fs)/\B8 K C/\Ap K C "given"/\fs.lookup ("given":Str)=some v/\R v)=R x0:=Bq h T.Pw T.w8 (V2 ..) R
def qj(T:Txt K mg a)(h:H p=some (.ins a.FN dx (E_ x0 x1 x2)))(R:V->Prop):
 (∃a C dx fs v,V.ref p=.ref a/\H a=some (.ins C dx fs)/\B8 K C/\Ap K C "made"/\fs.lookup ("made":Str)=some v/\R v)=R x1:=Bq h T.Pw T.xN (V3 ..) R
def qk(T:Txt K mg a)(h:H p=some (.ins a.FN dx (E_ x0 x1 x2)))(R:V->Prop):
 (∃a C dx fs v,V.ref p=.ref a/\H a=some (.ins C dx fs)/\B8 K C/\Ap K C "own_count"/\fs.lookup ("own_count":Str)=some v/\R v)=R x2:=Bq h T.Pw T.xO (V4 ..) R
def ak5(T:Txt K mg a)(h:H p=some (.ins a.Ed dx (E_ x0 x1 x2)))(R:V->Prop):
 (∃a C dx fs v,V.ref p=.ref a/\H a=some (.ins C dx fs)/\B8 K C/\Ap K C "given"/\fs.lookup ("given":Str)=some v/\R v)=R x0:=Bq h T.MO T.xT (V2 ..) R
def ak6(T:Txt K mg a)(h:H p=some (.ins a.Ed dx (E_ x0 x1 x2)))(R:V->Prop):
 (∃a C dx fs v,V.ref p=.ref a/\H a=some (.ins C dx fs)/\B8 K C/\Ap K C "made"/\fs.lookup ("made":Str)=some v/\R v)=R x1:=Bq h T.MO T.xU (V3 ..) R
def ak7(T:Txt K mg a)(h:H p=some (.ins a.Ed dx (E_ x0 x1 x2)))(R:V->Prop):
 (∃a C dx fs v,V.ref p=.ref a/\H a=some (.ins C dx fs)/\B8 K C/\Ap K C "own_count"/\fs.lookup ("own_count":Str)=some v/\R v)=R x2:=Bq h T.MO T.xV (V4 ..) R
def E6(T:Txt K mg a)(h:H p=some (.ins a.Conv dx (G9 x0 x1 x2 x3 x4 x5)))(R:V->Prop):
 (∃a C dx fs v,V.ref p=.ref a/\H a=some (.ins C dx fs)/\B8 K C/\Ap K C "window"/\fs.lookup ("window":Str)=some v/\R v)=R x0:=Bq h T.Ew T.vT (aiK ..) R
def Dw(T:Txt K mg a)(h:H p=some (.ins a.Conv dx (G9 x0 x1 x2 x3 x4 x5)))(R:V->Prop):
 (∃a C dx fs v,V.ref p=.ref a/\H a=some (.ins C dx fs)/\B8 K C/\Ap K C "half"/\fs.lookup ("half":Str)=some v/\R v)=R x1:=Bq h T.Ew T.vQ (aiI ..) R
def E4(T:Txt K mg a)(h:H p=some (.ins a.Conv dx (G9 x0 x1 x2 x3 x4 x5)))(R:V->Prop):
 (∃a C dx fs v,V.ref p=.ref a/\H a=some (.ins C dx fs)/\B8 K C/\Ap K C "weights"/\fs.lookup ("weights":Str)=some v/\R v)=R x2:=Bq h T.Ew T.ic (aiJ ..) R
def Dv(T:Txt K mg a)(h:H p=some (.ins a.Conv dx (G9 x0 x1 x2 x3 x4 x5)))(R:V->Prop):
 (∃a C dx fs v,V.ref p=.ref a/\H a=some (.ins C dx fs)/\B8 K C/\Ap K C "given"/\fs.lookup ("given":Str)=some v/\R v)=R x3:=Bq h T.Ew T.vP (rL ..) R
def Dx(T:Txt K mg a)(h:H p=some (.ins a.Conv dx (G9 x0 x1 x2 x3 x4 x5)))(R:V->Prop):
 (∃a C dx fs v,V.ref p=.ref a/\H a=some (.ins C dx fs)/\B8 K C/\Ap K C "made"/\fs.lookup ("made":Str)=some v/\R v)=R x4:=Bq h T.Ew T.vR (rM ..) R
def Dy(T:Txt K mg a)(h:H p=some (.ins a.Conv dx (G9 x0 x1 x2 x3 x4 x5)))(R:V->Prop):
 (∃a C dx fs v,V.ref p=.ref a/\H a=some (.ins C dx fs)/\B8 K C/\Ap K C "own_count"/\fs.lookup ("own_count":Str)=some v/\R v)=R x5:=Bq h T.Ew T.vS (rN ..) R
def Ea(T:Txt K mg a)(h:H p=some (.ins a.Net dx (Cw x0 x1 x2 x3 x4 x5)))(R:V->Prop):
 (∃a C dx fs v,V.ref p=.ref a/\H a=some (.ins C dx fs)/\B8 K C/\Ap K C "given"/\fs.lookup ("given":Str)=some v/\R v)=R x0:=Bq h T.D3 T.xR (aiN ..) R
def Ee(T:Txt K mg a)(h:H p=some (.ins a.Net dx (Cw x0 x1 x2 x3 x4 x5)))(R:V->Prop):
 (∃a C dx fs v,V.ref p=.ref a/\H a=some (.ins C dx fs)/\B8 K C/\Ap K C "layers"/\fs.lookup ("layers":Str)=some v/\R v)=R x1:=Bq h T.D3 T.xS (aij ..) R
def Eh(T:Txt K mg a)(h:H p=some (.ins a.Net dx (Cw x0 x1 x2 x3 x4 x5)))(R:V->Prop):
 (∃a C dx fs v,V.ref p=.ref a/\H a=some (.ins C dx fs)/\B8 K C/\Ap K C "own"/\fs.lookup ("own":Str)=some v/\R v)=R x2:=Bq h T.D3 T.OT (V5 ..) R
def Ej(T:Txt K mg a)(h:H p=some (.ins a.Net dx (Cw x0 x1 x2 x3 x4 x5)))(R:V->Prop):
 (∃a C dx fs v,V.ref p=.ref a/\H a=some (.ins C dx fs)/\B8 K C/\Ap K C "v"/\fs.lookup ("v":Str)=some v/\R v)=R x3:=Bq h T.D3 T.kI (rP ..) R
def Eg(T:Txt K mg a)(h:H p=some (.ins a.Net dx (Cw x0 x1 x2 x3 x4 x5)))(R:V->Prop):
 (∃a C dx fs v,V.ref p=.ref a/\H a=some (.ins C dx fs)/\B8 K C/\Ap K C "m"/\fs.lookup ("m":Str)=some v/\R v)=R x4:=Bq h T.D3 T.jB (aji ..) R
def Ei(T:Txt K mg a)(h:H p=some (.ins a.Net dx (Cw x0 x1 x2 x3 x4 x5)))(R:V->Prop):
 (∃a C dx fs v,V.ref p=.ref a/\H a=some (.ins C dx fs)/\B8 K C/\Ap K C "s"/\fs.lookup ("s":Str)=some v/\R v)=R x5:=Bq h T.D3 T.kH (ajj ..) R
def ql(T:Txt K mg a)(h:H p=some (.ins a.G4 dx (Q3 x0 x1)))(R:V->Prop):
 (∃a C dx fs v,V.ref p=.ref a/\H a=some (.ins C dx fs)/\B8 K C/\Ap K C "own_g"/\fs.lookup ("own_g":Str)=some v/\R v)=R x1:=Bq h T.Ze T.xQ (aiM ..) R
def aN(T:Txt K mg a)(h:H p=some (.ins a.Reader dx (EU x0 x1)))(R:V->Prop):
 (∃a C dx fs v,V.ref p=.ref a/\H a=some (.ins C dx fs)/\B8 K C/\Ap K C "calls"/\fs.lookup ("calls":Str)=some v/\R v)=R x0:=Bq h T.EG T.xW (ajk ..) R
def aO(T:Txt K mg a)(h:H p=some (.ins a.Reader dx (EU x0 x1)))(R:V->Prop):
 (∃a C dx fs v,V.ref p=.ref a/\H a=some (.ins C dx fs)/\B8 K C/\Ap K C "place"/\fs.lookup ("place":Str)=some v/\R v)=R x1:=Bq h T.EG T.bQ (bK ..) R
def Gk(T:Txt K mg a)(h:H p=some (.ins a.Cp dx (DV x0)))(R:V->Prop):
 (∃a C dx fs v,V.ref p=.ref a/\H a=some (.ins C dx fs)/\B8 K C/\Ap K C "net"/\fs.lookup ("net":Str)=some v/\R v)=R x0:=Bq h T.HW T.cI (rO ..) R
end
variable{K:Ae}
structure CJ{ι:Type}(J:It)(g:TG)(H0:Hp)(its:List ι)(bind:ι->L2.St->L2.St):Prop where
 go:∀i H,A2 H0 H->i<its.length->J.go i H
 stop:∀i H,A2 H0 H->its.length<=i->J.stop i H
 FA:∀i it H,A2 H0 H->its[i]? =some it->∀x H',J.FA i H x H'->∀σ R,(∀Bp,A2 H Bp->R (bind it σ) Bp)->g x σ H' R
def ForIn(J:It)(g:TG)(tb:TS)(D:Ends)(σ:L2.St)(H:Hp):Prop:=∃W:Nat->Nat->L2.St->Hp->Prop,(∃m,W 0 m σ H)/\∀i m σ H,W i m σ H->
 (J.stop i H/\D.nx σ H)\/(J.go i H/\∃N:L2.St->Hp->Prop,(∀B1 H',N B1 H'->∃m',m'<m/\W (i+1) m' B1 H')/\∀x H',J.FA i H x H'->g x σ H' λKg H2=>tb {D with nx:=N,ct:=N,bk:=D.nx} Kg H2)
def ON(J:It)(g:TG)(tt:TT)(te:TE)(vs:List Nat)(σ:L2.St)(H1:Hp)(Q:VK):Prop:=∀D,H1 D=none->∃W:Nat->Nat->Hp->Prop,(∃m,W 0 m (upd H1 D (.lst [])))/\∀i m H,W i m H->
 (J.stop i H/\Q (.ref D) H)\/(J.go i H/\∃Nx:Hp->Prop,(∀H',Nx H'->∃m',m'<m/\W (i+1) m' H')/\∀x H',J.FA i H x H'->g x (wipe σ vs) H' λKg H2=>wipe Kg vs=wipe σ vs/\tt Kg H2 λb H3=>
  if b=true then te Kg H3 λy H4=>∃acc,H4 D=some (.lst acc)/\acc.length<Al/\Nx (upd H4 D (.lst (acc++[y])))else Nx H3)
def Lc(h:A4 K H0 a xs):CJ (S3 K a) (DD k) H0 xs (λv σ=>σ.set k (some v))where
 go:=λi H s l=>⟨xs,xs[i],s.seq h,by simp[l]⟩
 stop:=λi H s l=>⟨xs,s.seq h,l⟩
 FA:=λi it H s e x H' y σ R r=>by
  obtain⟨rfl,y⟩:=y;have:=y xs (s.seq h);rw[e]at this;cases this;exact r _ (A2.refl _)
def C6.same(e:A2 H H')(h:C6 K H a xs):C6 K H' a xs:=by
 rcases h with(h|⟨o,h⟩)|h
 .exact .inl (.inl (e _ _ h))
 .exact .inl (.inr ⟨o,e _ _ h⟩)
 .exact .inr h
def atn(h:C6 K H0 a xs):CJ (Zg K a) (DD k) H0 xs (λv σ=>σ.set k (some v))where
 go:=λi H s l=>⟨xs,xs[i],C6.same s h,by simp[l]⟩
 stop:=λi H s l=>⟨xs,C6.same s h,l⟩
 FA:=λi it H s e x H' y σ R r=>by
  obtain⟨rfl,y⟩:=y;have:=y xs (C6.same s h);rw[e]at this;cases this;exact r _ (A2.refl _)
def ato(h:A4 K H0 a xs)(h':A4 K H0 b ys):
 CJ (VF K a b) (O8 K 2 (HZ (DD k) (HZ (DD l) Q6))) H0 (xs.zip ys) (λp σ=>(σ.set k (some p.1)).set l (some p.2))where
 go:=λi H s q=>by
  rw[Br]at q;exact⟨xs,ys,xs[i]'(by lia),ys[i]'(by lia),s.seq h,s.seq h',by simp,by simp⟩
 stop:=λi H s q=>⟨xs,ys,s.seq h,s.seq h',by rw[Br]at q;lia⟩
 FA:=λi it H s e v H' y σ R r=>by
  obtain⟨T,x,y,rfl,nT,rfl,y1,y2⟩:=y;have e1:=y1 xs (s.seq h);have e2:=y2 ys (s.seq h');have:(xs.zip ys)[i]? =some (x,y):=by rw[Kl];exact⟨e1,e2⟩
  rw[this]at e;cases e;exact⟨T,[x,y],rfl,C6.of AB,rfl,x,[y],rfl,y,[],rfl,rfl,r _ (A2.one nT)⟩
def mZ(h:A4 K H0 a xs):
 CJ (VE K a) (O8 K 2 (HZ (DD k) (HZ (DD l) Q6))) H0 xs.zipIdx (λp σ=>(σ.set k (some (.int ((p.2:Nat):Int)))).set l (some p.1))where
 go:=λi H s q=>by
  rw[JB]at q;exact⟨xs,xs[i],s.seq h,by simp[q]⟩
 stop:=λi H s q=>⟨xs,s.seq h,by rw[JB]at q;exact q⟩
 FA:=λi it H s e v H' y σ R r=>by
  obtain⟨T,x,rfl,nT,rfl,y1⟩:=y;have e1:=y1 xs (s.seq h);have:xs.zipIdx[i]? =some (x,i):=by rw[YJ,e1];simp
  rw[this]at e;cases e;exact⟨T,[.int (i:Nat),x],rfl,C6.of AB,rfl,_,[x],rfl,x,[],rfl,rfl,r _ (A2.one nT)⟩
def Ma{lo:Int}{n k:Nat}:CJ (QH lo n) (DD k) H0 (A8 n) (λi σ=>σ.set k (some (.int (lo+(i:Nat)))))where
 go:=λi H s q=>by rw[BJ]at q;exact q
 stop:=λi H s q=>by rw[BJ]at q;exact q
 FA:=λi it H s e v H' y σ R r=>by
  obtain⟨rfl,rfl⟩:=y;obtain⟨_,rfl⟩:=Gu.mp e;rw[FC]at r;exact r _ (A2.refl _)
def XC{lo c:Int}{n k:Nat}:CJ (aH lo c n) (DD k) H0 (A8 n) (λi σ=>σ.set k (some (.int (lo+(i:Nat)*c))))where
 go:=λi H s q=>by rw[BJ]at q;exact q
 stop:=λi H s q=>by rw[BJ]at q;exact q
 FA:=λi it H s e v H' y σ R r=>by
  obtain⟨rfl,rfl⟩:=y;obtain⟨_,rfl⟩:=Gu.mp e;rw[FC]at r;exact r _ (A2.refl _)
def atm:CJ (aI x) (DD k) H0 x.cps.toList (λc σ=>σ.set k (some (.str ⟨#[c]⟩)))where
 go:=λi H s q=>by rw[RJ]at q;exact q
 stop:=λi H s q=>by rw[RJ]at q;exact q
 FA:=λi it H s e v H' y σ R r=>by
  obtain⟨rfl,c,e',rfl⟩:=y;rw[Array.getElem?_toList,e']at e;cases e;exact r _ (A2.refl _)
def HU{D:Ends}{σ:L2.St}{H0 H:Hp}{its:List ι}{bind:ι->L2.St->L2.St}(T:CJ J g H0 its bind)(Pv:List ι->L2.St->Hp->Prop)(h0:Pv its σ H)(hk:∀r σ H,Pv r σ H->A2 H0 H)
 (hs:∀it r σ H H',it∈its->Pv (it::r) σ H->A2 H H'->tb {D with nx:=Pv r,ct:=Pv r,bk:=D.nx} (bind it σ) H')(hd:∀σ H,Pv [] σ H->D.nx σ H):
 ForIn J g tb D σ H:=by
 refine⟨λi m σ H=>m=its.length-i/\i<=its.length/\Pv (its.drop i) σ H,⟨its.length,by simp,Er _,h0⟩,?_⟩;rintro i m σ H ⟨rfl,hi,p⟩;have q:=hk _ _ _ p;by_cases B3:i<its.length
 .refine .inr ⟨T.go i H q B3,Pv (its.drop (i+1)),λB1 H' p'=>⟨its.length-(i+1),YK _ _ B3,rfl,B3,p'⟩,λx H' y=>?_⟩;refine T.FA i its[i] H q (by simp[B3]) x H' y σ _ λBp s=>?_;rw[YQ B3]at p;exact hs _ _ σ H Bp (IU B3) p s
 .have e:i=its.length:=Yp hi (Nj.1 B3);subst e;rw[Yy]at p;exact .inl ⟨T.stop _ H q (Az _),hd σ H p⟩
def BG{β γ:Type}(R:β->γ->Prop):List β->List γ->Prop
 |[],[]=>True
 |x::xs,y::ys=>R x y/\BG R xs ys
 |_,_=>False
def BG.length:∀{xs:List β}{ys:List γ},BG R xs ys->xs.length=ys.length
 |[],[],_=>rfl
 |_::_,_::_,h=>by rw[B4,B4,BG.length h.2]
def BG.mono{R S:β->γ->Prop}(m:∀x y,R x y->S x y):∀{xs:List β}{ys:List γ},BG R xs ys->BG S xs ys
 |[],[],_=>trivial
 |_::_,_::_,h=>⟨m _ _ h.1,BG.mono m h.2⟩
def BG.snoc{x:β}{y:γ}(r:R x y):∀{xs:List β}{ys:List γ},BG R xs ys->BG R (xs++[x]) (ys++[y])
 |[],[],_=>⟨r,trivial⟩
 |_::_,_::_,h=>⟨h.1,BG.snoc r h.2⟩
def BG.map:∀{xs:List β}{ys:List γ},BG (λx y=>y=f x) xs ys->ys=xs.map f
 |[],[],_=>rfl
 |_::_,_::_,h=>by rw[BW,<-h.1,<-BG.map h.2]
def BG.get:∀{xs:List β}{ys:List γ}(i:Nat){y:γ},BG R xs ys->ys[i]? =some y->∃x,xs[i]? =some x/\R x y
 |[],[],_,_,_,e=>by simp at e
 |x::_,_::_,0,_,h,e=>by cases e;exact⟨x,rfl,h.1⟩
 |_::_,_::_,i+1,_,h,e=>BG.get i h.2 e
def BG.get':∀{xs:List β}{ys:List γ}(i:Nat){x:β},BG R xs ys->xs[i]? =some x->∃y,ys[i]? =some y/\R x y
 |[],[],_,_,_,e=>by simp at e
 |_::_,y::_,0,_,h,e=>by cases e;exact⟨y,rfl,h.1⟩
 |_::_,_::_,i+1,_,h,e=>BG.get' i h.2 e
def AX.of2:∀{ls:List (List V)}{vs:List V},BG (λl v=>AL H v l) ls vs->AX H vs ls
 |[],[],_=>trivial
 |_::_,_::_,h=>⟨h.1,AX.of2 h.2⟩
def OR(f:ι->Option β):∀(l:List ι)(x:ι),(l++[x]).mapM f=(l.mapM f).bind λys=>(f x).map λy=>ys++[y]
 |[],x=>by
  rw[Ko,Cm,aey];cases f x<;>rfl
 |z::l,x=>by
  rw[Yw,Cm,Cm,OR f l x];cases f z with
  |none=>rfl
  |some y=>
   cases pO f l with
   |none=>rfl
   |some ys=>cases f x<;>rfl
def mapM_none(f:ι->Option β):∀(l:List ι)(x:ι),x∈l->f x=none->l.mapM f=none
 |z::l,x,h,e=>by
  rw[Cm];rcases B2.mp h with h|h
  .subst h;rw[e];rfl
  .rw[mapM_none f l x h e];cases f z<;>rfl
def mapM_pure(f:ι->β):∀(l:List ι),l.mapM (λx=>some (f x))=some (l.map f)
 |[]=>rfl
 |z::l=>by rw[Cm,mapM_pure f l];rfl
def DB(H:Hp)(Q:VK)(l:List V):Prop:=∀p H',A2 H H'->H p=none->H' p=some (.lst l)->Q (.ref p) H'
def wt{H' Bp:Hp}(hp:Bp p=some (.lst l))(n:H' p=none):∀D,H' D≠none->∀H3,Ac D Bp H3->AL H3 (.ref p) l:=λD nD H3 k=>⟨p,rfl,k p _ hp λz=>nD (z▸n)⟩
def So{σ:L2.St}{H1:Hp}{Q:VK}{its:List ι}{bind:ι->L2.St->L2.St}(f:ι->Option β)(PV:β->V->Hp->Prop)(ER:Hp->Prop)(T:CJ J g H1 its bind)
 (hw:∀it∈its,wipe (bind it (wipe σ vs)) vs=wipe σ vs)(hsz:its.length<=Al)
 (Jy:∀it∈its,∀H',A2 H1 H'->∀Q':VK,(∀y,f it=some y->∀v Bp,A2 H' Bp->(∀D,H' D≠none->∀H3,Ac D Bp H3->PV y v H3)->Q' v Bp)->(f it=none->∀Bp,A2 H' Bp->ER Bp)->te (bind it (wipe σ vs)) H' Q')
 (VZ:its.mapM f=none->∀H',A2 H1 H'->ER H')
 (hq:∀ys,its.mapM f=some ys->∀p ws H',A2 H1 H'->H1 p=none->H' p=some (.lst ws)->BG (λy v=>PV y v H') ys ws->Q (.ref p) H'):
 ON J g Oi te vs σ H1 Q:=by
 intro D nD;let I:Nat->Hp->Prop:=λi H=>A2 H1 H/\∃ys ws,(its.take i).mapM f=some ys/\H D=some (.lst ws)/\ws.length=i/\∀H3,Ac D H H3->BG (λy v=>PV y v H3) ys ws;refine⟨λi m H=>m=its.length-i/\i<=its.length/\I i H,⟨its.length,by simp,Er _,A2.one nD,[],[],rfl,AB,rfl,λ_ _=>trivial⟩,?_⟩;intro i m H AG;w_up;obtain⟨rfl,hi,s1,ys,ws,e1,e2,e3,e4⟩:=AG;fin2;by_cases B3:i<its.length
 .refine .inr ⟨T.go i H s1 B3,I (i+1),λH' p'=>⟨its.length-(i+1),YK _ _ B3,rfl,B3,p'⟩,λx H' y=>?_⟩;refine T.FA i its[i] H s1 (by simp[B3]) x H' y _ _ λBp s2=>⟨hw _ (IU B3),?_⟩;show if true=true then te _ _ _ else I (i+1) Bp
  rw[if_pos rfl];refine Jy _ (IU B3) Bp (s1.trans s2) _ (λy ey v H4 s3 pv=>?_) λen H4 s3=>VZ (mapM_none f its _ (IU B3) en) H4 ((s1.trans s2).trans s3);have d4:H4 D=some (.lst ws):=s3 _ _ (s2 _ _ e2);refine⟨ws,d4,by lia,((s1.trans s2).trans s3).own nD,ys++[y],ws++[v],?_,AB,by rw[Bo,e3];rfl,λH5 k=>BG.snoc (R:=λy v=>PV y v H5) (pv D (by rw[s2 _ _ e2];simp) H5 ?_) (e4 H5 ?_)⟩
  .rw[ae2,show its[i]? =some its[i]from by simp[B3],oA,OR,e1,Aq,ey];rfl
  .intro b o e n;exact k b o (by rw[AY n];exact e) n
  .intro b o e n;exact k b o (by rw[AY n];exact s3 _ _ (s2 _ _ e)) n
 .have e:i=its.length:=Yp hi (Nj.1 B3);subst e;rw[Z1]at e1;exact .inl ⟨T.stop _ H s1 (Az _),hq ys e1 D ws H s1 nD e2 (e4 H (Ac.refl D H))⟩
def K0{σ:L2.St}{H1:Hp}{Q:VK}{its:List ι}{bind:ι->L2.St->L2.St}(f:ι->V)(T:CJ J g H1 its bind)
 (hw:∀it∈its,wipe (bind it (wipe σ vs)) vs=wipe σ vs)(hsz:its.length<=Al)
 (Jy:∀it∈its,∀H',A2 H1 H'->∀Q':VK,(∀Bp,A2 H' Bp->Q' (f it) Bp)->te (bind it (wipe σ vs)) H' Q')
 (hq:∀p H',A2 H1 H'->H1 p=none->H' p=some (.lst (its.map f))->Q (.ref p) H'):
 ON J g Oi te vs σ H1 Q:=by
 refine So (λit=>some (f it)) (λy v _=>v=y) (λ_=>True) T hw hsz (λit hi H' s Q' h _=>Jy it hi H' s Q' λBp s'=>h _ rfl _ Bp s' λ_ _ _ _=>rfl) (λ_ _ _=>trivial) λys e p ws H' s n hp a=>?_;rw[mapM_pure]at e;cases e;have:=BG.map (f:=id) (a.mono λ_ _ e=>e);rw[afD]at this;rw[this]at hp;exact hq p H' s n hp
def Oz{σ:L2.St}{H1:Hp}{Q:VK}{its:List ι}{bind:ι->L2.St->L2.St}(f:ι->Option Nat)(ER:Hp->Prop)(T:CJ J g H1 its bind)
 (hw:∀it∈its,wipe (bind it (wipe σ vs)) vs=wipe σ vs)(hsz:its.length<=Al)
 (Jy:∀it∈its,∀H',A2 H1 H'->∀Q':VK,(∀y,f it=some y->∀Bp,A2 H' Bp->Q' (.int ((y:Nat):Int)) Bp)->(f it=none->∀Bp,A2 H' Bp->ER Bp)->te (bind it (wipe σ vs)) H' Q')
 (VZ:its.mapM f=none->∀H',A2 H1 H'->ER H')
 (hq:∀ys,its.mapM f=some ys->∀p H',A2 H1 H'->H1 p=none->H' p=some (.lst (Nv ys))->Q (.ref p) H'):
 ON J g Oi te vs σ H1 Q:=by
 refine So f (λy v _=>v=.int ((y:Nat):Int)) ER T hw hsz (λit hi H' s Q' h h'=>Jy it hi H' s Q' (λy e Bp s'=>h y e _ Bp s' λ_ _ _ _=>rfl) h') VZ λys e p ws H' s n hp a=>?_;rw[BG.map a]at hp;exact hq ys e p H' s n hp
def j3{σ:L2.St}{H1:Hp}{Q:VK}{its:List ι}{bind:ι->L2.St->L2.St}(f:ι->List V)(T:CJ J g H1 its bind)
 (hw:∀it∈its,wipe (bind it (wipe σ vs)) vs=wipe σ vs)(hsz:its.length<=Al)
 (Jy:∀it∈its,∀H',A2 H1 H'->∀Q':VK,DB H' Q' (f it)->te (bind it (wipe σ vs)) H' Q')
 (hq:∀p ws H',A2 H1 H'->H1 p=none->H' p=some (.lst ws)->AX H' ws (its.map f)->Q (.ref p) H'):ON J g Oi te vs σ H1 Q:=by
 refine So (λit=>some (f it)) (λy v H=>AL H v y) (λ_=>True) T hw hsz (λit hi H' s Q' h _=>Jy it hi H' s Q' λp Bp s' n e=>h _ rfl _ Bp s' (wt e n)) (λ_ _ _=>trivial) λys e p ws H' s n hp a=>?_;rw[mapM_pure]at e;cases e;exact hq p ws H' s n hp (AX.of2 a)
def CJ.of_map{H0:Hp}{its:List κ}{bind:ι->L2.St->L2.St}(φ:κ->ι)(t:CJ J g H0 (its.map φ) bind):CJ J g H0 its (λk=>bind (φ k)):=
 ⟨λi H s l=>t.go i H s (by rw[AV];exact l),λi H s l=>t.stop i H s (by rw[AV];exact l),λi it H s e=>t.FA i (φ it) H s (by rw[D0,e];rfl)⟩
def IJ{a:A0}{xs:List α}{k:Nat}(f:α->V)(h:A4 K H0 a (xs.map f)):CJ (S3 K a) (DD k) H0 xs (λx σ=>σ.set k (some (f x))):=CJ.of_map f (Lc h)
def Mb{xs:List α}{ys:List β}{k l:Nat}(f:α->V)(g:β->V)(h:A4 K H0 a (xs.map f))(h':A4 K H0 b (ys.map g)):
 CJ (VF K a b) (O8 K 2 (HZ (DD k) (HZ (DD l) Q6))) H0 (xs.zip ys) (λp σ=>(σ.set k (some (f p.1))).set l (some (g p.2))):=by
 have:=ato (k:=k) (l:=l) h h';rw[ZT]at this;exact CJ.of_map (pR f g) this
def avF(f:α->V)(xs:List α):(xs.map f).zipIdx=xs.zipIdx.map (λp=>(f p.1,p.2)):=by
 rw[List.zipIdx_map];rfl
def m_{a:A0}{xs:List α}{k l:Nat}(f:α->V)(h:A4 K H0 a (xs.map f)):
 CJ (VE K a) (O8 K 2 (HZ (DD k) (HZ (DD l) Q6))) H0 xs.zipIdx (λp σ=>(σ.set k (some (.int ((p.2:Nat):Int)))).set l (some (f p.1))):=by
 have:=mZ (k:=k) (l:=l) h;rw[avF]at this;exact CJ.of_map (λp:α×Nat=>(f p.1,p.2)) this
def AX.zip:∀{vs:List V}{ls:List (List V)},AX H vs ls->(vs.zip ls).map HN=vs/\(vs.zip ls).map Jw=ls/\∀p∈vs.zip ls,AL H p.1 p.2
 |[],[],_=>⟨rfl,rfl,λ_ h=>by simp at h⟩
 |v::vs,l::ls,h=>by
  obtain⟨h1,h2,h3⟩:=AX.zip h.2;refine⟨by rw[EA,BW,h1],by rw[EA,BW,h2],λp hp=>?_⟩;rw[EA]at hp;rcases B2.mp hp with rfl|hp
  .exact h.1
  .exact h3 p hp
section
variable{D:Ends}{σ:L2.St}{H:Hp}{Q:VK}{R:It->Hp->Prop}
def aq5(wi:TI)(g:TG)(tb:TS):abw wi g tb D σ H=wi σ H λJ H1=>ForIn J g tb D σ H1:=rfl
def aq7(te:TE):uQ K te σ H R=te σ H λx H1=>Bm x λa=>(∃xs,A4 K H1 a xs)/\R (S3 K a) H1:=rfl
def aqD(t:TA):uW K t σ H R=t σ H λvs H1=>K5 vs λx y=>Bm x λa=>Bm y λb=>∃xs ys,A4 K H1 a xs/\A4 K H1 b ys/\R (VF K a b) H1:=rfl
def aq6(t:TA):uP K t σ H R=t σ H λvs H1=>FY vs λx=>Bm x λa=>∃xs,A4 K H1 a xs/\R (VE K a) H1:=rfl
def aq8(t:TA):uR t σ H R=t σ H λvs H1=>FY vs λx=>Bl x λj=> -(2^62)<=j/\j<2^62/\R (QH 0 j.toNat) H1:=rfl
def aq9(t:TA):uS t σ H R=t σ H λvs H1=>K5 vs λx y=>Bl x λi=>Bl y λj=>(-(2^62)<=i/\i<2^62/\ -(2^62)<=j/\j<2^62)/\R (QH i (j-i).toNat) H1:=rfl
def aqA(t:TA):uT t σ H R=t σ H λvs H1=>Mi vs λx y z=>Bl x λi=>Bl y λj=>Bl z λc=>∃n:Nat,S7 i j c n/\R (aH i c n) H1:=rfl
def arT(r:V->Option Int->Option Int->Hp->VK->Prop)(te:TE)(tl th:TO):ace r te tl th σ H Q=te σ H λx H1=>tl σ H1 λl H2=>th σ H2 λu H3=>r x l u H3 Q:=rfl
def arM(t:TE)(R:Option Int->Hp->Prop):abi t σ H R=t σ H λx H1=>Bl x λi=>R (some i) H1:=rfl
def arC(R:Option Int->Hp->Prop):abf σ H R=R none H:=rfl
def arU(x:V)(lo hi:Option Int):ja K x lo hi H Q=Bm x λa=>∃xs,A4 K H a xs/\∀p,H p=none->Q (.ref p) (upd H p (.lst (HX xs lo hi))):=rfl
def apj(x y:V):j_ K x y H Q=Bm x λp=>Bl y λi=>∃xs v,A4 K H p xs/\FP xs i=some v/\Q v H:=rfl
def aqQ(x:V)(vs:List V):xt x vs H Q=Bm x λl=>FY vs λy=>∃xs,H l=some (.lst xs)/\xs.length<Al/\Q .Ah (upd H l (.lst (xs++[y]))):=rfl
def aq2(x:V)(vs:List V):zN x vs H Q=Bm x λl=>FY vs λy=>Bm y λb=>∃xs zs,H l=some (.lst xs)/\H b=some (.lst zs)/\xs.length+zs.length<=Al/\Q .Ah (upd H l (.lst (xs++zs))):=rfl
def aqY(x y:V):yS x y H Q=Bm x λl=>Bm y λb=>∃xs zs,H l=some (.lst xs)/\H b=some (.lst zs)/\xs.length+zs.length<=Al/\∀p,H p=none->Q (.ref p) (upd H p (.lst (xs++zs))):=rfl
def apm(t:TA):abb t σ H Q=t σ H λxs H1=>xs.length<=Al/\∀p,H1 p=none->Q (.ref p) (upd H1 p (.lst xs)):=rfl
def aqu(t:TA):ach t σ H Q=t σ H λxs H1=>xs.length<=Al/\∀p,H1 p=none->Q (.ref p) (upd H1 p (.tup xs)):=rfl
def arW(te tl ts:TE):mR K te tl ts σ H Q=te σ H λx H1=>tl σ H1 λl H2=>ts σ H2 λs H3=>∃a xs lo st,x=.ref a/\l=.int (lo:Nat)/\s=.int (st:Nat)/\0<st/\A4 K H3 a xs/\
 ∀p,H3 p=none->Q (.ref p) (upd H3 p (.lst (La xs lo st))):=rfl
def arV(te ts:TE):mQ K te ts σ H Q=te σ H λx H1=>ts σ H1 λs H2=>∃a xs,x=.ref a/\s=.int (-1)/\A4 K H2 a xs/\∀p,H2 p=none->Q (.ref p) (upd H2 p (.lst xs.reverse)):=rfl
def arO(x y:V):zQ x y H Q=Bm x λl=>Bl y λk=>∃xs,H l=some (.lst xs)/\ -(2^63)<=k/\k<2^63/\xs.length*k.toNat<=Al/\∀p,H p=none->Q (.ref p) (upd H p (.lst (Ar k.toNat xs).flatten)):=rfl
def arI(p:A0)(R:A0->Prop):Bm (.ref p) R=R p:=rfl
def arH(i:Int)(R:Int->Prop):Bl (.int i) R=R i:=rfl
def arJ(i:Str)(R:Str->Prop):Wq (.str i) R=R i:=rfl
def arE(x:V)(R:V->Prop):FY [x] R=R x:=rfl
def arF(x y:V)(R:V->V->Prop):K5 [x,y] R=R x y:=rfl
def arG(x y z:V)(R:V->V->V->Prop):Mi [x,y,z] R=R x y z:=rfl
def apx(p:A0)(R:A0->α->Prop):(∃a xs,V.ref p=.ref a/\R a xs)=∃xs,R p xs:=propext ⟨λ⟨_,x,e,q⟩=>by cases e;exact⟨x,q⟩,λ⟨x,q⟩=>⟨_,x,rfl,q⟩⟩
def apt(p:A0)(R:A0->α->Prop):(∃a xs,[V.ref p]=[.ref a]/\R a xs)=∃xs,R p xs:=propext ⟨λ⟨_,x,e,q⟩=>by cases e;exact⟨x,q⟩,λ⟨x,q⟩=>⟨_,x,rfl,q⟩⟩
def aq1(p:A0)(i:Int)(R:A0->α->Int->β->Prop):(∃a xs j v,V.ref p=.ref a/\V.int i=.int j/\R a xs j v)=∃xs v,R p xs i v:=propext ⟨λ⟨_,x,_,v,e,e',q⟩=>by cases e;cases e';exact⟨x,v,q⟩,λ⟨x,v,q⟩=>⟨_,x,_,v,rfl,rfl,q⟩⟩
def apw(p:A0)(R:A0->Prop):(∃a,V.ref p=.ref a/\R a)=R p:=propext ⟨λ⟨_,e,q⟩=>by cases e;exact q,λq=>⟨_,rfl,q⟩⟩
def apl(wi:TI)(g:TG)(tt:TT)(te:TE)(vs:List Nat):N0 wi g tt te vs σ H Q=wi σ H λJ H1=>ON J g tt te vs σ H1 Q:=rfl
end
def av4(σ:L2.St)(v:Nat)(vs:List Nat):wipe σ (v::vs)=(wipe σ vs).set v none:=rfl
def av5(σ:L2.St):wipe σ []=σ:=rfl
section
variable{X:Cx}{e lo st o:B7}{f name:Str}{pos p2 apos FR:Pos}{ta te tl ts to:TE}{T id:String}{r:V->List V->Hp->VK->Prop}
def O_(hK:X.K=K)(h:PE X e ta)(hb:autoParam (Kt e f X.env (As e X.env)=As e X.env) auR):PE X (e.Attribute f pos) (mP K ta f):=by subst hK;exact AH h hb
def TZ(hK:X.K=K)(hc:X.calm=true)(h:VJ X es t)(hn:autoParam ((Nk es X.env).length=n) auR)(Bt:autoParam ((Nk es X.env).findIdx? (·.1)=none) auR):PG X (.Tuple es k pos) (O8 K n t):=by subst hK;exact Lg hc h hn Bt
def atj(hK:X.K=K):g7 X (ja K):=by subst hK;exact Jj
def uJ(hK:X.K=K):Zh X (j_ K):=by subst hK;exact BM
def apc(hK:X.K=K)(h:PE X e te)(h':PE X st ts):PE X (e.Subscript (Expr.Slice none none (some st) p2) pos) (mQ K te ts):=by subst hK;exact yD h h'
def apd(hK:X.K=K)(h:PE X e te)(hl:PE X lo tl)(h':PE X st ts):PE X (e.Subscript (Expr.Slice (some lo) none (some st) p2) pos) (mR K te tl ts):=by subst hK;exact yE h hl h'
def apP(hK:X.K=K)(pa:pL T)(slot:Slot T name id)(LR:typeOf (.builtin id)=pure (.type "method_descriptor"))(hm:KA X id r)(ho:PE X o to)
 (Ha:autoParam (Kt o name X.env (As o X.env)=As o X.env) auR)(J1:autoParam ((apos.endLine==FR.line)=true) auR):PE X (.Call (.Attribute o name apos) [] [] FR) (mK K T r to):=by subst hK;exact TY pa slot LR hm ho Ha J1
end
def bA(xs:List V)(lo hi:Nat):HX xs (some (lo:Int)) (some (hi:Int))=(xs.drop lo).take (hi-lo):=by
 unfold HX;rw[HT.XZ,HT.XZ];by_cases h:lo<=xs.length
 .rw[Nb h];by_cases h2:hi<=xs.length
  .rw[Nb h2]
  .rw[Z2 (by lia),Lk (by rw[Di];lia),Lk (by rw[Di];lia)]
 .rw[show min lo xs.length=xs.length from Z2 (by lia),Yy,nI (by lia),oj,oj]
def Ur(xs:List V)(lo:Nat):HX xs (some (lo:Int)) none=xs.drop lo:=by
 unfold HX;rw[HT.XZ,HT.ko];by_cases h:lo<=xs.length
 .rw[Nb h,Lk (by rw[Di];lia)]
 .rw[Z2 (by lia),Yy,nI (by lia),oj]
def bB(xs:List V)(hi:Nat):HX xs none (some (hi:Int))=xs.take hi:=by
 unfold HX;rw[HT.XZ,HT.ko,Nh];by_cases h:hi<=xs.length
 .rw[Nb h,aen]
 .rw[Z2 (by lia),Lk (by lia),Lk (by lia)]
def Cj(xs:List α)(i:Nat):FP xs (i:Int)=xs[i]? :=by
 unfold FP Gr;rw[if_pos (by lia)];by_cases h:i<xs.length
 .rw[if_pos (by lia)];rfl
 .rw[if_neg (by lia),U7 (by lia)];rfl
def B_(h:n<=2^20):n<=Al:=by unfold Al;lia
def J8(h:n<=2^20):n<Al:=by unfold Al;lia
open PySem PySem.Spec PyProof.Rows L2 SN
def boot_abs:IX "abs"=some (.builtin "abs"):=by kernel_rfl
def boot_ord:IX "ord"=some (.builtin "ord"):=by kernel_rfl
def boot_all:IX "all"=some (.builtin "all"):=by kernel_rfl
def boot_max:IX "max"=some (.builtin "max"):=by kernel_rfl
def boot_min:IX "min"=some (.builtin "min"):=by kernel_rfl
def boot_int:IX "int"=some (.type "int"):=by kernel_rfl
def boot_dict:IX "dict"=some (.type "dict"):=by kernel_rfl
section
variable{σ:L2.St}{H:Hp}{Q:VK}{D:Ends}
def aqV(T:String)(r:V->List V->Hp->VK->Prop)(to:TE):mK K T r to σ H Q=to σ H λx H1=>TB K T x H1/\r x [] H1 Q:=rfl
def aqU(T:String)(r:V->List V->Hp->VK->Prop)(to:TE)(t:TA):abp K T r to t σ H Q=to σ H λx H1=>TB K T x H1/\t σ H1 λxs H2=>r x xs H2 Q:=rfl
def aqi(i:Int)(R:Int->Prop):(∃j,V.int i=.int j/\R j)=R i:=propext ⟨λ⟨_,e,q⟩=>by cases e;exact q,λq=>⟨_,rfl,q⟩⟩
def apu(i:Nat)(R:Nat->Prop):(∃j:Nat,V.int (i:Int)=.int (j:Int)/\R j)=R i:=propext ⟨λ⟨j,e,q⟩=>by
 have:=V.int.inj e;have:i=j:=by lia
 subst this;exact q,λq=>⟨_,rfl,q⟩⟩
def apv(i j:Nat)(R:Nat->Nat->Prop):(∃i' j':Nat,V.int (i:Int)=.int (i':Int)/\V.int (j:Int)=.int (j':Int)/\R i' j')=R i j:=propext ⟨λ⟨i',j',e1,e2,q⟩=>by
 have:=V.int.inj e1;have:=V.int.inj e2;have:i=i':=by lia
 have:j=j':=by lia
 subst i' j';exact q,λq=>⟨_,_,rfl,rfl,q⟩⟩
def afd(i:Int):(if i<0 then-i else i)=((i.natAbs:Nat):Int):=by split<;>omega
def amf(i j:Int):(if j>i then j else i)=max i j:=by lia
def amk(i j:Int):(if j<i then j else i)=min i j:=by lia
def aqv(i:Int)(A:Prop):(TB K "int" (.int i) H/\A)=A:=propext ⟨λh=>h.2,λh=>⟨rfl,h⟩⟩
def arY(te:TE)(R:Bool->Hp->Prop):(λ(σ:L2.St)(H:Hp)(Q:Bool->Hp->Prop)=>te σ H λx H'=>∃k,VQ K x H' k/\Q k H') σ H R=te σ H λx H'=>∃k,VQ K x H' k/\R k H':=rfl
def arZ(i:Int)(R:Bool->Prop):(∃k,VQ K (.int i) H k/\R k)=R (i !=0):=propext ⟨λ⟨k,e,q⟩=>by cases(show k=(i !=0)from e);exact q,λq=>⟨_,rfl,q⟩⟩
def uF:(if True then A else B)=A:=if_pos trivial
def uE:(if False then A else B)=B:=if_neg id
def amE:(if false=true then A else B)=B:=if_neg (by decide)
def aqT(v:V)(R:V->Prop):Wr (some (some v)) R=R v:=rfl
def ajg(x:α)(r:List α):(x::r)[0]? =some x:=rfl
def ajA(i:Nat)(x:α)(r:List α):(x::r)[i+1]? =r[i]? :=rfl
def cut(h:∀U,U=u D->t {D with nx:=U} σ H):X4 t u D σ H:=h _ rfl
end
section
variable{σ:L2.St}{H:Hp}{Q:VK}{D:Ends}
def aqP(ta tb:TE):abn ta tb σ H Q=ta σ H λx H1=>Le x λc=>if c=true then tb σ H1 Q else Q (.bl false) H1:=rfl
def apr(t:TA)(td:TE):abd K t td σ H Q=t σ H λvs H1=>td σ H1 λd H2=>∃(a:A0)(ns:List Int),vs=[.ref a]/\d=.int 0/\A4 K H2 a (ns.map V.int)/\(∀n∈ns,0<=n)/\Q (.int (Kb ns)) H2:=rfl
def apk(x y:V):zP K x y H Q=Bm x λp=>Bl y λi=>∃xs v,C6 K H p xs/\FP xs i=some v/\Q v H:=rfl
def aqC(te:TE):uV K te σ H R=te σ H λx H1=>Bm x λa=>(∃xs,C6 K H1 a xs)/\R (Zg K a) H1:=rfl
def aqb(td ty:TE):abr td ty σ H Q=td σ H λx H1=>ty σ H1 λy H2=>∃a v,x=.ref a/\HR H2 a y (some v)/\Q v H2:=rfl
def aqd(ty td:TE):abu ty td σ H Q=ty σ H λy H1=>td σ H1 λx H2=>∃a o,x=.ref a/\HR H2 a y o/\Q (.bl (!o.isSome)) H2:=rfl
def aqe(td ty tv:TE):zI td ty tv D σ H=tv σ H λv H1=>td σ H1 λx H2=>ty σ H2 λy H3=>∃a H4,x=.ref a/\Sd H3 a y v H4/\D.nx σ H4:=rfl
def aqc:abt σ H Q=∀p,H p=none->Q (.ref p) (upd H p (.dT [])):=rfl
def aqE(t:TA):uX K t σ H R=t σ H λvs H1=>Mi vs λx y z=>Bm x λa=>Bm y λb=>Bm z λc=>∃xs ys zs,A4 K H1 a xs/\A4 K H1 b ys/\A4 K H1 c zs/\R (VD K a b c) H1:=rfl
def apn(r:V->List V->Hp->VK->Prop)(to:TE):abc r to σ H Q=to σ H λx H1=>(∃a,x=.str a)/\r x [] H1 Q:=rfl
def apo(r:V->List V->Hp->VK->Prop)(to te:TE):Xk r to te σ H Q=to σ H λx H1=>(∃a,x=.str a)/\te σ H1 λy H2=>r x [y] H2 Q:=rfl
def arA(ys:List Str):XN ys H Q=∀p,H p=none->Q (.ref p) (upd H p (.lst (ys.map V.str))):=rfl
def aqB(te:TE):uU te σ H R=te σ H λv H1=>∃x,v=.str x/\R (aI x) H1:=rfl
def apy(x:Str):(∃a,V.str x=.str a)=True:=propext ⟨λ_=>trivial,λ_=>⟨_,rfl⟩⟩
def apz(x:Str)(R:Str->Prop):(∃a,V.str x=.str a/\R a)=R x:=propext ⟨λ⟨_,e,q⟩=>by cases e;exact q,λq=>⟨_,rfl,q⟩⟩
def aq0(x y:Str)(R:Str->Str->Prop):(∃a b,V.str x=.str a/\[V.str y]=[.str b]/\R a b)=R x y:=propext ⟨λ⟨_,_,e,e',q⟩=>by cases e;cases e';exact q,λq=>⟨_,_,rfl,rfl,q⟩⟩
def aqH(ta:TE):abz ta σ H Q=ta σ H λx H1=>Q (.bl (decide (x=.Ah))) H1:=rfl
def aqI:decide (V.Ah=V.Ah)=true:=rfl
def api(p:A0):decide (V.ref p=V.Ah)=false:=rfl
def aqt(C:A0)(n:Nat)(tb:XK->TS)(th:TS):acg C n tb th D σ H=tb (λcls _ H'=>cls=.ref C/\th {nx:=λ_ _=>False,rt:=D.rt} (Ar n none) H') D σ H:=rfl
def aq4(ta tv:TE)(rd:V->V->Hp->VK->Prop)(f:Str):zJ K ta tv rd f D σ H=ta σ H λx H1=>∃a C dx fs v,x=.ref a/\H1 a=some (.ins C dx fs)/\B8 K C/\Ap K C f/\fs.lookup f=some v/\
 tv σ H1 λy H2=>rd v y H2 λz H3=>∃KH Gj,H3 a=some (.ins C KH Gj)/\Gj.length<1000/\D.nx σ (upd H3 a (.ins C KH (AS f z Gj))):=rfl
def aqN(vs:List V):xr K vs H Q=∃(a:A0)(bs:List Bool),vs=[.ref a]/\A4 K H a (bs.map V.bl)/\Q (.bl (bs.all id)) H:=rfl
def aqX(i:Nat)(f:A0)(sp:Sp)(CW:List V)(E:XK)(t:TA):mM i f sp CW E t σ H Q=(σ[i]? =some (some (.ref f))/\t σ H λvs H1=>sp (vs++CW) H1 Q E):=rfl
def arL:(A/\True)=A:=and_true A
end
def lE(a:Ad):Sp:=CS λv H Q _=>∃s,BB a H v s/\Small s/\Q (.int ((s.2.1*s.2.2:Nat):Int)) H
def aal(a:Ad):Sp:=CS λv H Q _=>∃s:Cu,BB a H v s/\Small s/\Q (.int ((s.1*(s.2.1*s.2.2):Nat):Int)) H
def Ans(a:Ad)(o:Option Nat)(H:Hp)(Q:VK)(E:XK):Prop:=match o with
 |some z=>Q (.int ((z:Nat):Int)) H
 |none=>E (.ref a.DC) none H
def ab0:Sp:=CS λv H Q _=>∃x:Nat,v=.int (x:Int)/\x<2^32/\Q (.bl (HK x)) H
def aav:Sp:=CS λv H Q _=>∃x:Nat,v=.int (x:Int)/\Q (.bl (decide (0<x/\x<2^31))) H
def ab7:Sp:=CS λv H Q _=>∃x:Nat,v=.int (x:Int)/\x<2^32/\Q (.int ((Ks x:Nat):Int)) H
def ac5:Sp:=CS λv H Q _=>∃x:Nat,v=.int (x:Int)/\x<2^32/\Q (.int (units x)) H
def ab6(a:Ad):Sp:=CS λv H Q E=>∃f:Nat,v=.int (f:Int)/\f<2^1000/\Ans a (near f) H Q E
def ac3(a:Ad):Sp:=CS λv H Q E=>∃z:Int,v=.int z/\z.natAbs<2^1000/\Ans a ((near z.natAbs).map (Jq (decide (z<0))+ ·)) H Q E
def ab9(a:Ad):Sp:=Dq λv1 v2 H Q E=>∃x y:Nat,v1=.int (x:Int)/\v2=.int (y:Int)/\x<2^32/\y<2^32/\Ans a (DJ x y) H Q E
def ab3(a:Ad):Sp:=Dq λv1 v2 H Q E=>∃x y:Nat,v1=.int (x:Int)/\v2=.int (y:Int)/\x<2^32/\AI y/\Ans a (Ia x y) H Q E
def ac2(a:Ad):Sp:=Dq λv1 v2 H Q E=>∃x y:Nat,v1=.int (x:Int)/\v2=.int (y:Int)/\x<2^32/\y<2^32/\Ans a (BC x y) H Q E
def abC:Sp:=Dq λv1 v2 H Q _=>∃(f:Nat)(b:Bool),v1=.int (f:Int)/\v2=.bl b/\Q (.int ((DQ f b:Nat):Int)) H
def ab8(a:Ad):Sp:=Dq λv1 v2 H Q E=>∃x y:Nat,v1=.int (x:Int)/\v2=.int (y:Int)/\x<2^32/\y<2^32/\Ans a (L0 x y) H Q E
def ac6:Sp:=CS λv H Q _=>∃n:Nat,v=.int (n:Int)/\n≠0/\n<2^100/\∀w:Nat,Ec w n->Q (.int (w:Int)) H
def abD(a:Ad):Sp:=CS λv H Q E=>∃x:Nat,v=.int (x:Int)/\x<2^32/\Ans a (Ju x) H Q E
end Sg
set_option hygiene false in
local macro_rules | `(tactic| lk) => `(tactic| try simp only [arR, aqR, aqJ, lK, aqw, jd, lN, lO, zV, aqL, aqM, aqg, zW, aqh, jc, lM, je, aqF, arP, arQ, kE, aqf, aqO, arK, arD, arX, aqW, arB, aqa, aqZ, arN, aq_, atf, atg, iu, iw, aqG, zY, Qa, XO, lL, zZ, aps, apq, arS, aq3, ahF, Ko, Yw, aqV, aqU, aqi, true_and, aqv, afd, apu, ab0, aqb, aqd, aqe, aqc, apk, aqC, aqP, apr, lE, aal, aav, ab7, ac5, ab6, ac3, ab9, ab3, ac2, abC, ab8, ac6, abD, apv, amf, amk, arY, arZ, uF, uE, amE, aqS, aqT, ajg, ajA, aq5, av4, av5, BW, Kr, aq7, aqD, aq6, aq8, aq9, aqA, arT, arM, arC, arU, apj, aqQ, aq2, aqY, arO, apm, aqu, arW, arV, apl, apw, aqE, apn, apo, arA, aqB, apy, apz, aq0, aqH, aqt, aq4, aqN, aqI, api, aqX, arL, st0, acE, Li, apx, apt, aq1, arI, arH, arJ, arE, arF, arG])
namespace Sg
open PySem PySem.Spec PyProof.Rows L2
variable{K:Ae}
def aoq(x y z:V):AS "columns" z (AS "rows" y (AS "planes" x []))=JU x y z:=by kernel_rfl
def aak(a:Ad):Sp:=Hi λv1 v2 v3 v4 H Q _=>EN λp dx=>D1 (v1=.ref p) (H p=some (.ins a.Shape dx [])) (Q .Ah (upd H p (.ins a.Shape dx (JU v2 v3 v4))))
def TM(T:Txt K mg a):A_ P w K mg base 1 a.fo ["self","planes","rows","columns"] (aak a):=by
 refine T.ahg.J7 ars λAF A outer s H p0 p1 p2 p3 Q E hr h nd=>?_;obtain⟨p,dx,rfl,h0,q⟩:=h;refine⟨_,(A7 (C9 (pv 0) (pv 1) rfl) (A7 (C9 (pv 0) (pv 2) rfl) (AE (C9 (pv 0) (pv 3) rfl)))).Ak,?_⟩;lk;refine⟨p,_,dx,_,rfl,h0,T.FQ,T.xY,(by show 0<1000;decide),p,_,dx,_,rfl,AB,T.FQ,T.xZ,(by show 1<1000;decide),p,_,dx,_,rfl,AB,T.FQ,T.xX,(by show 2<1000;decide),?_⟩;rw[Ds,Ds,aoq];exact q
def S9{n:Nat}(h:n<2^64):((n:Int)).natAbs<2^1000:=by
 rw[Fe];exact CT h (EL (by decide) (by decide))
def kX(T:Txt K mg a):A_ P w K mg base 1 a.fq ["self"] (lE a):=by
 refine T.ahh.Cy art λAF A outer s H p0 Q E hr h nd=>?_;obtain⟨s,⟨p,dx,rfl,h0⟩,sm,q⟩:=h;refine⟨_,(AE (Aa (AM ID (AH (pv 0) rfl) (AH (pv 0) rfl)))).Ak,?_⟩;lk;rw[DY T h0,DW T h0];lk;refine⟨⟨S9 (Jr sm.2.1 (by decide)),S9 (Jr sm.2.2 (by decide))⟩,?_⟩;rw[<-CK];exact q
def LW(T:Txt K mg a):A_ P w K mg base 2 a.fu ["self"] (aal a):=by
 refine T.ahi.Cy aru λAF A outer s H p0 Q E hr h nd=>?_;obtain⟨s,⟨p,dx,rfl,h0⟩,sm,q⟩:=h;refine⟨_,(AE (Aa (AM ID (AH (pv 0) rfl) (Cf (kX T) T.FQ T.iV hr AD (pv 0))))).Ak,?_⟩;lk;rw[DX T h0];refine⟨p,dx,_,rfl,h0,(by kernel_rfl),?_⟩;refine⟨s,⟨p,dx,rfl,h0⟩,sm,?_⟩;lk;refine⟨⟨S9 (Jr sm.1 (by decide)),S9 ?_⟩,?_⟩
 .exact CT (Ls sm.2.1 sm.2.2) (by decide)
 .rw[<-CK];exact q
def apC(x y z u:V):AS "right" u (AS "left" z (AS "bottom" y (AS "top" x [])))=KN x y z u:=by kernel_rfl
def l9(a:Ad):Sp:=Qi λv1 v2 v3 v4 v5 H Q _=>EN λp dx=>D1 (v1=.ref p) (H p=some (.ins a.Gg dx [])) (Q .Ah (upd H p (.ins a.Gg dx (KN v2 v3 v4 v5))))
def xH(T:Txt K mg a):A_ P w K mg base 1 a.dt ["self","top","bottom","left","right"] (l9 a):=by
 refine T.agS.Xs ar5 λAF A outer s H p0 p1 p2 p3 p4 Q E hr h nd=>?_;obtain⟨p,dx,rfl,h0,q⟩:=h;refine⟨_,(A7 (C9 (pv 0) (pv 1) rfl) (A7 (C9 (pv 0) (pv 2) rfl) (A7 (C9 (pv 0) (pv 3) rfl) (AE (C9 (pv 0) (pv 4) rfl))))).Ak,?_⟩;lk;refine⟨p,_,dx,_,rfl,h0,T.LD,T.vO,(by show 0<1000;decide),p,_,dx,_,rfl,AB,T.LD,T.vL,(by show 1<1000;decide),p,_,dx,_,rfl,AB,T.LD,T.vM,(by show 2<1000;decide),p,_,dx,_,rfl,AB,T.LD,T.vN,(by show 3<1000;decide),?_⟩;rw[Ds,Ds,Ds,apC];exact q
def ab5(a:Ad):Sp:=D9 λv1 v2 v3 H Q _=>Et λ(t b l r d e:Int)=>Fm (Ud a H v1 t b l r) (v2=.int d) (v3=.int e) (∀v H',A2 H H'->Ud a H' v (t+d) (b+d) (l+e) (r+e)->Q v H')
def xI(T:Txt K mg a):A_ P w K mg base 3 a.e7 ["self","down","aside"] (ab5 a):=by
 refine T.agT.Dc ar6 λAF A outer s H p0 p1 p2 Q E hr h nd=>?_;obtain⟨t,b,l,r,d,e,⟨p,dx,rfl,h0⟩,rfl,rfl,q⟩:=h;refine⟨_,(AE (Aa (F9 (xH T) T.vo T.rS hr AD (A1 (AM Cr (AH (pv 0) rfl) (pv 1)) (A1 (AM Cr (AH (pv 0) rfl) (pv 1)) (A1 (AM Cr (AH (pv 0) rfl) (pv 2)) (A1 (AM Cr (AH (pv 0) rfl) (pv 2)) A3))))))).Ak,?_⟩;lk;rw[bO T h0];lk;rw[bL T h0];lk;rw[bM T h0];lk;rw[bN T h0];unfold l9;lk;intro x KH nx nd ne;refine⟨x,KH,rfl,AB,?_⟩;rw[Ds];exact q _ _ (((A2.refl H).new nd).new (by rw[AY ne.symm];exact nx)) ⟨x,KH,rfl,AB⟩
end Sg
set_option exponentiation.threshold 300
namespace Sg
open PySem PySem.Spec PyProof.Rows L2 SN
variable{K:Ae}
def aA(z:Int):PK z=bl z.natAbs:=by
 unfold PK bl;by_cases h:z=0
 .subst h;rfl
 .rw[if_neg (by simpa using h),if_neg (by lia)]
def fL(f:Nat):PK (f:Int)=bl f:=by rw[aA,Fe]
def aB(h:f<2^n):bl f<=n:=Zd h
def iR{R:Int->Prop}{z h:Int}{d:Nat}(hd:0<d)(h1:d<=1000)(hz:z.natAbs<2^1000)(e:h=z/2^((d:Int)-1).toNat)(q:∀h',h'/2=SN.rI z d->R h'):
 if(Hq h 1 !=0)=true then(if(Hq h 2 !=0)=true then R (h+1)else e8 h ((d:Int)-1)/\if h*2^((d:Int)-1).toNat=z then R h else R (h+1))else R h:=by
 have ed:((d:Int)-1).toNat=d-1:=by lia
 rw[ed]at e⊢;have hi:=SN.aky z d hd;rw[<-e]at hi;have q':=q _ hi;rw[SB.qf,SB.afi];have ha:h.natAbs<2^1000:=by
  refine FD ?_ hz;rw[e];exact Int.natAbs_ediv_le_natAbs _ _
 by_cases c1:h %2=1
 .rw[if_pos (by simp[c1])];by_cases c2:h/2 %2=1
  .rw[if_pos (by simp[c2])];rwa[if_pos ⟨c1,A6 c2⟩]at q'
  .have:h/2 %2=0:=by lia
   rw[if_neg (by simp[this])];refine⟨⟨ha,by lia,by lia⟩,?_⟩;split
   .rename_i c3;rwa[if_neg (by rintro⟨_,c|c⟩;exact c2 c;exact c c3)]at q'
   .rename_i c3;rwa[if_pos ⟨c1,C1 c3⟩]at q'
 .have:h %2=0:=by lia
  rw[if_neg (by simp[this])];rwa[if_neg (λc=>c1 c.1)]at q'
def ao9(T:Txt K mg a):A_ P w K mg base 1 a.is_finite ["single"] ab0:=by
 refine T.ain.Cy asC λAF A outer s H p0 Q E hr h nd=>?_;obtain⟨x,rfl,hx,q⟩:=h;refine⟨_,(AE (Aa (QZ IE (AM Ig (pv 0) (Au T.aE)) (Au T.aE) (BU _)))).Ak,?_⟩;lk;rw[SB.qg hx];refine cast ?_ q;congr 2;unfold HK;have hb:x/2^23 %256<256:=D5 _ (by decide);generalize x/2^23 %256=y at hb⊢;by_cases c:y=255
 .subst c;rfl
 .rw[show(y !=255)=true from by simpa using c,decide_eq_false (by lia)];rfl
def kY(T:Txt K mg a):A_ P w K mg base 1 a.ir ["single"] aav:=by
 refine T.aim.Cy asB λAF A outer s H p0 Q E hr h nd=>?_;obtain⟨x,rfl,q⟩:=h;refine⟨_,(AE (Aa (apS OY OY (Au T.KD) (pv 0) (Au T.MI)))).Ak,?_⟩;lk;split
 .rw[show decide ((x:Int)<2147483648)=decide (0<x/\x<2^31)from decide_eq_decide.mpr (by omega)];exact q
 .rwa[show decide (0<x/\x<2^31)=false from decide_eq_false (by omega)]at q
def aoA(T:Txt K mg a):A_ P w K mg base 1 a.opposite ["single"] ab7:=by
 refine T.ait.Cy arf λAF A outer s H p0 Q E hr h nd=>?_;obtain⟨x,rfl,hx,q⟩:=h;refine⟨_,(AE (Aa (AM jj (pv 0) (Au T.MI)))).Ak,?_⟩;lk;rw[SB.av9 hx];exact q
def Je(T:Txt K mg a):A_ P w K mg base 1 a.mW ["single"] ac5:=by
 refine T.aiP.Cy atY λAF A outer s H p0 Q E hr h nd=>?_;obtain⟨x,rfl,hx,q⟩:=h;refine⟨_,(A7 (AW (i:=1) nd rfl (A6 rfl) (AM Ig (pv 0) (Au T.afN))) (A7 (AW (i:=2) nd rfl (A6 rfl) (AM OZ (AM Ig (pv 0) (Au T.aE)) (Au T.pY))) (A7 (BR (Bc Ml (pv 2) Am (BU _)) (AE (AW (i:=1) nd rfl (A6 rfl) (AM Ih (AM WM (pv 1) (Au T.ag2)) (AM Dn (pv 2) Am)))) BO) (AE (Aa (WS (Bc Y0 (pv 0) (Au T.MI) (BU _)) (Hf Hj (pv 1)) (pv 1))))))).Ak,?_⟩;lk;refine⟨by decide,?_⟩;rw[SB.qg hx,SB.afj];have e:((x/2^23 %256*2^23:Nat):Int)/2^Hv 23=((x/2^23 %256:Nat):Int):=by
  rw[show(2:Int)^Hv 23=((2^23:Nat):Int)from rfl,<-IT,RV _ (BF 23)]
 rw[e];unfold units AR at q;have hex:x/2^23 %256<256:=D5 _ (by decide);generalize x/2^23 %256=ex at*;have hm:x %2^23<2^23:=D5 _ (BF 23);generalize x %2^23=c at*;rw[SB.ant hm];split
 .rename_i h0;rw[if_neg (show¬ex=0 by lia)]at q;refine⟨⟨S9 (by lia),by lia,by lia⟩,?_⟩;rw[show((ex:Int)-1).toNat=ex-1 from by lia,SN.Eo,<-CK];split
  .rwa[if_pos (by lia)]at q
  .rwa[if_neg (by lia)]at q
 .rename_i h0;rw[if_pos (show ex=0 by lia)]at q;split
  .rwa[if_pos (by lia)]at q
  .rwa[if_neg (by lia)]at q
def fc(hf:f<2^1000):dr f<=1000:=by
 have:=aB hf;unfold dr;omega
def ano{E:XK}{f:Nat}(hf:f<2^1000){h:Int}(e:h/2=SN.rI (f:Int) (dr f))(q:Ans a (near f) H Q E):
 e8 ((dr f:Int)-149) 23/\0<=(1:Int)/\if 2139095040<=((dr f:Int)-149)*2^Hv 23+h/2^Hv 1 then[V.str (EB "a result beyond the greatest single")].length<=Al/\E (Cc a.DC) none H else
  Q (V.int (((dr f:Int)-149)*2^Hv 23+h/2^Hv 1)) H:=by
 have hd:=fc hf;have tV:149<=dr f:=YW _ _;refine⟨⟨?_,by decide,by decide⟩,by decide,?_⟩
 .rw[show((dr f:Int)-149)=((dr f-149:Nat):Int)from by omega];exact S9 (by omega)
 .have e1:h/2^Hv 1=((Bd f (2^dr f):Nat):Int):=by
   rw[show(2:Int)^Hv 1=2 from rfl,e];unfold SN.rI;rw[if_neg (by omega),Fe]
  have e2:((dr f:Int)-149)*2^Hv 23+h/2^Hv 1=(((dr f-149)*2^23+Bd f (2^dr f):Nat):Int):=by
   rw[e1,IV,CK,show((dr f-149:Nat):Int)=(dr f:Int)-149 from by omega];rfl
  rw[e2];unfold near enc at q;split
  .rename_i c;rw[if_pos (by omega)]at q;exact⟨by decide,q⟩
  .rename_i c;rw[if_neg (by omega)]at q;exact q
def Wn(T:Txt K mg a):A_ P w K mg base 1 a.kO ["fine"] (ab6 a):=by
 refine T.ais.Cy ard λAF A outer s H p0 Q E hr h nd=>?_;obtain⟨f,rfl,hf,q⟩:=h;refine⟨_,(A7 (AW (i:=1) nd rfl (A6 rfl) (AM Dn (TY RN RG RH Tp (pv 0)) (Au T.dH))) (A7 (BR (Bc OY (pv 1) (Au T.IK) (BU _)) (AE (AW (i:=1) nd rfl (A6 rfl) (Au T.IK))) BO) (A7 (AW (i:=2) nd rfl (A6 rfl) (AM OZ (pv 0) (AM Dn (pv 1) Am))) (A7 (BR (Td (Tc (AM Ig (pv 2) Am) (λ_=>rfl)) (Te (Mr (Tc (AM Ig (pv 2) Am) (λ_=>rfl)) (Od (Bc IE (AM Ih (pv 2) (AM Dn (pv 1) Am)) (pv 0) (BU _)))).pt)).pt (AE (WZ (i:=2) nd rfl (A6 rfl) Am bW)) BO) (A7 (AW (i:=3) nd rfl (A6 rfl) (AM Cr (AM Ih (AM Dn (pv 1) (Au T.IK)) (Au T.pY)) (AM OZ (pv 2) Am))) (A7 (BR (Bc Y0 (pv 3) (Au T.aE) (BU _)) (AE (Ij rfl rfl CD (by rfl) T.V7 T.X7 (A1 EK A3))) BO) (AE (Aa (pv 3))))))))).Ak,?_⟩;refine cut λU hU=>?_;lk;subst hU;refine cut λU hU=>?_;lk
 suffices key:U [some (.int (f:Int)),some (.int (dr f:Int)),none,none] H from by
  rw[fL];split
  .rename_i c;rw[show dr f=149 from by unfold dr;lia]at key;exact key
  .rename_i c;rw[show(dr f:Int)=(bl f:Int)-24 from by unfold dr;lia]at key;exact key
 subst hU;have hd:=fc hf;have tV:149<=dr f:=YW _ _;refine cut λU hU=>?_;lk;refine⟨by lia,?_⟩;subst hU;refine cut λU hU=>?_;lk;refine iR (R:=λh=>U [some (V.int (f:Int)),some (V.int (dr f:Int)),some (V.int h),none] H) (by lia) hd (by rw[Fe];exact hf) rfl λh' e=>?_;subst hU;show X4 _ _ _ _ _;lk;exact ano hf e q
def y_(T:Txt K mg a):A_ P w K mg base 2 a.mV ["fine"] (ac3 a):=by
 refine T.aiO.Cy atX λAF A outer s H p0 Q E hr h nd=>?_;obtain⟨z,rfl,hz,q⟩:=h;refine⟨_,(AE (Aa (WS (Bc OY (pv 0) Am (BU _)) (AM WM (Ag (Wn T) T.V9 hr AD (A1 (Hf Hj (pv 0)) A3)) (Au T.MI)) (Ag (Wn T) T.V9 hr AD (A1 (pv 0) A3))))).Ak,?_⟩;lk;lk;split
 .rename_i c;refine⟨z.natAbs,by rw[show-z=(z.natAbs:Int)from by lia],hz,?_⟩;rw[decide_eq_true c]at q;cases e:near z.natAbs with
  |none=>rw[e]at q;exact q
  |some s=>
   rw[e]at q;have:=Tt e;show IG _ _ _ _ _;lk;rw[SB.xu (by lia)];exact q
 .rename_i c;refine⟨z.natAbs,by rw[show z=(z.natAbs:Int)from by lia,Fe],hz,?_⟩;rw[decide_eq_false c,iZ]at q;exact q
def Ol(x:Nat):(units x).natAbs=AR x:=VX x
def QO(x:Nat):AR x<2^278:=by
 obtain⟨h1,h2,h3,h4⟩:=Ke x;rw[<-h1];have:((UZ x).2+149).toNat<=254:=by lia
 calc _<2^24*2^((UZ x).2+149).toNat:=Kk h2 (BF _)
  _<=2^24*2^254:=EX _ (EL (by decide) this)
  _=2^278:=by rw[<-BP]
def D_(h:n<2^i)(hij:i<=j):n<2^j:=CT h (EL (by decide) hij)
def NT(h:m<2^i)(h':n<2^j):m*n<2^(i+j):=by
 rw[BP];exact Ls h h'
def JL(x:Nat):(units x).natAbs<2^278:=by rw[Ol];exact QO x
def qa(x y:Nat):(units x+units y).natAbs<2^279:=by
 have h1:=JL x;have h2:=JL y;rw[FH,Nat.mul_two];exact FD (YY ..) (aej h1 h2)
def TN(T:Txt K mg a):A_ P w K mg base 3 a.plus ["x","y"] (ab9 a):=by
 refine T.aiw.En arj λAF A outer s H p0 p1 Q E hr h nd=>?_;obtain⟨x,y,rfl,rfl,hx,hy,q⟩:=h;refine⟨_,(A7 (AW (i:=2) nd rfl (A6 rfl) (AM Cr (Ag (Je T) T.JW hr AD (A1 (pv 0) A3)) (Ag (Je T) T.JW hr AD (A1 (pv 1) A3)))) (A7 (BR (Bc Fs (pv 2) Am (BU _)) (AE (Aa (AM Ig (AM Ig (pv 0) (pv 1)) (Au T.MI)))) BO) (AE (Aa (Ag (y_ T) T.qt hr AD (A1 (AM Ih (pv 2) (Au T.IK)) A3)))))).Ak,?_⟩;lk;refine⟨hx,hy,?_⟩;rw[add_eq]at q;split
 .rename_i c;rw[if_pos c]at q;rw[SB.afk hx hy];split
  .rename_i c;rw[if_pos c]at q;exact q
  .rename_i c;rw[if_neg c]at q;exact q
 .rename_i c;rw[if_neg c]at q;have agi:∀z:Int,z*2^Hv 149=z*((2^149:Nat):Int):=λz=>by rw[<-SN.Eo];rfl
  have hp:0<2^149:=BF 149;refine⟨⟨D_ (qa x y) (by decide),by decide,by decide⟩,?_⟩;rw[agi,Ku,Fe];refine⟨D_ (NT (qa x y) (j:=150) (Lj (by decide) (by decide))) (by decide),?_⟩;rw[show decide ((units x+units y)*((2^149:Nat):Int)<0)=decide (units x+units y<0)from ?_]
  .exact q
  .generalize 2^149=B at*;refine decide_eq_decide.mpr ⟨λl=>?_,λl=>nJ l (by omega)⟩;by_cases c:units x+units y<0
   .exact c
   .have:=Yt (a:=units x+units y) (b:=(B:Int)) (by omega) (by omega);omega
def Xy(T:Txt K mg a):A_ P w K mg base 4 a.minus ["x","y"] (ab3 a):=by
 refine T.aip.En ara λAF A outer s H p0 p1 Q E hr h nd=>?_;obtain⟨x,y,rfl,rfl,hx,hy,q⟩:=h;refine⟨_,(AE (Aa (Ag (TN T) T.SO hr AD (A1 (pv 0) (A1 (Ag (aoA T) T.ajU hr AD (A1 (pv 1) A3)) A3))))).Ak,?_⟩;lk;exact⟨hy.1,hx,(yn hy).1,q⟩
def aap(q:Ans a ((near f).map (Jq b+ ·)) H Q E):
 Ans a (near f) H (λx H1=>L2.IG (λi j=>V.int (Lo i j)) x (V.int ((Jq b:Nat):Int)) H1 Q) E:=by
 cases e:near f with
 |none=>rw[e]at q;exact q
 |some s=>
  rw[e]at q;have:=Tt e;show IG _ _ _ _ _;lk;rw[SB.anu b (by lia)];exact q
def OV(T:Txt K mg a):A_ P w K mg base 2 a.times ["x","y"] (ac2 a):=by
 refine T.aj7.En atV λAF A outer s H p0 p1 Q E hr h nd=>?_;obtain⟨x,y,rfl,rfl,hx,hy,q⟩:=h;refine⟨_,(AE (Aa (AM WM (Ag (Wn T) T.V9 hr AD (A1 (CG fP (by rfl) T.fJ boot_abs (A1 (AM ID (Ag (Je T) T.JW hr AD (A1 (pv 0) A3)) (Ag (Je T) T.JW hr AD (A1 (pv 1) A3))) A3)) A3)) (AM Ig (AM jj (pv 0) (pv 1)) (Au T.MI))))).Ak,?_⟩;lk;refine⟨hx,hy,⟨D_ (JL x) (by decide),D_ (JL y) (by decide)⟩,?_⟩;rw[Ku,Ol,Ol];refine⟨D_ (NT (QO x) (QO y)) (by decide),?_⟩;rw[mul_eq]at q;simp only[SB.acZ hx hy];exact aap q
def yc(T:Txt K mg a):A_ P w K mg base 1 a.m7 ["fine","is_left"] abC:=by
 refine T.aiT.En atd λAF A outer s H p0 p1 Q E hr h nd=>?_;obtain⟨f,b,rfl,rfl,q⟩:=h;refine⟨_,(AE (Aa (WS (Hh (pv 1)) (AM WM (pv 0) Am) (pv 0)))).Ak,?_⟩;lk;rw[SB.or1];cases b with
 |true=>exact q
 |false=>exact q
def aqz(f:Nat)(b:Bool):DQ f b<=f+1:=by unfold DQ;split<;>lia
def zd(h:f<2^n)(hn:n<1000):DQ f b<2^1000:=by
 have h1:=aqz f b;have h2:2^n*2<=2^1000:=by rw[<-FH];exact EL (by decide) hn
 have h3:=BF n;generalize 2^n=B at*;generalize 2^1000=C at*;lia
def ze{M D:Nat}:(!decide ((M:Int)/(D:Int)*(D:Int)=(M:Int)))=decide (M %D≠0):=by
 rw[<-IT,<-CK];have h:=Gx M D;rw[BV]at h;generalize M/D*D=t at*;by_cases c:M %D=0
 .rw[show decide ((t:Int)=(M:Int))=true from decide_eq_true (by lia),show decide (M %D≠0)=false from decide_eq_false (by lia)];rfl
 .rw[show decide ((t:Int)=(M:Int))=false from decide_eq_false (by lia),show decide (M %D≠0)=true from decide_eq_true c];rfl
def anw{R:Nat->Bool->Prop}(h:M<2^n)(hn:n<1000)(hD:D≠0)(Q8:D<2^278)(q:R (M/D) (decide (M %D≠0))):
 pV (M:Int) (D:Int)/\pU ((M:Int)/(D:Int)) (D:Int)/\∃(f:Nat)(b:Bool),V.int ((M:Int)/(D:Int))=V.int (f:Int)/\V.bl (!decide ((M:Int)/(D:Int)*(D:Int)=(M:Int)))=V.bl b/\DQ f b<2^1000/\R f b:=by
 have hd:M/D<2^n:=FD (Nc _ _) h;refine⟨⟨by lia,?_⟩,⟨?_,?_⟩,M/D,_,?_,by rw[ze],zd hd hn,q⟩
 .rw[Fe];exact D_ Q8 (by decide)
 .rw[<-IT,Fe];exact D_ hd (by lia)
 .rw[Fe];exact D_ Q8 (by decide)
 .rw[IT]
def aoB(T:Txt K mg a):A_ P w K mg base 2 a.over ["x","y"] (ab8 a):=by
 refine T.aiu.En arh λAF A outer s H p0 p1 Q E hr h nd=>?_;obtain⟨x,y,rfl,rfl,hx,hy,q⟩:=h;refine⟨_,(A7 (AW (i:=2) nd rfl (A6 rfl) (CG fP (by rfl) T.fJ boot_abs (A1 (Ag (Je T) T.JW hr AD (A1 (pv 1) A3)) A3))) (A7 (BR (Bc Fs (pv 2) Am (BU _)) (AE (Ij rfl rfl CD (by rfl) T.V7 T.X7 (A1 EK A3))) BO) (A7 (AW (i:=3) nd rfl (A6 rfl) (AM Ih (CG fP (by rfl) T.fJ boot_abs (A1 (Ag (Je T) T.JW hr AD (A1 (pv 0) A3)) A3)) (AM Cr (Au T.IK) (Au T.IK)))) (A7 (AW (i:=4) nd rfl (A6 rfl) (AM K6 (pv 3) (pv 2))) (AE (Aa (AM WM (Ag (Wn T) T.V9 hr AD (A1 (Ag (yc T) T.qv hr AD (A1 (pv 4) (A1 (QZ IE (AM ID (pv 4) (pv 2)) (pv 3) (BU _)) A3))) A3)) (AM Ig (AM jj (pv 0) (pv 1)) (Au T.MI))))))))).Ak,?_⟩;lk;refine⟨hy,?_⟩;rw[Ol,Ol];split
 .rename_i c;rw[sN (by lia)]at q;exact⟨by decide,q⟩
 .rename_i c;rw[div_eq (by lia)]at q;have hB:(2:Nat)^298<2^299:=Lj (by decide) (by decide);have agk:(AR x:Int)*2^((149:Int)+149).toNat=((AR x*2^298:Nat):Int):=by rw[CK,<-SN.Eo];rfl
  rw[agk];refine⟨hx,⟨D_ (by rw[Fe];exact QO x) (by decide),by decide,by decide⟩,?_⟩;refine anw (R:=λf b=>Ans a (near (DQ f b)) H _ E) (NT (QO x) hB) (by decide) (by lia) (QO y) ?_;simp only[SB.acZ hx hy];exact aap q
def xF{n g:Nat}:((g:Int)+(n:Int)/(g:Int))/2=(((g+n/g)/2:Nat):Int):=by
 rw[IT,IV,IT];rfl
def aoM(T:Txt K mg a):A_ P w K mg base 1 a.m6 ["square"] ac6:=by
 refine T.aiS.Cy atc λAF A outer s H p0 Q E hr h nd=>?_;obtain⟨n,rfl,h0,h1,q⟩:=h;refine⟨_,(A7 (AW (i:=1) nd rfl (A6 rfl) (AM Ih Am (AM K6 (AM Cr (TY RN RG RH Tp (pv 0)) Am) Am))) (A7 (AW (i:=2) nd rfl (A6 rfl) (AM K6 (AM Cr (pv 1) (AM K6 (pv 0) (pv 1))) Am)) (A7 (xj Dd (Bc OY (pv 2) (pv 1) (BU _)) (A7 (AW (i:=1) nd rfl (A6 rfl) (pv 2)) (AE (AW (i:=2) nd rfl (A6 rfl) (AM K6 (AM Cr (pv 1) (AM K6 (pv 0) (pv 1))) Am))))) (AE (Aa (pv 1)))))).Ak,?_⟩;lk;have hb:bl n<=100:=aB h1;have e:(1:Int)*2^(((bl n:Nat):Int)+1).toNat=(2^(bl n+1):Nat):=by
  rw[US,SN.Eo];rfl
 have e2:((((bl n:Nat):Int)+1)/2).toNat=(bl n+1)/2:=by lia
 rw[fL,e2,US,SN.Eo];have hs:=anL (n:=n);have hp:=BF ((bl n+1)/2);have hq:2^((bl n+1)/2)<2^100:=Lj (by decide) (by lia);refine⟨⟨by decide,by decide⟩,⟨by decide,by lia,by lia⟩,?_⟩;generalize 2^((bl n+1)/2)=g0 at*;refine⟨⟨by lia,by rw[Fe];exact D_ hq (by decide)⟩,⟨by decide,by decide⟩,?_⟩;rw[xF];refine⟨λm σ H'=>H'=H/\∃g:Nat,m=g/\σ=[some (.int (n:Int)),some (.int (g:Int)),some (.int (((g+n/g)/2:Nat):Int))]/\0<g/\g<2^100/\n<(g+1)*(g+1),⟨_,rfl,g0,rfl,rfl,hp,hq,hs⟩,?_⟩;intro m σ H' AG;w_up;obtain⟨rfl,g,rfl,rfl,hg,Gp,hn⟩:=AG;fin2;lk;split
 .rename_i c;have c:(m+n/m)/2<m:=by lia
  have hb:0<(m+n/m)/2:=by
   by_cases h1:m=1
   .subst h1;rw[Nat.div_one];lia
   .generalize n/m=k;lia
  have st:=newton_step (n:=n) hg;generalize(m+n/m)/2=b at*;refine⟨_,λB1 H1 h=>h,?_⟩;refine⟨⟨by lia,by rw[Fe];exact D_ (Jr c Gp) (by decide)⟩,⟨by decide,by decide⟩,?_⟩;rw[xF];exact⟨b,c,rfl,b,rfl,rfl,hb,Jr c Gp,st⟩
 .rename_i c;exact q m (anK hg hn (by lia))
def aoH(T:Txt K mg a):A_ P w K mg base 2 a.root ["x"] (abD a):=by
 refine T.aj3.Cy atP λAF A outer s H p0 Q E hr h nd=>?_;obtain⟨x,rfl,hx,q⟩:=h;refine⟨_,(A7 (BR (Mr (Bc Fs (pv 0) (Au T.KD) (BU _)) (Od (Bc Fs (pv 0) (Au T.MI) (BU _)))).pt (AE (Aa (pv 0))) BO) (A7 (BR (Mq (Hh (Ag (kY T) T.fe hr AD (A1 (pv 0) A3)))) (AE (Ij rfl rfl CD (by rfl) T.V7 T.X7 (A1 EK A3))) BO) (A7 (AW (i:=1) nd rfl (A6 rfl) (AM Ih (Ag (Je T) T.JW hr AD (A1 (pv 0) A3)) (AM Cr (AM Cr (Au T.IK) (Au T.IK)) (Au T.IK)))) (A7 (AW (i:=2) nd rfl (A6 rfl) (AM K6 (AM Dn (TY RN RG RH Tp (pv 1)) (Au T.agD)) Am)) (A7 (AW (i:=3) nd rfl (A6 rfl) (AM OZ (pv 1) (AM Cr (pv 2) (pv 2)))) (A7 (AW (i:=4) nd rfl (A6 rfl) (Ag (aoM T) T.ajf hr AD (A1 (pv 3) A3))) (AE (Aa (Ag (Wn T) T.V9 hr AD (A1 (Ag (yc T) T.qv hr AD (A1 (AM Ih (pv 4) (pv 2)) (A1 (QZ IE (AM ID (pv 4) (pv 4)) (pv 3) (BU _)) A3))) A3)))))))))).Ak,?_⟩;lk;split
 .rename_i c;rw[lY ((Sx hx).mpr (A6 (by lia)))]at q;exact q
 rename_i c0;split
 .rename_i c;rw[lY ((Sx hx).mpr (C1 (by lia)))]at q;exact q
 rename_i c1;have hm:AR x≠0:=λz=>by rcases(Sx hx).mp z with z|z<;>lia
 split
 .rename_i c;have hn:IY x=false:=decide_eq_false (show¬2^31<=x by lia);w_up;obtain⟨a1,a2,a3,a4⟩:=Ke x;have ha:(UZ x).1≠0:=λz=>hm (QN.mpr z);obtain⟨T,hT⟩:∃T,T=447:=⟨_,rfl⟩;fin2;have agl:units x*2^((149:Int)+149+149).toNat=((AR x*2^T:Nat):Int):=by rw[Om hn,CK,<-SN.Eo,hT];rfl
  rw[agl,fL];w_up;obtain⟨lo,OI⟩:∃lo,lo=(bl (AR x*2^T)-54)/2:=⟨_,rfl⟩;obtain⟨sh,hs⟩:∃sh,sh=AR x*2^T/2^(lo+lo):=⟨_,rfl⟩;obtain⟨s1,s2,s3⟩:=zC (S:=AR x*2^T) (a:=(UZ x).1) (j:=((UZ x).2+149).toNat+T) (by rw[<-a1,BP];ac_rfl) ha a2 (by lia) OI hs;fin2;have hq:=λw=>z9 (w:=w) hT hm hn OI hs;have hS:AR x*2^T<2^(278+(T+1)):=NT (QO x) (Lj (by decide) (by lia));have W1:=aB hS;have B3:=L_ (AR x*2^T);generalize AR x*2^T=S at*;have alU:(((bl S:Nat):Int)-54)/2=(lo:Int):=by lia
  rw[alU,show((lo:Int)+(lo:Int)).toNat=lo+lo from by lia,show((lo:Int)).toNat=lo from rfl,SN.Eo,<-IT,<-hs,SN.Eo];have Se:sh<2^56:=by
   rw[hs];refine(NX (BF _)).mpr (CT B3 ?_);rw[<-BP];exact EL (by decide) (by lia)
  refine⟨hx,⟨D_ (JL x) (by decide),by decide,by decide⟩,⟨by decide,by decide⟩,by lia,sh,rfl,by lia,D_ Se (by decide),λw hw=>?_⟩;have vA:w<2^28:=by
   by_cases c:w<2^28
   .exact c
   .have:=GQ (ae_ c) (ae_ c);have:=hw.1;rw[show(2:Nat)^28*2^28=2^56 from rfl]at*;lia
  have NF:((w:Int)).natAbs<2^1000:=by rw[Fe];exact D_ vA (by decide)
  refine⟨⟨NF,by lia,by lia⟩,⟨NF,NF⟩,w*2^lo,decide (w*w≠sh),by rw[CK],?_,?_,?_⟩
  .congr 1;rw[<-CK];by_cases c:w*w=sh
   .rw[decide_eq_true (by omega),decide_eq_false (by lia)];rfl
   .rw[decide_eq_false (by lia),decide_eq_true (by lia)];rfl
  .exact zd (NT vA (Lj (by decide) (RR lo))) (by lia)
  .rw[<-hq w hw];exact q
 .rename_i c;rw[zA hm (decide_eq_true (show 2^31<=x by lia))]at q;exact⟨by decide,q⟩
end Sg
namespace Sg
open PySem PySem.Spec PyProof.Rows L2
variable{K:Ae}
def lV{lo:Int}(h0:0<L)(h1:L<2^30)(hl:0<=lo)(D4:lo<2^40)(hn:n*L<2^40):S7 lo (lo+((n*L:Nat):Int)) (L:Int) n:=by
 have hs:Tx lo (lo+((n*L:Nat):Int)) (L:Int)=(n:Int):=by
  unfold Tx;rw[if_pos (by lia)];by_cases hz:n=0
  .subst hz;rw[Du,if_neg (by lia)];rfl
  .have:1<=n*L:=EC (by lia) h0;rw[if_pos (by lia),show lo+((n*L:Nat):Int)-lo-1=((n*L-1:Nat):Int)from by lia,<-IT];have:(n*L-1)/L=n-1:=by
    obtain⟨k,rfl⟩:∃k,n=k+1:=⟨n-1,by lia⟩;rw[BE,BQ,Nat.add_sub_assoc h0,BV k L,Gz h0,Ff (by lia)];rfl
   rw[this];lia
 have uh:n<=n*L:=Ep n h0;refine⟨by lia,by lia,?_,hs⟩;unfold adR;rw[hs];generalize n*L=m at*;rw[if_pos (show(L:Int)>0 by lia)];simp only[avW,CH,RT,decide_eq_true_eq,beq_iff_eq];refine⟨⟨⟨⟨⟨?_,?_⟩,⟨?_,?_⟩⟩,⟨?_,?_⟩⟩,⟨?_,?_⟩⟩,C1 ⟨?_,?_⟩⟩<;>lia
def lC:Sp:=CS λv H Q _=>EN λvs ls=>Fm (AL H v vs) (AX H vs ls) (ls.flatten.length<=2^20) (DB H Q ls.flatten)
def Wm(T:Txt K mg a):A_ P w K mg base 1 a.joined ["lists"] lC:=by
 refine T.aio.Cy ar_ λAF A outer s H p0 Q E hr h nd=>?_;obtain⟨vs,ls,⟨p,rfl,hp⟩,hl,hz,q⟩:=h;refine⟨_,(A7 (AW (i:=1) nd rfl (A6 rfl) (Bn A3)) (A7 (E5 Dd rfl (De (pv 0)) (Ay (i:=2) nd rfl (A6 rfl)) (AE (Df (Fu Fd Tz YT cH (pv 1) (A1 (pv 2) A3))))) (AE (Aa (pv 1))))).Ak,?_⟩;lk;refine⟨by decide,λd n0=>⟨⟨_,A4.of (A2.one n0 _ _ hp)⟩,?_⟩⟩;refine HU (Lc (A4.of hp)) (λr σ H'=>A2 H H'/\Eb λacc rs o=>Fm (AX H r rs) (σ=[some (.ref p),some (.ref d),o]) (H' d=some (.lst acc)) (acc++rs.flatten=ls.flatten)) ⟨A2.one n0,[],ls,none,hl,rfl,AB,rfl⟩ (λ_ _ _ h=>h.1) ?_ ?_
 .rintro it r σ H1 H2-⟨s1,acc,rs,o,h1,rfl,h3,h4⟩ s2;cases rs with
  |nil=>exact h1.elim
  |cons l rs=>
   obtain⟨⟨b,rfl,hb⟩,h1⟩:=h1;have hlen:acc.length+l.length<=2^20:=by
    have:=congrArg Hy h4;rw[Bo,GP,Bo]at this;lia
   lk;refine⟨A6 ⟨rfl,_,A4.of (s2 _ _ h3)⟩,acc,l,s2 _ _ h3,s2 _ _ (s1 _ _ hb),B_ hlen,(s1.trans s2).own n0,acc++l,rs,_,h1,rfl,AB,?_⟩;rw[<-h4,GP,Hs]
 .rintro σ H1 ⟨s1,acc,rs,o,h1,rfl,h3,h4⟩;cases rs with
  |cons l rs=>exact h1.elim
  |nil=>
   lk;rw[List.flatten_nil,JD]at h4;rw[h4]at h3;exact q d H1 s1 n0 h3
def Xg:Sp:=Dq λv1 v2 H Q _=>EN λ(ls:List (List V))(L:Nat)=>ME (AL H v1 ls.flatten) (v2=.int (L:Int)) (0<L) (L<2^30) ((∀l∈ls,l.length=L)) (ls.flatten.length<=2^20) (∀p vs H',A2 H H'->H p=none->H' p=some (.lst vs)->AX H' vs ls->Q (.ref p) H')
def O6:∀{ls:List (List α)},(∀l∈ls,l.length=L)->ls.flatten.length=ls.length*L
 |[],_=>by simp
 |l::ls,h=>by
  rw[GP,Bo,h l Bu,O6 λx hx=>h x (Ba _ hx),B4,BE];lia
def bH:∀{ls:List (List α)}{i:Nat}{l:List α},(∀l∈ls,l.length=L)->ls[i]? =some l->(ls.flatten.drop (i*L)).take L=l
 |[],i,l,_,e=>by simp at e
 |x::ls,0,l,h,e=>by
  cases e;rw[Du,Nh,GP,<-h x Bu,List.take_left]
 |x::ls,i+1,l,h,e=>by
  rw[GP,BE,BQ,Fi,<-PN,show Zb L (x++ls.flatten)=ls.flatten from by rw[<-h x Bu,List.drop_left]];exact bH (λl hl=>h l (Ba _ hl)) e
def zT{α:Type}(ls:List α):∀n,n<=ls.length->(A8 n).mapM (λi=>ls[i]?)=some (ls.take n)
 |0,_=>rfl
 |n+1,h=>by
  rw[PZ,OR,zT ls n (by lia),Aq,ae2];rw[show ls[n]? =some (ls[n]'(by lia))from by simp];rfl
def jb{α:Type}(ls:List α):(A8 ls.length).mapM (λi=>ls[i]?)=some ls:=by rw[zT ls _ (Az _),Z1]
def Wo(T:Txt K mg a):A_ P w K mg base 1 a.parts ["numbers","length"] Xg:=by
 refine T.aiv.En ari λAF A outer s H p0 p1 Q E hr h nd=>?_;obtain⟨ls,L,⟨p,rfl,hp⟩,rfl,h0,h1,h2,h3,q⟩:=h;refine⟨_,(AE (Aa (Q_ (own:=[("start",2)]) rfl nd (Y5 (by rfl) T.Iu (A1 Am (A1 (CG EH (by rfl) T.E0 Dt (A1 (pv 0) A3)) (A1 (pv 1) A3)))) (Ck (by kernel_rfl)) (λ_ _ _ _ _=>(Ay (i:=2) nd rfl (A6 rfl))) (λ_ _ _ _ _=>Cg) (λ_ _ _ _ _=>(Jg (atj (K:=K) rfl) (pv 0) (Gs (pv 2)) (Gs (AM Cr (pv 2) (pv 1)))))))).Ak,?_⟩;lk;have hl:=O6 h2;rw[hl]at h3;refine⟨_,A6 (A4.of hp),ls.length,?_,?_⟩
 .rw[hl];have:=lV (lo:=0) (n:=ls.length) h0 h1 (by decide) (by decide) (by lia);rwa[IW]at this
 .refine So (λi=>ls[i]?) (λl v H=>AL H v l) (λ_=>True) XC (λ_ _=>rfl) ?_ ?_ (λ_ _ _=>trivial) ?_
  .rw[BJ];exact B_ (Ao (Ep _ h0) h3)
  .intro i hi H1 s1 Q' hq _;have hi:=BD.mp hi;lk;refine⟨_,A4.of (s1 _ _ hp),λb nb=>hq ls[i] (by simp[hi]) _ _ (A2.one nb) (wt ?_ nb)⟩;rw[AB,IW,<-CK,<-IV,bA,show i*L+L-i*L=L from by lia,bH (l:=ls[i]) h2 (by simp[hi])]
  .intro ys e b ws H1 s1 n1 hb al;rw[jb]at e;cases e;exact q b ws H1 s1 n1 hb (AX.of2 al)
def ac4(a:Ad):Sp:=Dq λv1 v2 H Q _=>EN λ(ls:List (List V))(s:Cu)=>Cn (AL H v1 ls.flatten) (BB a H v2 s) (Small s) (0<s.2.1*s.2.2) (s.2.1*s.2.2<2^30) ((∀l∈ls,l.length=s.2.1*s.2.2)) (ls.flatten.length<=2^20) (DB H Q (ls.map Lz).flatten)
def rD:∀(ls:List (List V)),(ls.map Lz).flatten.length=ls.flatten.length
 |[]=>rfl
 |l::ls=>by rw[BW,GP,GP,Bo,Bo,rD ls,RK]
def DB.mono(q:DB H Q l)(s:A2 H H1):DB H1 Q l:=λp H' s' n e=>q p H' (s.trans s') (s.free n) e
def ya(T:Txt K mg a):A_ P w K mg base 2 a.turned ["numbers","shape"] (ac4 a):=by
 refine T.aiR.En atb λAF A outer s H p0 p1 Q E hr h nd=>?_;obtain⟨ls,sh,hp,hs,sm,h0,h1,h2,h3,q⟩:=h;refine⟨_,(AE (Aa (Ag (Wm T) T.V8 hr AD (A1 (Q_ (own:=[("plane",2)]) rfl nd (De (Ag (Wo T) T.Ue hr AD (A1 (pv 0) (A1 (Cf (kX T) T.FQ T.iV hr AD (pv 1)) A3)))) (Ck (by kernel_rfl)) (λ_ _ _ _ _=>(Ay (i:=2) nd rfl (A6 rfl))) (λ_ _ _ _ _=>Cg) (λ_ _ _ _ _=>(apc (K:=K) rfl (pv 2) (Hf Hj Am)))) A3)))).Ak,?_⟩;unfold lE Xg lC;lk;obtain⟨x,dx,rfl,hx⟩:=id hs;refine⟨x,dx,_,rfl,hx,by kernel_rfl,sh,hs,sm,ls,_,hp,rfl,h0,h1,h2,h3,λp vs H1 s1 n1 BS hl=>⟨⟨vs,A4.of BS⟩,?_⟩⟩;obtain⟨z1,z2,z3⟩:=hl.zip;refine j3 (its:=vs.zip ls) (λit=>it.2.reverse) (CJ.of_map HN (by rw[z1];exact Lc (A4.of BS))) (λ_ _=>rfl) ?_ ?_ ?_
 .have:(vs.zip ls).length=ls.length:=by rw[<-congrArg Hy z2,AV]
  rw[this];rw[O6 h2]at h3;exact B_ (Ao (Ep _ h0) h3)
 .intro it hi H2 s2 Q' hq;obtain⟨b,e,hb⟩:=z3 it hi;rw[e];lk;exact⟨_,A4.of (s2 _ _ hb),λc nc=>hq c _ (A2.one nc) nc AB⟩
 .intro c ws H2 s2 n2 hc D4;refine⟨ws,_,⟨c,rfl,hc⟩,D4,?_,?_⟩
  .rw[show(vs.zip ls).map (λit=>it.2.reverse)=ls.map Lz from by rw[<-z2,CA,z2];rfl,rD];exact h3
  .rw[show(vs.zip ls).map (λit=>it.2.reverse)=ls.map Lz from by rw[<-z2,CA,z2];rfl];exact q.mono (s1.trans s2)
def b9(xs:List V)(s:Cu)(t b l r:Nat):List V:=(A8 s.1).flatMap λp=>(A8 (b-t)).flatMap λi=>(xs.drop ((p*s.2.1+(t+i))*s.2.2+l)).take (r-l)
def asx(a:Ad):Sp:=D9 λv1 v2 v3 H Q _=>Et λ(xs:List V)(s:Cu)(t b l r:Nat)=>Cn (AL H v1 xs) (BB a H v2 s) (Ud a H v3 (t:Int) (b:Int) (l:Int) (r:Int)) (Small s) (t<2^32) (b<2^32) ((b9 xs s t b l r).length<=2^20) (DB H Q (b9 xs s t b l r))
def G7{n:Nat}(h:n<2^200):((n:Int)).natAbs<2^1000:=by
 rw[Fe];exact CT h (EL (by decide) (by decide))
def rB(f:α->List β)(x:α)(r:List α)(acc B9:List β)(h:acc++(x::r).flatMap f=B9):acc.length+(f x).length<=B9.length:=by
 have:=congrArg Hy h;rw[Fx,Bo,Bo]at this;lia
def Xx(T:Txt K mg a):A_ P w K mg base 1 a.cut ["numbers","shape","box"] (asx a):=by
 refine T.ahR.Dc as7 λAF A outer s H p0 p1 p2 Q E hr h nd=>?_;obtain⟨xs,sh,t,b,l,r,⟨p,rfl,hp⟩,⟨x,dx,rfl,hx⟩,⟨y,dy,rfl,hy⟩,sm,ht,hb,hc,q⟩:=h;refine⟨_,(A7 (AW (i:=3) nd rfl (A6 rfl) (Bn A3)) (A7 (E5 Dd rfl (Oa (by rfl) T.Iu (A1 (AH (pv 1) rfl) A3)) (Ay (i:=4) nd rfl (A6 rfl)) (AE (E5 Dd rfl (ape (by rfl) T.Iu (A1 (AH (pv 2) rfl) (A1 (AH (pv 2) rfl) A3))) (Ay (i:=5) nd rfl (A6 rfl)) (A7 (AW (i:=6) nd rfl (A6 rfl) (AM ID (AM Cr (AM ID (pv 4) (AH (pv 1) rfl)) (pv 5)) (AH (pv 1) rfl))) (AE (Df (Fu Fd Tz YT cH (pv 3) (A1 (Jg Jj (pv 0) (Gs (AM Cr (pv 6) (AH (pv 2) rfl))) (Gs (AM Cr (pv 6) (AH (pv 2) rfl)))) A3)))))))) (AE (Aa (pv 3))))).Ak,?_⟩;lk;refine⟨by decide,λd n0=>?_⟩;have Qz:=A2.one (o:=.lst []) n0 _ _ hx;repeat (simp only[DX T Qz,DY T Qz,DW T Qz];lk)
 refine⟨by have:=sm.1;lia,by have:=sm.1;lia,?_⟩;w_up;obtain⟨m1,m2,m3⟩:=sm;fin2;refine HU (H0:=H) Ma (λr' σ H'=>A2 H H'/\Io λacc o1 o2 o3=>D1 (σ=[some (.ref p),some (.ref x),some (.ref y),some (.ref d),o1,o2,o3]) (H' d=some (.lst acc)) (acc++(r'.flatMap λp=>(A8 (b-t)).flatMap λi=>(xs.drop ((p*sh.2.1+(t+i))*sh.2.2+l)).take (r-l))=b9 xs sh t b l r)) ⟨A2.one n0,[],none,none,none,rfl,AB,by rw[show((sh.1:Nat):Int).toNat=sh.1 from rfl];rfl⟩ (λ_ _ _ h=>h.1) ?_ ?_
 .intro pl r' σ H1 H2 Ax AG s2;w_up;obtain⟨s1,acc,o1,o2,o3,rfl,h3,h4⟩:=AG;fin2;have Ax:pl<sh.1:=BD.mp Ax;have jX:=s2 _ _ (s1 _ _ hx);have R5:=s2 _ _ (s1 _ _ hy);lk;repeat (simp only[DX T jX,DY T jX,DW T jX,bO T R5,bL T R5,bM T R5,bN T R5];lk)
  refine⟨by lia,?_⟩;refine HU (H0:=H) Ma (λr2 σ H'=>A2 H H'/\Eb λIr o2 o3=>D1 (σ=[some (.ref p),some (.ref x),some (.ref y),some (.ref d),some (.int (0+(pl:Int))),o2,o3]) (H' d=some (.lst Ir)) (Ir++(r2.flatMap λi=>(xs.drop ((pl*sh.2.1+(t+i))*sh.2.2+l)).take (r-l))=acc++(A8 (b-t)).flatMap λi=>(xs.drop ((pl*sh.2.1+(t+i))*sh.2.2+l)).take (r-l))) ⟨s1.trans s2,acc,o2,o3,rfl,s2 _ _ h3,by rw[show((b:Int)-(t:Int)).toNat=b-t from by lia]⟩ (λ_ _ _ h=>h.1) ?_ ?_
  .intro i r2 σ H3 H4 hi AG s4;w_up;obtain⟨s3,Ir,o2,o3,rfl,k3,k4⟩:=AG;fin2;have hi:i<b-t:=by have:=BD.mp hi;lia
   have jY:=s4 _ _ (s3 _ _ hx);have cb:=s4 _ _ (s3 _ _ hy);lk;repeat (simp only[DX T jY,DY T jY,DW T jY,bO T cb,bL T cb,bM T cb,bN T cb];lk)
   have hm:pl*sh.2.1<2^32*2^32:=Ls (Jr Ax m1) m2;have e1:(0+(pl:Int))*(sh.2.1:Int)+((t:Int)+(i:Int))=((pl*sh.2.1+(t+i):Nat):Int):=by rw[IW,IV,CK,IV]
   simp only[e1];simp only[<-CK,<-IV,bA,Nat.add_sub_add_left];have hlen:=rB _ _ _ _ _ h4;have alS:=rB _ _ _ _ _ k4;rw[Bo]at alS;refine⟨⟨by rw[IW];exact G7 (by lia),G7 (by lia)⟩,⟨G7 (by lia),G7 (by lia)⟩,A6 ⟨rfl,_,A4.of (s4 _ _ k3)⟩,xs,A4.of (s4 _ _ (s3 _ _ hp)),λe ne=>?_⟩;have de:d≠e:=Dm (s4 _ _ k3) ne;refine⟨Ir,_,by rw[AY de];exact s4 _ _ k3,AB,B_ (by lia),((s3.trans s4).new ne).own n0,_,_,_,rfl,AB,?_⟩;rw[<-k4,Fx,Hs]
  .intro σ H3 AG;w_up;obtain⟨s3,Ir,o2,o3,rfl,k3,k4⟩:=AG;fin2;refine⟨s3,Ir,_,_,_,rfl,k3,?_⟩;rw[nq,JD]at k4;rw[k4,<-h4,Fx,Hs]
 .intro σ H1 AG;w_up;obtain⟨s1,acc,o1,o2,o3,rfl,h3,h4⟩:=AG;fin2;lk;rw[nq,JD]at h4;rw[h4]at h3;exact q d H1 s1 n0 h3
open PySem PySem.Spec PyProof.Rows L2 SN
def Ce(fine:Bool)(x:Nat):V:=if fine=true then .int (fv x)else .int (x:Int)
def im(fine:Bool)(x:Nat):V:=if fine=true then .int (units x)else .int (x:Int)
structure Rz(B:Nat)(xs ys:List Nat):Prop where
 lo:149<=B
 hi:B+17<426
 pr:∀x∈xs,∀y∈ys,AR x*AR y<=2^B
def ab4:Sp:=CS λv H Q _=>∃xs:List Int,D1 (AL H v (Iv xs)) (xs.length<=2^20) (∀H',A2 H H'->Q (.int (Kb (xs.map λz=>(bl z.natAbs:Int)))) H')
def kZ(T:Txt K mg a):A_ P w K mg base 1 a.ib ["counts"] ab4:=by
 refine T.air.Cy arc λAF A outer s H p0 Q E hr h nd=>?_;obtain⟨xs,⟨p,rfl,hp⟩,hz,q⟩:=h;refine⟨_,(AE (Aa (apZ rfl (by rfl) T.S8 (A1 (Q_ (own:=[("count",1)]) rfl nd (De (pv 0)) (Ck (by kernel_rfl)) (λ_ _ _ _ _=>(Ay (i:=1) nd rfl (A6 rfl))) (λ_ _ _ _ _=>Cg) (λ_ _ _ _ _=>(apP (K:=K) rfl RN RG RH Tp (pv 1)))) A3) Am))).Ak,?_⟩;lk;refine⟨⟨_,A4.of hp⟩,?_⟩;refine K0 (its:=xs) (λz=> .int ((bl z.natAbs:Nat):Int)) (CJ.of_map V.int (Lc (A4.of hp))) (λ_ _=>rfl) (B_ hz) (λz _ H1 s1 Q' hq=>?_) λd H1 s1 n1 hd=>?_
 .lk;rw[aA];exact hq _ (A2.refl _)
 .refine⟨d,xs.map λz:Int=>((bl z.natAbs:Nat):Int),rfl,A4.of (by rw[hd,CA];rfl),λn hn=>?_,q _ s1⟩;obtain⟨z,_,rfl⟩:=Ca.mp hn;lia
def Zv(s x y:Nat)(r:List (Nat×Nat)):Bf s ((x,y)::r)=(BC x y).bind λm=>(DJ s m).bind λt=>Bf t r:=rfl
def aax(a:Ad):Sp:=D9 λv1 v2 v3 H Q E=>Eb λ(s:Nat)(xs ys:List Nat)=>ME (v1=.int (s:Int)) (AL H v2 (Nv xs)) (AL H v3 (Nv ys)) (AI s) ((∀x∈xs,AI x)) ((∀x∈ys,AI x)) (match Bf s (xs.zip ys)with
 |some z=>∀H',A2 H H'->Q (.int (z:Int)) H'
 |none=>∀H',A2 H H'->E (.ref a.DC) none H')
def ao2(T:Txt K mg a):A_ P w K mg base 4 a.gJ ["start","left","right"] (aax a):=by
 refine T.ahK.Dc as0 λAF A outer s H p0 p1 p2 Q E hr h nd=>?_;obtain⟨s0,xs,ys,rfl,⟨p,rfl,hp⟩,⟨p',rfl,FW⟩,hs,hx,hy,q⟩:=h;refine⟨_,(A7 (AW (i:=3) nd rfl (A6 rfl) (pv 0)) (A7 (E5 Dd rfl (Mn (by rfl) T.LZ (A1 (pv 1) (A1 (pv 2) A3))) (Lg (n:=2) rfl (Cs (Ay (i:=4) nd rfl (A6 rfl)) (Cs (Ay (i:=5) nd rfl (A6 rfl)) Hg))) (AE (AW (i:=3) nd rfl (A6 rfl) (Ag (TN T) T.SO hr AD (A1 (pv 3) (A1 (Ag (OV T) T.O9 hr AD (A1 (pv 4) (A1 (pv 5) A3))) A3)))))) (AE (Aa (pv 3))))).Ak,?_⟩;lk;refine⟨_,_,A4.of hp,A4.of FW,?_⟩;refine HU (Mb _ _ (A4.of hp) (A4.of FW)) (λr σ H'=>A2 H H'/\Eb λ(t:Nat)(o1 o2:Option V)=>D1 (σ=[some (.int (s0:Int)),some (.ref p),some (.ref p'),some (.int (t:Int)),o1,o2]) (AI t) (Bf t r=Bf s0 (xs.zip ys))) ⟨A2.refl H,s0,none,none,rfl,hs,rfl⟩ (λ_ _ _ h=>h.1) ?_ ?_
 .intro AG r σ H1 H2 hm EI s2;w_up;obtain⟨x,y⟩:=AG;obtain⟨s1,t,o1,o2,rfl,ht,e⟩:=EI;obtain⟨Jz,Vp⟩:=GX hm;fin2;lk;refine⟨(hx x Jz).1,(hy y Vp).1,?_⟩;rw[Zv]at e;cases em:BC x y with
  |none=>
   rw[em]at e;rw[<-e]at q;exact q _ (s1.trans s2)
  |some m=>
   rw[em,Aq]at e;show∃x y,_;lk;refine⟨ht.1,(OS em).1,?_⟩;cases ea:DJ t m with
   |none=>
    rw[ea]at e;rw[<-e]at q;exact q _ (s1.trans s2)
   |some z=>
    rw[ea,Aq]at e;exact⟨s1.trans s2,z,_,_,rfl,MM ea,e⟩
 .intro σ H1 AG;w_up;obtain⟨s1,t,o1,o2,rfl,ht,e⟩:=AG;fin2;lk;rw[<-e]at q;exact q _ s1
def zO(z:Int)(d:Nat):(SN.rI z d).natAbs<=z.natAbs:=by
 have h:=XT (N:=z.natAbs) (D:=2^d) (n:=z.natAbs) (BF d) (Ep _ (BF d));unfold SN.rI;split<;>omega
def aaw:Sp:=D9 λv1 v2 v3 H Q E=>Io λ(s:Nat)(xs ys:List Nat)(B:Nat)=>Cn (v1=.int (fv s)) (AL H v2 (Iv (xs.map units))) (AL H v3 (Iv (ys.map units))) (AI s) (s≠2^31) ((fv s).natAbs<=2^B) (Rz B xs ys) (((xs.zip ys).length<2^17)/\∀z,Bf s (xs.zip ys)=some z->AI z->z≠2^31->∀H',A2 H H'->Q (.int (fv z)) H')
def aop(T:Txt K mg a):A_ P w K mg base 1 a.gI ["start","left","right"] aaw:=by
 refine T.ahn.Dc arz λAF A outer s H p0 p1 p2 Q E hr h nd=>?_;obtain⟨s0,xs,ys,B,rfl,⟨p,rfl,hp⟩,⟨p',rfl,FW⟩,hs,GD,hB,F,hz,q⟩:=h;refine⟨_,(A7 (AW (i:=3) nd rfl (A6 rfl) (pv 0)) (A7 (E5 Dd rfl (Mn (by rfl) T.LZ (A1 (pv 1) (A1 (pv 2) A3))) (Lg (n:=2) rfl (Cs (Ay (i:=4) nd rfl (A6 rfl)) (Cs (Ay (i:=5) nd rfl (A6 rfl)) Hg))) (A7 (AW (i:=6) nd rfl (A6 rfl) (AM ID (pv 4) (pv 5))) (AE (BR (Bc IE (pv 6) Am (BU _)) (A7 (AW (i:=7) nd rfl (A6 rfl) (AM Dn (TY RN RG RH Tp (pv 6)) (Au T.dH))) (A7 (BR (Bc OY (pv 7) (Au T.IK) (BU _)) (AE (AW (i:=7) nd rfl (A6 rfl) (Au T.IK))) BO) (A7 (AW (i:=8) nd rfl (A6 rfl) (AM OZ (pv 6) (AM Dn (pv 7) Am))) (A7 (BR (Td (Tc (AM Ig (pv 8) Am) (λ_=>rfl)) (Te (Mr (Tc (AM Ig (pv 8) Am) (λ_=>rfl)) (Od (Bc IE (AM Ih (pv 8) (AM Dn (pv 7) Am)) (pv 6) (BU _)))).pt)).pt (AE (WZ (i:=8) nd rfl (A6 rfl) Am bW)) BO) (A7 (WZ (i:=3) nd rfl (A6 rfl) (AM Ih (AM OZ (pv 8) Am) (pv 7)) bW) (A7 (AW (i:=7) nd rfl (A6 rfl) (AM Dn (TY RN RG RH Tp (pv 3)) (Au T.dH))) (AE (BR (Bc Ml (pv 7) (Au T.IK) (BU _)) (A7 (AW (i:=8) nd rfl (A6 rfl) (AM OZ (pv 3) (AM Dn (pv 7) Am))) (A7 (BR (Td (Tc (AM Ig (pv 8) Am) (λ_=>rfl)) (Te (Mr (Tc (AM Ig (pv 8) Am) (λ_=>rfl)) (Od (Bc IE (AM Ih (pv 8) (AM Dn (pv 7) Am)) (pv 3) (BU _)))).pt)).pt (AE (WZ (i:=8) nd rfl (A6 rfl) Am bW)) BO) (AE (AW (i:=3) nd rfl (A6 rfl) (AM Ih (AM OZ (pv 8) Am) (pv 7)))))) BO)))))))) BO)))) (AE (Aa (pv 3))))).Ak,?_⟩;lk;refine⟨_,_,A4.of hp,A4.of FW,?_⟩;refine HU (Mb (xs:=xs) (ys:=ys) (λx=> .int (units x)) (λx=> .int (units x)) (A4.of (by rw[hp,Iv,CA];rfl)) (A4.of (by rw[FW,Iv,CA];rfl))) (λr σ H'=>A2 H H'/\∃(t c:Nat)(o1 o2 o3 o4 o5:Option V),σ=[some (.int (fv s0)),some (.ref p),some (.ref p'),some (.int (fv t)),o1,o2,o3,o4,o5]/\AI t/\t≠2^31/\(fv t).natAbs<=c*2^B/\c+r.length<=2^17/\Bf t r=Bf s0 (xs.zip ys)) ⟨A2.refl H,s0,1,none,none,none,none,none,rfl,hs,GD,by lia,by lia,rfl⟩ (λ_ _ _ h=>h.1) ?_ ?_
 .intro AG r σ H1 H2 hm EI s2;w_up;obtain⟨x,y⟩:=AG;obtain⟨s1,t,c,o1,o2,o3,o4,o5,rfl,ht,mJ,hT,hc,e⟩:=EI;obtain⟨Jz,Vp⟩:=GX hm;rw[B4]at hc;have hA:=F.pr x Jz y Vp;obtain⟨pr,z,f1,f2,f3,f4,f5,f6⟩:=r9 F.lo F.hi (by lia) ht mJ hA hT;fin2;rw[Zv,f1,Aq,f2,Aq]at e;have fin:∀o1 o2 o3 o4 o5:Option V,A2 H H2/\∃(t c:Nat)(o1' o2' o3' o4' o5':Option V),[some (.int (fv s0)),some (.ref p),some (.ref p'),some (.int (fv z)),o1,o2,o3,o4,o5]=[some (.int (fv s0)),some (.ref p),some (.ref p'),some (.int (fv t)),o1',o2',o3',o4',o5']/\AI t/\t≠2^31/\(fv t).natAbs<=c*2^B/\c+r.length<=2^17/\Bf t r=Bf s0 (xs.zip ys):=
   λo1 o2 o3 o4 o5=>⟨s1.trans s2,z,c+1,o1,o2,o3,o4,o5,rfl,f5,f4,f6,by lia,e⟩
  refine cut λU hU=>?_;lk;refine⟨⟨D_ (JL x) (by decide),D_ (JL y) (by decide)⟩,?_⟩;subst hU;unfold Q1 at f3;have jF:(units x*units y).natAbs<2^(278+278):=by rw[Ku];exact NT (JL x) (JL y)
  have hpB:(units x*units y).natAbs<=2^B:=by rw[Ku,Ol,Ol];exact hA
  generalize units x*units y=m at*;simp only[je,lM,lK,lO,lN,jd,zW,jc,iw,iu];split
  .rename_i m0;rw[if_pos m0]at f3;rw[kE,f3];exact fin _ _ _ _ _
  rename_i m0;rw[if_neg m0]at f3;have hd:dr m.natAbs<=1000:=fc (D_ jF (by decide));have tV:149<=dr m.natAbs:=YW _ _;refine cut λU hU=>?_;lk;subst hU;refine cut λU hU=>?_;lk
  suffices key:U [some (.int (fv s0)),some (.ref p),some (.ref p'),some (.int (fv t)),some (.int (units x)),some (.int (units y)),some (.int m),some (.int (dr m.natAbs:Int)),o5] H2 from by
   rw[aA];split
   .rename_i c;rw[show dr m.natAbs=149 from by unfold dr;lia]at key;exact key
   .rename_i c;rw[show(dr m.natAbs:Int)=(bl m.natAbs:Int)-24 from by unfold dr;lia]at key;exact key
  subst hU;refine cut λU hU=>?_;lk;refine⟨by lia,?_⟩;subst hU;refine cut λU hU=>?_;lk;refine iR (R:=λh=>U [some (.int (fv s0)),some (.ref p),some (.ref p'),some (.int (fv t)),some (.int (units x)),some (.int (units y)),some (.int m),some (.int (dr m.natAbs:Int)),some (.int h)] H2) (by lia) hd (D_ jF (by decide)) rfl λh' e'=>?_;subst hU;refine cut λU hU=>?_;lk;have e1:h'/2^Hv 1=SN.rI m (dr m.natAbs):=e';rw[e1,show((dr m.natAbs:Nat):Int).toNat=dr m.natAbs from rfl];refine⟨by decide,⟨FD (zO _ _) (D_ jF (by decide)),by lia,by lia⟩,?_⟩;have SV:(SN.rI m (dr m.natAbs)*2^dr m.natAbs).natAbs<=2^B:=by
   rw[Ku,SN.Eo,Fe];have:(SN.rI m (dr m.natAbs)).natAbs=Bd m.natAbs (2^dr m.natAbs):=by unfold SN.rI;split<;>lia
   rw[this];have:=XS (f:=m.natAbs) (c:=1) F.lo (by decide) (by lia);lia
  have Vk:(fv t+SN.rI m (dr m.natAbs)*2^dr m.natAbs).natAbs<2^900:=by
   have h2:(fv t).natAbs<2^899:=by
    refine D_ (i:=278+150) ?_ (by decide);unfold fv;rw[Ku,SN.Eo,Fe];exact NT (JL t) (Lj (by decide) (by decide))
   have h3:2^B<2^899:=Lj (by decide) (by have:=F.hi;lia);rw[FH,Nat.mul_two];exact FD (YY ..) (aej h2 (FD SV h3))
  subst hU;generalize fv t+SN.rI m (dr m.natAbs)*2^dr m.natAbs=t1 at*;refine cut λU hU=>?_;lk;rw[aA];subst hU;simp only[je,lM,lK,lO,lN,jd,zV,jc,iw,iu];have f3:(if 149<bl t1.natAbs-24 then SN.rI t1 (bl t1.natAbs-24)*2^(bl t1.natAbs-24)else t1)=fv z:=f3;split
  .rename_i c1;rw[if_pos (by lia)]at f3;have hb:=aB Vk;rw[show((bl t1.natAbs:Nat):Int)-24=((bl t1.natAbs-24:Nat):Int)from by lia];have akV:0<bl t1.natAbs-24:=by lia
   have W5:bl t1.natAbs-24<=1000:=by lia
   generalize bl t1.natAbs-24=d at*;refine cut λU hU=>?_;lk;refine⟨by lia,?_⟩;subst hU;refine cut λU hU=>?_;lk;refine iR (R:=λh=>U [some (.int (fv s0)),some (.ref p),some (.ref p'),some (.int t1),some (.int (units x)),some (.int (units y)),some (.int m),some (.int (d:Int)),some (.int h)] H2) akV W5 (D_ Vk (by decide)) rfl λh2 e2=>?_;subst hU;lk;rw[show h2/2^Hv 1=SN.rI t1 d from e2,show((d:Nat):Int).toNat=d from rfl,f3];exact⟨by decide,⟨FD (zO _ _) (D_ Vk (by decide)),by lia,by lia⟩,fin _ _ _ _ _⟩
  .rename_i c1;rw[if_neg (by lia)]at f3;rw[kE,f3];exact fin _ _ _ _ _
 .intro σ H1 AG;w_up;obtain⟨s1,t,c,o1,o2,o3,o4,o5,rfl,ht,mJ,hT,hc,e⟩:=AG;fin2;lk;exact q t e.symm ht mJ _ s1
def O7(x y z:V):List (Str×V):=[("starts",x),("left",y),("right",z)]
def ajz(T:Txt K mg a){H:Hp}(h:H p=some (.ins a.CF dx (O7 x0 x1 x2)))(R:V->Prop):
 (∃a C dx fs v,V.ref p=.ref a/\H a=some (.ins C dx fs)/\B8 K C/\Ap K C "starts"/\fs.lookup ("starts":Str)=some v/\R v)=R x0:=Bq h T.E1 T.bT (by kernel_rfl) R
def ajx(T:Txt K mg a){H:Hp}(h:H p=some (.ins a.CF dx (O7 x0 x1 x2)))(R:V->Prop):
 (∃a C dx fs v,V.ref p=.ref a/\H a=some (.ins C dx fs)/\B8 K C/\Ap K C "left"/\fs.lookup ("left":Str)=some v/\R v)=R x1:=Bq h T.E1 T.bR (by kernel_rfl) R
def ajy(T:Txt K mg a){H:Hp}(h:H p=some (.ins a.CF dx (O7 x0 x1 x2)))(R:V->Prop):
 (∃a C dx fs v,V.ref p=.ref a/\H a=some (.ins C dx fs)/\B8 K C/\Ap K C "right"/\fs.lookup ("right":Str)=some v/\R v)=R x2:=Bq h T.E1 T.bS (by kernel_rfl) R
def tb(l:List Int):Int:=Kb (l.map λz=>(bl z.natAbs:Int))
def stays(st lf rt:List Int):Bool:=decide (max (max (tb lf+tb rt) 149) (tb st)+17<426)
def aam(a:Ad):Sp:=CS λv H Q _=>Et λ(p dx:A0)(x0 x1 x2:V)(st:List Int)=>EN λ(lf rt:List Int)=>Cn (v=.ref p) (H p=some (.ins a.CF dx (O7 x0 x1 x2))) (AL H x0 (Iv st)) (AL H x1 (Iv lf)) (AL H x2 (Iv rt)) (st.length<=2^20) (lf.length<=2^20) ((rt.length<=2^20)/\∀H',A2 H H'->Q (.bl (stays st lf rt)) H')
def aoo(T:Txt K mg a):A_ P w K mg base 2 a.gB ["self"] (aam a):=by
 refine T.ahm.Cy ary λAF A outer s H p0 Q E hr h nd=>?_;obtain⟨p,dx,x0,x1,x2,st,lf,rt,rfl,hp,h0,h1,h2,z0,z1,z2,q⟩:=h;refine⟨_,(A7 (AW (i:=1) nd rfl (A6 rfl) (AM Cr (Ag (kZ T) T.i9 hr AD (A1 (AH (pv 0) rfl) A3)) (Ag (kZ T) T.i9 hr AD (A1 (AH (pv 0) rfl) A3)))) (AE (Aa (QZ OY (AM Cr (CG (agw rfl) (by rfl) T.S8 boot_max (A1 (pv 1) (A1 (Au T.IK) (A1 (Ag (kZ T) T.i9 hr AD (A1 (AH (pv 0) rfl) A3)) A3)))) (Au T.agJ)) (Au T.ag5) (BU _))))).Ak,?_⟩;unfold ab4;lk;rw[ajx T hp];refine⟨lf,h1,z1,λH1 s1=>?_⟩;rw[ajy T (s1 _ _ hp)];refine⟨rt,h2.mono s1,z2,λH2 s2=>?_⟩;lk;rw[ajz T (s2 _ _ (s1 _ _ hp))];refine⟨st,(h0.mono s1).mono s2,z0,λH3 s3=>?_⟩;lk;exact q _ ((s1.trans s2).trans s3)
def MF(fine:Bool)(st lf rt:List Nat):Prop:=fine=true->∃B,Rz B lf rt/\∀s∈st,s≠2^31/\(fv s).natAbs<=2^B
def mT(h:z∈l):((bl z.natAbs:Nat):Int)<=tb l:=mX _ _ _ (Ca.mpr ⟨z,h,rfl⟩)
def aur{st lf rt:List Nat}(h:stays (st.map fv) (lf.map units) (rt.map units)=true)(GD:2^31∉st):MF true st lf rt:=by
 intro _;have h:=of_decide_eq_true h;have m2:=Kp (ng (tb (lf.map units)+tb (rt.map units)) 149) (RS _ (tb (st.map fv)));have m1:=Kp (RS (tb (lf.map units)+tb (rt.map units)) 149) (RS _ (tb (st.map fv)));have m3:=ng (max (tb (lf.map units)+tb (rt.map units)) 149) (tb (st.map fv));change max (max (tb (lf.map units)+tb (rt.map units)) 149) (tb (st.map fv))+17<426 at h;obtain⟨B,hB⟩:=NU (Kp (by decide) m2);rw[hB]at h m1 m2 m3;clear hB;refine⟨B,⟨oZ.1 m2,by lia,λx hx y hy=>?_⟩,λs hs=>⟨λz=>GD (z▸hs),?_⟩⟩
 .have h1:=mT (Ca.mpr ⟨x,hx,rfl⟩:units x∈lf.map units);have h2:=mT (Ca.mpr ⟨y,hy,rfl⟩:units y∈rt.map units);rw[Ol]at h1 h2;refine Ht (D_ (NT (L_ (AR x)) (L_ (AR y))) ?_);exact oZ.1 (Kp (Int.add_le_add h1 h2) m1)
 .have h1:=mT (Ca.mpr ⟨s,hs,rfl⟩:fv s∈st.map fv);exact Ht (D_ (L_ _) (oZ.1 (Kp h1 m3)))
def aan(a:Ad):Sp:=Hi λv1 v2 v3 v4 H Q _=>Es λ(p dx:A0)(st lf rt:List Nat)=>Cn (v1=.ref p) (H p=some (.ins a.CF dx [])) (AL H v2 (Nv st)) (AL H v3 (Nv lf)) (AL H v4 (Nv rt)) (st.length<=2^20) (lf.length<=2^20) (Im (rt.length<=2^20) ((∀x∈st,AI x)) ((∀x∈lf,AI x)) ((∀x∈rt,AI x)) (∀x0 x1 x2 fine H',Ac p H H'->H' p=some (.ins a.CF dx (E2 x0 x1 x2 (.bl fine)))->AL H' x0 (st.map (Ce fine))->AL H' x1 (lf.map (im fine))->AL H' x2 (rt.map (im fine))->MF fine st lf rt->Q .Ah H'))
def AL.keep(h:AL H v l)(hp:H p=some (.ins C dx fs))(k:Ac p H H'):AL H' v l:=by
 obtain⟨b,rfl,hb⟩:=h;exact⟨b,rfl,k b _ hb λz=>by rw[z,hp]at hb;cases hb⟩
def uY:∀(st:List Nat),Sl (.int 2147483648) (Nv st)=decide (2^31∈st)
 |[]=>rfl
 |x::st=>by
  show(LF (.int (x:Int)) (.int 2147483648)||Sl (.int 2147483648) (Nv st))=_;rw[uY st,Lv];rw[RT,decide_eq_true_eq,decide_eq_true_eq,B2];refine or_congr_left ?_;show((x:Int)==2147483648)=true↔_;rw[beq_iff_eq];lia
def aic(st:List Nat):(Nv st).all KI=true:=EY.mpr λv hv=>by
 obtain⟨x,_,rfl⟩:=Ca.mp hv;rfl
def put3(x y z:V):AS "right" z (AS "left" y (AS "starts" x []))=O7 x y z:=by kernel_rfl
def xk(x y z b:V):AS "are_fine" b (O7 x y z)=E2 x y z b:=by kernel_rfl
def ap9(x y z b x':V):AS "starts" x' (E2 x y z b)=E2 x' y z b:=by kernel_rfl
def apA(x y z b x':V):AS "left" x' (E2 x y z b)=E2 x x' z b:=by kernel_rfl
def apB(x y z b x':V):AS "right" x' (E2 x y z b)=E2 x y x' b:=by kernel_rfl
def OM(f:Nat->Int)(xs:List Nat):Iv (xs.map f)=xs.map λx=>V.int (f x):=by rw[Iv,CA];rfl
def Xw(T:Txt K mg a):A_ P w K mg base 3 a.gA ["self","starts","left","right"] (aan a):=by
 refine T.ahl.J7 arx λAF A outer s H p0 p1 p2 p3 Q E hr h nd=>?_;obtain⟨p,dx,st,lf,rt,rfl,hp,⟨b0,rfl,h0⟩,⟨b1,rfl,h1⟩,⟨b2,rfl,h2⟩,z0,z1,z2,f0,f1,f2,q⟩:=h;refine⟨_,(A7 (C9 (pv 0) (FZ (own:=[("single",4)]) rfl rfl rfl CD rfl nd (De (pv 1)) (Ck (by kernel_rfl)) (λ_ _ _ _ _=>(Ay (i:=4) nd rfl (A6 rfl))) (λ_ _ _ _ _=>Cg) (λ_ _ _ _ _ _ _ An=>(AM Ih (Ag (Je T) T.JW hr An (A1 (pv 4) A3)) (Au T.IK)))) rfl) (A7 (C9 (pv 0) (FZ (own:=[("single",4)]) rfl rfl rfl CD rfl nd (De (pv 2)) (Ck (by kernel_rfl)) (λ_ _ _ _ _=>(Ay (i:=4) nd rfl (A6 rfl))) (λ_ _ _ _ _=>Cg) (λ_ _ _ _ _ _ _ An=>(Ag (Je T) T.JW hr An (A1 (pv 4) A3)))) rfl) (A7 (C9 (pv 0) (FZ (own:=[("single",4)]) rfl rfl rfl CD rfl nd (De (pv 3)) (Ck (by kernel_rfl)) (λ_ _ _ _ _=>(Ay (i:=4) nd rfl (A6 rfl))) (λ_ _ _ _ _=>Cg) (λ_ _ _ _ _ _ _ An=>(Ag (Je T) T.JW hr An (A1 (pv 4) A3)))) rfl) (A7 (C9 (pv 0) (apM (QZ ym (Au T.MI) (pv 1) (by with_unfolding_all rfl)) (apb (Cf (aoo T) T.E1 T.amY hr AD (pv 0)))) rfl) (AE (BR (Mq (Hh (AH (pv 0) rfl))) (A7 (C9 (pv 0) (pv 1) rfl) (A7 (C9 (pv 0) (pv 2) rfl) (AE (C9 (pv 0) (pv 3) rfl)))) BO)))))).Ak,?_⟩;refine cut λU hU=>?_;lk;refine⟨⟨_,A4.of h0⟩,K0 (its:=st) (λx=> .int (fv x)) (IJ _ (A4.of h0)) (λ_ _=>rfl) (B_ z0) (λx hx HH sH Q' hq=>?_) λd0 HA sA nA hA=>?_⟩
 .lk;refine⟨(f0 x hx).1,⟨D_ (JL x) (by decide),by decide,by decide⟩,?_⟩;rw[show Hv 149=149 from rfl];exact hq _ (A2.refl _)
 have pA:=sA _ _ hp;have kA:Ac p H HA:=(Ac.refl p H).same sA;refine⟨p,_,_,_,rfl,pA,T.E1,T.bT,by decide,?_⟩;obtain⟨HB,eB⟩:∃HB,HB=upd HA p (.ins a.CF dx (AS "starts" (.ref d0) [])):=⟨_,rfl⟩;rw[<-eB];subst hU;refine cut λU hU=>?_;lk;have pB:HB p=some (.ins a.CF dx (AS "starts" (.ref d0) [])):=by rw[eB,AB]
 have bZ:Ac p HA HB:=by rw[eB];exact(Ac.refl p HA).upd
 have aT:AL HB (.ref b1) (Nv lf):=(AL.mono ⟨b1,rfl,h1⟩ sA).keep pA bZ;obtain⟨_,ee,aT⟩:=aT;cases ee;refine⟨⟨_,A4.of aT⟩,K0 (its:=lf) (λx=> .int (units x)) (IJ _ (A4.of aT)) (λ_ _=>rfl) (B_ z1) (λx hx HH sH Q' hq=>?_) λd1 HC sC nC hC=>?_⟩
 .lk;exact⟨(f1 x hx).1,hq _ (A2.refl _)⟩
 have pC:=sC _ _ pB;refine⟨p,_,_,_,rfl,pC,T.E1,T.bR,(by show 1<1000;decide),?_⟩;obtain⟨HD,eD⟩:∃HD,HD=upd HC p (.ins a.CF dx (AS "left" (.ref d1) (AS "starts" (.ref d0) []))):=⟨_,rfl⟩;rw[<-eD];subst hU;refine cut λU hU=>?_;lk;have pD:HD p=some (.ins a.CF dx (AS "left" (.ref d1) (AS "starts" (.ref d0) []))):=by rw[eD,AB]
 have b_:Ac p HC HD:=by rw[eD];exact(Ac.refl p HC).upd
 have Q8:AL HD (.ref b2) (Nv rt):=(((AL.mono ⟨b2,rfl,h2⟩ sA).keep pA bZ).mono sC).keep pC b_;obtain⟨_,ee,Q8⟩:=Q8;cases ee;refine⟨⟨_,A4.of Q8⟩,K0 (its:=rt) (λx=> .int (units x)) (IJ _ (A4.of Q8)) (λ_ _=>rfl) (B_ z2) (λx hx HH sH Q' hq=>?_) λd2 HE sE nE hE=>?_⟩
 .lk;exact⟨(f2 x hx).1,hq _ (A2.refl _)⟩
 have pE:=sE _ _ pD;refine⟨p,_,_,_,rfl,pE,T.E1,T.bS,(by show 2<1000;decide),?_⟩;rw[put3];obtain⟨HF,eF⟩:∃HF,HF=upd HE p (.ins a.CF dx (O7 (.ref d0) (.ref d1) (.ref d2))):=⟨_,rfl⟩;rw[<-eF];subst hU;refine cut λU hU=>?_;lk;have pF:HF p=some (.ins a.CF dx (O7 (.ref d0) (.ref d1) (.ref d2))):=by rw[eF,AB]
 have ba:Ac p HE HF:=by rw[eF];exact(Ac.refl p HE).upd
 have toF:∀{v:V}{l:List V},AL HA v l->AL HF v l:=λh=>((((h.keep pA bZ).mono sC).keep pC b_).mono sE).keep pE ba;have kF:Ac p H HF:=λb o e n=>ba b o (sE b o (b_ b o (sC b o (bZ b o (sA b o e) n)) n)) n;have l0:AL HF (.ref d0) (Iv (st.map fv)):=toF ⟨d0,rfl,by rw[hA,OM]⟩;have l1:AL HF (.ref d1) (Iv (lf.map units)):=(((AL.keep ⟨d1,rfl,hC⟩ pC b_).mono sE).keep pE ba:AL HF _ _)|>λh=>by rw[OM];exact h
 have l2:AL HF (.ref d2) (Iv (rt.map units)):=AL.keep ⟨d2,rfl,by rw[hE,OM]⟩ pE ba;have n0:AL HF (.ref b0) (Nv st):=toF (AL.mono ⟨b0,rfl,h0⟩ sA);have n1:AL HF (.ref b1) (Nv lf):=toF (AL.mono ⟨b1,rfl,h1⟩ sA);have n2:AL HF (.ref b2) (Nv rt):=toF (AL.mono ⟨b2,rfl,h2⟩ sA);obtain⟨_,ee,m0⟩:=id n0;cases ee;refine⟨b0,_,rfl,A6 (A4.of m0),rfl,aic st,?_⟩;rw[uY];have key:∀(fine:Bool)HG,A2 HF HG->MF fine st lf rt->U [some (.ref p),some (.ref b0),some (.ref b1),some (.ref b2),none] (upd HG p (.ins a.CF dx (E2 (.ref d0) (.ref d1) (.ref d2) (.bl fine)))):=by
  intro fine HG sG ok;subst hU;lk;have pG:=sG _ _ pF;have kG:Ac p HG (upd HG p (.ins a.CF dx (E2 (.ref d0) (.ref d1) (.ref d2) (.bl fine)))):=(Ac.refl p HG).upd;have toG:∀{v:V}{l:List V},AL HF v l->AL (upd HG p (.ins a.CF dx (E2 (.ref d0) (.ref d1) (.ref d2) (.bl fine)))) v l:=λh=>(h.mono sG).keep pG kG;rw[JV T AB];lk;cases fine with
  |true=>
   refine q _ _ _ true _ (λb o e n=>kG b o (sG b o (kF b o e n)) n) AB ?_ ?_ ?_ ok
   .have:=toG l0;rw[OM]at this;exact this
   .have:=toG l1;rw[OM]at this;exact this
   .have:=toG l2;rw[OM]at this;exact this
  |false=>
   refine⟨p,_,_,_,rfl,AB,T.E1,T.bT,(by show 4<1000;decide),?_⟩;rw[ap9,Ds];refine⟨p,_,_,_,rfl,AB,T.E1,T.bR,(by show 4<1000;decide),?_⟩;rw[apA,Ds];refine⟨p,_,_,_,rfl,AB,T.E1,T.bS,(by show 4<1000;decide),?_⟩;rw[apB,Ds];have kG:Ac p HG (upd HG p (.ins a.CF dx (E2 (.ref b0) (.ref b1) (.ref b2) (.bl false)))):=(Ac.refl p HG).upd;have toG:∀{v:V}{l:List V},AL HF v l->AL (upd HG p (.ins a.CF dx (E2 (.ref b0) (.ref b1) (.ref b2) (.bl false)))) v l:=λh=>(h.mono sG).keep pG kG;exact q _ _ _ false _ (λb o e n=>kG b o (sG b o (kF b o e n)) n) AB (toG n0) (toG n1) (toG n2) ok
 rw[if_pos (rfl:true=true)];lk;by_cases fO:2^31∈st
 .rw[if_pos fO];refine⟨p,_,_,_,rfl,pF,T.E1,T.kJ,(by show 3<1000;decide),?_⟩;rw[xk];exact key false HF (A2.refl _) (λz=>nomatch z)
 .rw[if_neg fO];refine⟨p,dx,_,rfl,pF,by kernel_rfl,?_⟩;unfold aam;rw[zY];refine⟨p,dx,_,_,_,_,_,_,rfl,pF,l0,l1,l2,by rw[AV];exact z0,by rw[AV];exact z1,by rw[AV];exact z2,λHG sG=>?_⟩;refine⟨p,_,_,_,rfl,sG _ _ pF,T.E1,T.kJ,(by show 3<1000;decide),?_⟩;rw[xk];refine key _ HG sG λz=>?_;exact aur z fO rfl
def qY(a:Ad)(H:Hp)(v:V)(fine:Bool)(st lf rt:List Nat):Prop:=Es λp dx x0 x1 x2=>Im (v=.ref p) (H p=some (.ins a.CF dx (E2 x0 x1 x2 (.bl fine)))) (AL H x0 (st.map (Ce fine))) (AL H x1 (lf.map (im fine))) (AL H x2 (rt.map (im fine)))
def EF(a:Ad)(o:Option (List Nat))(H:Hp)(Q:VK)(E:XK):Prop:=match o with
 |some zs=>DB H Q (Nv zs)
 |none=>∀H',A2 H H'->E (.ref a.DC) none H'
def l6(a:Ad):Sp:=Hi λv1 v2 v3 v4 H Q E=>Et λ(p dx:A0)(x0 x1 x2:V)(fine:Bool)=>Eb λ(s:Nat)(xs ys:List Nat)=>Cn (v1=.ref p) (H p=some (.ins a.CF dx (E2 x0 x1 x2 (.bl fine)))) (v2=Ce fine s) (AL H v3 (xs.map (im fine))) (AL H v4 (ys.map (im fine))) (AI s) ((∀x∈xs,AI x)) (D1 ((∀x∈ys,AI x)) ((fine=true->s≠2^31/\∃B,Rz B xs ys/\(fv s).natAbs<=2^B/\(xs.zip ys).length<2^17)) (match Bf s (xs.zip ys)with
 |some z=>AI z->(fine=true->z≠2^31)->∀H',A2 H H'->Q (Ce fine z) H'
 |none=>∀H',A2 H H'->E (.ref a.DC) none H'))
def Xu(T:Txt K mg a):A_ P w K mg base 5 a.g8 ["self","start","left","right"] (l6 a):=by
 refine T.ahj.J7 arv λAF A outer s H p0 p1 p2 p3 Q E hr h nd=>?_;obtain⟨p,dx,x0,x1,x2,fine,s0,xs,ys,rfl,hp,rfl,h3,h4,hs,hx,hy,F,q⟩:=h;refine⟨_,(A7 (BR (Hh (AH (pv 0) rfl)) (AE (Aa (Ag (aop T) T.ajL hr AD (A1 (pv 1) (A1 (pv 2) (A1 (pv 3) A3)))))) BO) (AE (Aa (Ag (ao2 T) T.ajM hr AD (A1 (pv 1) (A1 (pv 2) (A1 (pv 3) A3))))))).Ak,?_⟩;lk;rw[JV T hp];lk;cases fine with
 |true=>
  obtain⟨s31,B,F,hB,hz⟩:=F rfl;rw[if_pos rfl];unfold aaw;rw[XO];refine⟨s0,xs,ys,B,rfl,by rw[OM];exact h3,by rw[OM];exact h4,hs,s31,hB,F,hz,λz e fz Me H' s'=>?_⟩;rw[e]at q;exact q fz (λ_=>Me) H' s'
 |false=>
  rw[if_neg (by decide)];unfold aax;rw[XO];refine⟨s0,xs,ys,rfl,h3,h4,hs,hx,hy,?_⟩;cases e:Bf s0 (xs.zip ys)with
  |none=>rw[e]at q;exact q
  |some z=>rw[e]at q;exact q (ML hs e) (λz=>nomatch z)
def lF(a:Ad):Sp:=Dq λv1 v2 H Q E=>Es λ(p dx:A0)(x0 x1 x2:V)=>EN λ(fine:Bool)(zs:List Nat)=>ME (v1=.ref p) (H p=some (.ins a.CF dx (E2 x0 x1 x2 (.bl fine)))) (AL H v2 (zs.map (Ce fine))) (zs.length<=2^20) ((∀z∈zs,AI z/\(fine=true->z≠2^31))) ((fine=false->Q v2 H)) ((fine=true->DB H Q (Nv zs)))
def Xv(T:Txt K mg a):A_ P w K mg base 3 a.g9 ["self","totals"] (lF a):=by
 refine T.ahk.En arw λAF A outer s H p0 p1 Q E hr h nd=>?_;obtain⟨p,dx,x0,x1,x2,fine,zs,rfl,hp,⟨b,rfl,hb⟩,hz,hf,q0,q1⟩:=h;refine⟨_,(A7 (BR (Hh (AH (pv 0) rfl)) (AE (Aa (FZ (own:=[("total",2)]) rfl rfl rfl CD rfl nd (De (pv 1)) (Ck (by kernel_rfl)) (λ_ _ _ _ _=>(Ay (i:=2) nd rfl (A6 rfl))) (λ_ _ _ _ _=>Cg) (λ_ _ _ _ _ _ _ An=>(Ag (y_ T) T.qt hr An (A1 (pv 2) A3)))))) BO) (AE (Aa (pv 1)))).Ak,?_⟩;lk;rw[JV T hp];lk;cases fine with
 |false=>exact q0 rfl
 |true=>
  rw[if_pos rfl];refine⟨⟨_,A4.of hb⟩,K0 (its:=zs) (λz=> .int (z:Int)) (IJ _ (A4.of hb)) (λ_ _=>rfl) (B_ hz) (λz hz HH sH Q' hq=>?_) λd H1 s1 n1 hd=>q1 rfl d H1 s1 n1 hd⟩;rw[show Ce true z=.int (fv z)from rfl];lk;obtain⟨fz,Me⟩:=hf z hz;refine⟨?_,?_⟩
  .refine D_ (i:=278+150) ?_ (by decide);unfold fv;rw[Ku,SN.Eo,Fe];exact NT (JL z) (Lj (by decide) (by decide))
  .rw[auB fz (Me rfl)];exact hq _ (A2.refl _)
def Mm{ι β:Type}(f:ι->Option β)(r:List ι)(zs:List β)(B9:Option (List β)):Prop:=(r.mapM f).map (zs++ ·)=B9
def Mm.start(f:ι->Option β)(r:List ι):Mm f r [] (r.mapM f):=by
 unfold Mm;cases r.mapM f<;>rfl
def Mm.nil(h:Mm f [] zs B9):B9=some zs:=by
 rw[<-h];show some (zs++[])=_;rw[JD]
def Mm.none(h:Mm f (x::r) zs B9)(e:f x=none):B9=none:=by
 rw[<-h,Cm,e];rfl
def Mm.some(h:Mm f (x::r) zs B9)(e:f x=some y):Mm f r (zs++[y]) B9:=by
 rw[<-h,Mm,Cm,e];cases r.mapM f with
 |none=>rfl
 |some ys=>
  show afE (zs++[y]++ys)=afE (zs++y::ys);rw[Hs];rfl
def cE{H:Hp}{R:A0->Hp->Prop}{E:XK}{v1 v2 v3:V}{st lf rt:List Nat}(h1:AL H v1 (Nv st))(h2:AL H v2 (Nv lf))(h3:AL H v3 (Nv rt))(z1:st.length<=2^20)(z2:lf.length<=2^20)(z3:rt.length<=2^20)(f1:∀x∈st,AI x)(f2:∀x∈lf,AI x)(f3:∀x∈rt,AI x)
 (q:∀x fine H',A2 H H'->qY a H' (.ref x) fine st lf rt->MF fine st lf rt->R x H'):
 ∀x dx,H x=none->H dx=none->dx≠x->aan a [.ref x,v1,v2,v3] (upd (upd H dx (.own x)) x (.ins a.CF dx [])) (λv H2=>v=.Ah/\R x H2) E:=by
 intro x dx nx nd ne;have s1:A2 H (upd (upd H dx (.own x)) x (.ins a.CF dx [])):=((A2.refl H).new nd).new (by rw[AY ne.symm];exact nx);refine⟨x,dx,st,lf,rt,rfl,AB,h1.mono s1,h2.mono s1,h3.mono s1,z1,z2,z3,f1,f2,f3,λx0 x1 x2 fine H' k hp l0 l1 l2 ok=>⟨rfl,q x fine H' (Ac.made nx nd k) ⟨x,dx,x0,x1,x2,rfl,hp,l0,l1,l2⟩ ok⟩⟩
def ame(f:α->β)(xs:List α)(i j:Nat):((xs.map f).drop i).take j=((xs.drop i).take j).map f:=by rw[PR,UN]
def MF.cut{st lf rt xs:List Nat}{s:Nat}(ok:MF fine st lf rt)(hs:s∈st)(hx:∀x∈xs,x∈lf)(hz:rt.length<=2^16):fine=true->s≠2^31/\∃B,Rz B xs rt/\(fv s).natAbs<=2^B/\(xs.zip rt).length<2^17:=λe=>by
 obtain⟨B,F,h⟩:=ok e;exact⟨(h s hs).1,B,⟨F.lo,F.hi,λx Jz y hy=>F.pr x (hx x Jz) y hy⟩,(h s hs).2,by rw[Br];lia⟩
def mem_zipIdx{xs:List α}{p:α×Nat}(h:p∈xs.zipIdx):p.1∈xs/\p.2<xs.length:=by
 obtain⟨i,hi,e⟩:=PL h;rw[ae7]at e;subst e;rw[JB]at hi;exact⟨IU _,by simpa using hi⟩
def KY(st lf rt:List Nat):Option (List Nat):=st.zipIdx.mapM λp=>Bf p.1 (((lf.drop (p.2*rt.length)).take rt.length).zip rt)
def aua(a:Ad):Sp:=D9 λv1 v2 v3 H Q E=>Eb λst lf rt=>Cn (AL H v1 (Nv st)) (AL H v2 (Nv lf)) (AL H v3 (Nv rt)) (st.length<=2^16) (lf.length<=2^20) (rt.length<=2^16) ((∀x∈st,AI x)) (D1 ((∀x∈lf,AI x)) ((∀x∈rt,AI x)) (EF a (KY st lf rt) H Q E))
def k_(T:Txt K mg a):A_ P w K mg base 6 a.lh ["starts","left","right"] (aua a):=by
 refine T.aj4.Dc atQ λAF A outer s H p0 p1 p2 Q E hr h nd=>?_;obtain⟨st,lf,rt,h1,h2,⟨b3,rfl,h3⟩,z1,z2,z3,f1,f2,f3,q⟩:=h;refine⟨_,(A7 (AW (i:=3) nd rfl (A6 rfl) (F9 (Xw T) T.cG T.aP hr AD (A1 (pv 0) (A1 (pv 1) (A1 (pv 2) A3))))) (A7 (AW (i:=4) nd rfl (A6 rfl) (CG EH (by rfl) T.E0 Dt (A1 (pv 2) A3))) (A7 (AW (i:=5) nd rfl (A6 rfl) (Bn A3)) (A7 (E5 Dd rfl (WU (by rfl) T.VS (A1 (AH (pv 3) rfl) A3)) (Lg (n:=2) rfl (Cs (Ay (i:=6) nd rfl (A6 rfl)) (Cs (Ay (i:=7) nd rfl (A6 rfl)) Hg))) (AE (Df (Fu Fd Gv Hk IB (pv 5) (A1 (Bb (Xu T) T.E1 T.c9 hr AD (pv 3) (A1 (pv 7) (A1 (Jg Jj (AH (pv 3) rfl) (Gs (AM ID (pv 6) (pv 4))) (Gs (AM ID (AM Cr (pv 6) Am) (pv 4)))) (A1 (AH (pv 3) rfl) A3)))) A3))))) (AE (Aa (Bb (Xv T) T.E1 T.cA hr AD (pv 3) (A1 (pv 5) A3)))))))).Ak,?_⟩;refine cut λU hU=>?_;lk;refine cE h1 h2 ⟨b3,rfl,h3⟩ (by lia) z2 (by lia) f1 f2 f3 λx fine H1 s1 S ok=>?_;subst hU;lk;refine⟨_,A6 (A4.of (s1 _ _ h3)),by decide,λd BX=>?_⟩;w_up;obtain⟨_,dx,x0,x1,x2,ee,hp,⟨c0,rfl,l0⟩,⟨c1,rfl,l1⟩,⟨c2,rfl,l2⟩⟩:=S;fin2;cases ee;rw[KQ T (A2.one BX _ _ hp)];lk;refine⟨_,A4.of (A2.one BX _ _ l0),?_⟩;rw[show(Nv rt).length=rt.length from AV ..];refine HU (H0:=H1) (m_ _ (A4.of l0)) (λr σ H'=>A2 H1 H'/\Eb λzs o1 o2=>Im (σ=[some p0,some p1,some (.ref b3),some (.ref x),some (.int (rt.length:Int)),some (.ref d),o1,o2]) (H' d=some (.lst (zs.map (Ce fine)))) (zs.length+r.length<=2^16) ((∀z∈zs,AI z/\(fine=true->z≠2^31))) (Mm (λp:Nat×Nat=>Bf p.1 (((lf.drop (p.2*rt.length)).take rt.length).zip rt)) r zs (KY st lf rt))) ⟨A2.one BX,[],none,none,rfl,AB,by rw[JB];simpa using z1,λ_ h=>(nomatch h),Mm.start _ _⟩ (λ_ _ _ h=>h.1) ?_ ?_
 .intro AG r σ H2 H3 hm EI s3;w_up;obtain⟨s0,i⟩:=AG;obtain⟨s2,zs,o1,o2,rfl,hd,hl,hz,mm⟩:=EI;obtain⟨m1,m2⟩:=mem_zipIdx hm;fin2;have Av:=s3 _ _ (s2 _ _ hp);lk;repeat (simp only[KQ T Av,MT T Av,KP T Av,JV T Av];lk)
  have hn:i*rt.length<2^16*2^17:=Ls (by lia) (by lia);refine⟨A6 ⟨rfl,_,A4.of (s3 _ _ hd)⟩,x,dx,_,rfl,Av,by kernel_rfl,⟨G7 (by lia),G7 (by lia)⟩,⟨G7 (n:=i+1) (by lia),G7 (by lia)⟩,_,A4.of (s3 _ _ (s2 _ _ l1)),λb nb=>?_⟩;rw[KP T (A2.one nb _ _ Av),show(i:Int)*(rt.length:Int)=((i*rt.length:Nat):Int)from(CK ..).symm,show((i:Int)+1)*(rt.length:Int)=(((i+1)*rt.length:Nat):Int)from(CK (i+1) _).symm,bA,BE,BQ,IS,ame];unfold l6;rw[lL];refine⟨x,dx,_,_,_,fine,s0,(lf.drop (i*rt.length)).take rt.length,rt,rfl,A2.one nb _ _ Av,rfl,⟨b,rfl,AB⟩,⟨c2,rfl,A2.one nb _ _ (s3 _ _ (s2 _ _ l2))⟩,f1 s0 m1,λy hy=>f2 y (Hn (GO hy)),f3,ok.cut m1 (λy hy=>Hn (GO hy)) z3,?_⟩;cases ea:Bf s0 (((lf.drop (i*rt.length)).take rt.length).zip rt)with
  |none=>
   rw[mm.none ea]at q;exact λH4 s4=>q H4 ((s1.trans (s2.trans s3)).trans ((A2.one nb).trans s4))
  |some z=>
   intro fz Me H4 s4;have s5:=(A2.one nb).trans s4;refine⟨_,s5 _ _ (s3 _ _ hd),J8 (by rw[AV];rw[B4]at hl;lia),((s2.trans s3).trans s5).own BX,zs++[z],_,_,rfl,by rw[AB,E9];rfl,by rw[Bo,Km];rw[B4]at hl;lia,?_,mm.some ea⟩;intro y hy;rcases Hr.mp hy with hy|hy
   .exact hz y hy
   .rw[C5.mp hy];exact⟨fz,Me⟩
 .intro σ H2 AG;w_up;obtain⟨s2,zs,o1,o2,rfl,hd,hl,hz,mm⟩:=AG;fin2;lk;refine⟨x,dx,_,rfl,s2 _ _ hp,by kernel_rfl,?_⟩;unfold lF;rw[Qa];rw[mm.nil]at q;rw[Na]at hl;refine⟨x,dx,_,_,_,fine,zs,rfl,s2 _ _ hp,⟨d,rfl,hd⟩,by lia,hz,λe=>?_,λ_=>DB.mono q (s1.trans s2)⟩;subst e;exact q d H2 (s1.trans s2) (s1.free BX) hd
def IH{α:Type}(xs:List α)(lo st:Nat):List α:=(A8 ((xs.length-lo+(st-1))/st)).filterMap λk=>xs[lo+st*k]?
def aus(f:α->V)(xs:List α)(lo st:Nat):La (xs.map f) lo st=(IH xs lo st).map f:=by
 unfold La IH;rw[AV,aeF];congr 1;funext k;rw[D0]
def acG{lo st:Nat}{x:α}(h:x∈IH xs lo st):x∈xs:=by
 obtain⟨k,_,e⟩:=nV.mp h;exact DS e
def Uo(st lf rt:List Nat):Option (List Nat):=st.zipIdx.mapM λp=>Bf p.1 ((IH lf p.2 st.length).zip rt)
def asv(a:Ad):Sp:=D9 λv1 v2 v3 H Q E=>Eb λst lf rt=>Cn (AL H v1 (Nv st)) (AL H v2 (Nv lf)) (AL H v3 (Nv rt)) (st.length<=2^16) (lf.length<=2^20) (rt.length<=2^16) ((∀x∈st,AI x)) (D1 ((∀x∈lf,AI x)) ((∀x∈rt,AI x)) (EF a (Uo st lf rt) H Q E))
def ao4(T:Txt K mg a):A_ P w K mg base 6 a.fX ["starts","left","right"] (asv a):=by
 refine T.ahP.Dc as5 λAF A outer s H p0 p1 p2 Q E hr h nd=>?_;obtain⟨st,lf,rt,⟨b1,rfl,h1⟩,h2,h3,z1,z2,z3,f1,f2,f3,q⟩:=h;refine⟨_,(A7 (AW (i:=3) nd rfl (A6 rfl) (F9 (Xw T) T.cG T.aP hr AD (A1 (pv 0) (A1 (pv 1) (A1 (pv 2) A3))))) (A7 (AW (i:=4) nd rfl (A6 rfl) (CG EH (by rfl) T.E0 Dt (A1 (pv 0) A3))) (A7 (AW (i:=5) nd rfl (A6 rfl) (Bn A3)) (A7 (E5 Dd rfl (WU (by rfl) T.VS (A1 (AH (pv 3) rfl) A3)) (Lg (n:=2) rfl (Cs (Ay (i:=6) nd rfl (A6 rfl)) (Cs (Ay (i:=7) nd rfl (A6 rfl)) Hg))) (AE (Df (Fu Fd Gv Hk IB (pv 5) (A1 (Bb (Xu T) T.E1 T.c9 hr AD (pv 3) (A1 (pv 7) (A1 (yE (AH (pv 3) rfl) (pv 6) (pv 4)) (A1 (AH (pv 3) rfl) A3)))) A3))))) (AE (Aa (Bb (Xv T) T.E1 T.cA hr AD (pv 3) (A1 (pv 5) A3)))))))).Ak,?_⟩;refine cut λU hU=>?_;lk;refine cE ⟨b1,rfl,h1⟩ h2 h3 (by lia) z2 (by lia) f1 f2 f3 λx fine H1 s1 S ok=>?_;subst hU;lk;refine⟨_,A6 (A4.of (s1 _ _ h1)),by decide,λd BX=>?_⟩;w_up;obtain⟨_,dx,x0,x1,x2,ee,hp,⟨c0,rfl,l0⟩,⟨c1,rfl,l1⟩,⟨c2,rfl,l2⟩⟩:=S;fin2;cases ee;rw[KQ T (A2.one BX _ _ hp)];lk;refine⟨_,A4.of (A2.one BX _ _ l0),?_⟩;rw[show(Nv st).length=st.length from AV ..];refine HU (H0:=H1) (m_ _ (A4.of l0)) (λr σ H'=>A2 H1 H'/\Eb λzs o1 o2=>Im (σ=[some (.ref b1),some p1,some p2,some (.ref x),some (.int (st.length:Int)),some (.ref d),o1,o2]) (H' d=some (.lst (zs.map (Ce fine)))) (zs.length+r.length<=2^16) ((∀z∈zs,AI z/\(fine=true->z≠2^31))) (Mm (λp:Nat×Nat=>Bf p.1 ((IH lf p.2 st.length).zip rt)) r zs (Uo st lf rt))) ⟨A2.one BX,[],none,none,rfl,AB,by rw[JB];simpa using z1,λ_ h=>(nomatch h),Mm.start _ _⟩ (λ_ _ _ h=>h.1) ?_ ?_
 .intro AG r σ H2 H3 hm EI s3;w_up;obtain⟨s0,i⟩:=AG;obtain⟨s2,zs,o1,o2,rfl,hd,hl,hz,mm⟩:=EI;obtain⟨m1,m2⟩:=mem_zipIdx hm;fin2;have Av:=s3 _ _ (s2 _ _ hp);lk;repeat (simp only[KQ T Av,MT T Av,KP T Av,JV T Av];lk)
  refine⟨A6 ⟨rfl,_,A4.of (s3 _ _ hd)⟩,x,dx,_,rfl,Av,by kernel_rfl,c1,_,i,st.length,rfl,rfl,rfl,FD (Er _) m2,A4.of (s3 _ _ (s2 _ _ l1)),λb nb=>?_⟩;rw[KP T (A2.one nb _ _ Av),aus];unfold l6;rw[lL];refine⟨x,dx,_,_,_,fine,s0,IH lf i st.length,rt,rfl,A2.one nb _ _ Av,rfl,⟨b,rfl,AB⟩,⟨c2,rfl,A2.one nb _ _ (s3 _ _ (s2 _ _ l2))⟩,f1 s0 m1,λy hy=>f2 y (acG hy),f3,ok.cut m1 (λy hy=>acG hy) z3,?_⟩;cases ea:Bf s0 ((IH lf i st.length).zip rt)with
  |none=>
   rw[mm.none ea]at q;exact λH4 s4=>q H4 ((s1.trans (s2.trans s3)).trans ((A2.one nb).trans s4))
  |some z=>
   intro fz Me H4 s4;have s5:=(A2.one nb).trans s4;refine⟨_,s5 _ _ (s3 _ _ hd),J8 (by rw[AV];rw[B4]at hl;lia),((s2.trans s3).trans s5).own BX,zs++[z],_,_,rfl,by rw[AB,E9];rfl,by rw[Bo,Km];rw[B4]at hl;lia,?_,mm.some ea⟩;intro y hy;rcases Hr.mp hy with hy|hy
   .exact hz y hy
   .rw[C5.mp hy];exact⟨fz,Me⟩
 .intro σ H2 AG;w_up;obtain⟨s2,zs,o1,o2,rfl,hd,hl,hz,mm⟩:=AG;fin2;lk;refine⟨x,dx,_,rfl,s2 _ _ hp,by kernel_rfl,?_⟩;unfold lF;rw[Qa];rw[mm.nil]at q;rw[Na]at hl;refine⟨x,dx,_,_,_,fine,zs,rfl,s2 _ _ hp,⟨d,rfl,hd⟩,by lia,hz,λe=>?_,λ_=>DB.mono q (s1.trans s2)⟩;subst e;exact q d H2 (s1.trans s2) (s1.free BX) hd
def Sy{H:Hp}{R:A0->Hp->Prop}(s:Cu)(e1:x=(s.1:Int))(e2:y=(s.2.1:Int))(e3:z=(s.2.2:Int))
 (q:∀x H',A2 H H'->H x=none->BB a H' (.ref x) s->R x H'):
 ∀x' dx,H x'=none->H dx=none->dx≠x'->aak a [.ref x',.int x,.int y,.int z] (upd (upd H dx (.own x')) x' (.ins a.Shape dx [])) (λv H2=>v=.Ah/\R x' H2) E:=by
 intro x' dx nx nd ne;subst e1 e2 e3;refine⟨x',dx,rfl,AB,rfl,?_⟩;rw[Ds];exact q x' _ (((A2.refl H).new nd).new (by rw[AY ne.symm];exact nx)) nx ⟨x',dx,rfl,AB⟩
structure S5(K:Ae)(C:A0):Prop where
 c:B8 K C
 g:Ap K C "given"
 m:Ap K C "made"
 o:Ap K C "own_count"
def wC(T:Txt K mg a):S5 K a.FN:=⟨T.Pw,T.w8,T.xN,T.xO⟩
def wF(T:Txt K mg a):S5 K a.G6:=⟨T.Zf,T.ane,T.anf,T.ang⟩
def wD(T:Txt K mg a):S5 K a.Ed:=⟨T.MO,T.xT,T.xU,T.xV⟩
def wB(T:Txt K mg a):S5 K a.Conv:=⟨T.Ew,T.vP,T.vR,T.vS⟩
def jw(f:Str)(v:V):∀(fs:List (Str×V)),(AS f v fs).length<=fs.length+1
 |[]=>Az _
 |(g,x)::r=>by
  have:=jw f v r;unfold AS;split
  .rw[B4,B4];lia
  .rw[B4,B4];lia
def Wu(K:Ae):Sp:=Hi λv1 v2 v3 v4 H Q _=>Io λp C dx fs=>Im (v1=.ref p) (H p=some (.ins C dx fs)) (S5 K C) (fs.length<900) (Q .Ah (upd H p (.ins C dx (AS "own_count" v4 (AS "made" v3 (AS "given" v2 fs))))))
def Xt(T:Txt K mg a):A_ P w K mg base 1 a.dJ ["self","given","made","own_count"] (Wu K):=by
 refine T.ai8.J7 asN λAF A outer s H p0 p1 p2 p3 Q E hr h nd=>?_;obtain⟨p,C,dx,fs,rfl,hp,L,hl,q⟩:=h;refine⟨_,(A7 (C9 (pv 0) (pv 1) rfl) (A7 (C9 (pv 0) (pv 2) rfl) (AE (C9 (pv 0) (pv 3) rfl)))).Ak,?_⟩;lk;have l1:=jw "given" p1 fs;have l2:=jw "made" p2 (AS "given" p1 fs);refine⟨p,C,dx,fs,rfl,hp,L.c,L.g,by lia,p,C,dx,_,rfl,AB,L.c,L.m,by lia,p,C,dx,_,rfl,AB,L.c,L.o,by lia,?_⟩;rw[Ds,Ds];exact q
def asd:Sp:=D9 λv1 v2 v3 H Q _=>DB H Q []
def xM(T:Txt K mg a):A_ P w K mg base 1 a.VG ["self","numbers","g"] asd:=by
 refine T.ai9.Dc asO λAF A outer s H p0 p1 p2 Q E hr h nd=>?_;refine⟨_,(AE (Aa (Bn A3))).Ak,?_⟩;lk;exact⟨by decide,λp n=>h p _ (A2.one n) n AB⟩
def jx(x y z:V):AS "own_count" z (AS "made" y (AS "given" x []))=E_ x y z:=by kernel_rfl
def aaz(a:Ad):Sp:=D9 λv1 v2 v3 H Q _=>Io λ(p dx:A0)(s:Cu)(o:Nat)=>ME (v1=.ref p) (H p=some (.ins a.FN dx [])) (BB a H v2 s) (Small s) (v3=.int (o:Int)) (o<2^32) (∀m H',Ac p H H'->H' p=some (.ins a.FN dx (E_ v2 (.ref m) (.int ((o*AK s+o:Nat):Int))))->m≠p->BB a H' (.ref m) (o,1,1)->Q .Ah H')
def aoS(T:Txt K mg a):A_ P w K mg base 3 a.eQ ["self","given","planes"] (aaz a):=by
 refine T.ahv.Dc aqq λAF A outer s H p0 p1 p2 Q E hr h nd=>?_;obtain⟨p,dx,sh,o,rfl,hp,hs,sm,rfl,ho,q⟩:=h;refine⟨_,(AE (Df (Y1 (Xt T) T.a9 T.bP hr AD (A1 (pv 0) (A1 (pv 1) (A1 (F9 (TM T) T.To T.SM hr AD (A1 (pv 2) (A1 Am (A1 Am A3)))) (A1 (AM Cr (AM ID (pv 2) (Cf (LW T) T.FQ T.L6 hr AD (pv 1))) (pv 2)) A3))))))).Ak,?_⟩;lk;refine Sy (o,1,1) rfl rfl rfl λm H1 s1 nm hm=>?_;obtain⟨b,db,rfl,hb⟩:=id hs;refine⟨b,db,_,rfl,s1 _ _ hb,by kernel_rfl,sh,hs.mono s1,sm,?_⟩;have hc:sh.1*(sh.2.1*sh.2.2)<2^32*(2^32*2^32):=Ls sm.1 (Ls sm.2.1 sm.2.2);unfold Wu;lk;refine⟨⟨G7 (by lia),G7 (by lia)⟩,p,a.FN,dx,_,rfl,s1 _ _ hp,wC T,by decide,?_⟩;rw[jx,<-CK,<-IV];have mp:m≠p:=λz=>by rw[z,hp]at nm;cases nm
 obtain⟨_,dm,e,hm⟩:=hm;cases e;refine q m _ (((Ac.refl p H).same s1).upd) (by rw[AB,AK,B6]) mp ⟨m,dm,rfl,by rw[AY mp];exact hm⟩
def abB(a:Ad):Sp:=Dq λv1 v2 H Q _=>EN λ(p dx:A0)=>D1 (v1=.ref p) (H p=some (.ins a.G6 dx [])) (Q .Ah (upd H p (.ins a.G6 dx (E_ v2 v2 (.int 0)))))
def aom(T:Txt K mg a):A_ P w K mg base 2 a.d7 ["self","given"] (abB a):=by
 refine T.ahe.En arp λAF A outer s H p0 p1 Q E hr h nd=>?_;obtain⟨p,dx,rfl,hp,q⟩:=h;refine⟨_,(AE (Df (Y1 (Xt T) T.a9 T.bP hr AD (A1 (pv 0) (A1 (pv 1) (A1 (pv 1) (A1 Am A3))))))).Ak,?_⟩;unfold Wu;lk;refine⟨p,a.G6,dx,_,rfl,hp,wF T,by decide,?_⟩;rw[jx];exact q
def abA(a:Ad):Sp:=Dq λv1 v2 H Q _=>Eb λ(p dx:A0)(s:Cu)=>Fm (v1=.ref p) (H p=some (.ins a.Ed dx [])) (BB a H v2 s) (∀m H',Ac p H H'->H' p=some (.ins a.Ed dx (E_ v2 (.ref m) (.int 0)))->m≠p->BB a H' (.ref m) (s.1,s.2.1/2,s.2.2/2)->Q .Ah H')
def aoh(T:Txt K mg a):A_ P w K mg base 3 a.da ["self","given"] (abA a):=by
 refine T.ahW.En asX λAF A outer s H p0 p1 Q E hr h nd=>?_;obtain⟨p,dx,sh,rfl,hp,⟨b,db,rfl,hb⟩,q⟩:=h;refine⟨_,(AE (Df (Y1 (Xt T) T.a9 T.bP hr AD (A1 (pv 0) (A1 (pv 1) (A1 (F9 (TM T) T.To T.SM hr AD (A1 (AH (pv 1) rfl) (A1 (AM K6 (AH (pv 1) rfl) Am) (A1 (AM K6 (AH (pv 1) rfl) Am) A3)))) (A1 Am A3))))))).Ak,?_⟩;unfold Wu;lk;repeat (simp only[DX T hb,DY T hb,DW T hb];lk)
 refine⟨⟨by decide,by decide⟩,⟨by decide,by decide⟩,Sy (sh.1,sh.2.1/2,sh.2.2/2) rfl (IT ..).symm (IT ..).symm λm H1 s1 nm hm=>?_⟩;refine⟨p,a.Ed,dx,_,rfl,s1 _ _ hp,wD T,by decide,?_⟩;rw[jx];have mp:m≠p:=λz=>by rw[z,hp]at nm;cases nm
 obtain⟨_,dm,e,hm⟩:=hm;cases e;exact q m _ (((Ac.refl p H).same s1).upd) AB mp ⟨m,dm,rfl,by rw[AY mp];exact hm⟩
def C2(a:Ad)(H:Hp)(v:V)(s:BA)(l:Cb):Prop:=match l with
 | .dense o=>∃p dx g m,v=.ref p/\H p=some (.ins a.FN dx (E_ g m (.int ((o*AK s+o:Nat):Int))))/\BB a H g s/\BB a H m (o,1,1)
 | .relu=>∃p dx g,v=.ref p/\H p=some (.ins a.G6 dx (E_ g g (.int 0)))/\BB a H g s
 | .pool=>∃p dx g m,v=.ref p/\H p=some (.ins a.Ed dx (E_ g m (.int 0)))/\BB a H g s/\BB a H m (s.1,s.2.1/2,s.2.2/2)
 | .conv o k=>∃p dx g m u,v=.ref p/\H p=some (.ins a.Conv dx (G9 (.int (k:Int)) (.int ((k/2:Nat):Int)) u g m (.int ((o*s.1*k*k+o:Nat):Int))))/\BB a H g s/\BB a H m (o,s.2.1,s.2.2)/\BB a H u (s.1,k,k)
def C2.mono(h:C2 a H v s l)(e:A2 H H'):C2 a H' v s l:=by
 cases l with
 |dense o=>obtain⟨p,dx,g,m,rfl,h1,h2,h3⟩:=h;exact⟨p,dx,g,m,rfl,e _ _ h1,h2.mono e,h3.mono e⟩
 |relu=>obtain⟨p,dx,g,rfl,h1,h2⟩:=h;exact⟨p,dx,g,rfl,e _ _ h1,h2.mono e⟩
 |pool=>obtain⟨p,dx,g,m,rfl,h1,h2,h3⟩:=h;exact⟨p,dx,g,m,rfl,e _ _ h1,h2.mono e,h3.mono e⟩
 |conv o k=>obtain⟨p,dx,g,m,u,rfl,h1,h2,h3,h4⟩:=h;exact⟨p,dx,g,m,u,rfl,e _ _ h1,h2.mono e,h3.mono e,h4.mono e⟩
structure Good(s:BA)(l:Cb):Prop where
 p:0<s.1
 r:0<s.2.1
 c:0<s.2.2
 n:AK s<=4096
 w:Bk s l<=65536
 t:∃t,Bv s l=some t/\0<AK t/\AK t<=4096
 k:∀o k,l=.conv o k->k=1\/k=3\/k=5
def lD(a:Ad)(ok:Cb->Prop):Sp:=D9 λv1 v2 v3 H Q E=>Io λs l w x=>Cn (ok l) (C2 a H v1 s l) (Good s l) (AL H v2 (Nv w)) (w.length=Bk s l) (AL H v3 (Nv x)) (x.length=AK s) (D1 ((∀y∈w,AI y)) ((∀y∈x,AI y)) (EF a (HM s l w x) H Q E))
def VI(xs ys:List Nat):Nv (xs++ys)=Nv xs++Nv ys:=E9 ..
def EF.mono(q:EF a o H Q E)(s:A2 H H1):EF a o H1 Q E:=by
 cases o with
 |some zs=>exact DB.mono q s
 |none=>exact λH' s'=>q H' (s.trans s')
def Dh(h:i<r.length):Ab r i=r[i]:=by
 unfold Ab;rw[IQ,E8 h];rfl
def mD(f:Nat×Nat->Option β)(st:List Nat):st.zipIdx.mapM f=(A8 st.length).mapM λk=>f (Ab st k,k):=by
 have:st.zipIdx=(A8 st.length).map λk=>(Ab st k,k):=by
  refine FE (by simp) λi h1 h2=>?_;rw[ae7,Jm,FC,Dh (by simpa using h1)];simp
 rw[this];generalize A8 st.length=r;induction r with
 |nil=>rfl
 |cons x r ih=>rw[BW,Cm,Cm,ih]
def mapM_congr{f g:ι->Option β}:∀{l:List ι},(∀x∈l,f x=g x)->l.mapM f=l.mapM g
 |[],_=>rfl
 |x::l,h=>by rw[Cm,Cm,h x Bu,mapM_congr λy hy=>h y (Ba _ hy)]
def agZ{w x:List Nat}(hw:w.length=o*n+o)(hx:x.length=n):KY (w.drop (o*n)) (w.take (o*n)) x=(A8 o).mapM λk=>Bf (Ab w (o*n+k)) ((A8 n).map λi=>(Ab w (k*n+i),Ab x i)):=by
 unfold KY;rw[mD,Di,hw,IS];refine mapM_congr λk hk=>?_;have hk:=BD.mp hk;have hkn:k*n+n<=o*n:=by
  calc k*n+n=(k+1)*n:=by rw[BE,BQ]
   _<=o*n:=Bj _ hk
 show Bf (Ab (Zb (o*n) w) k) _=_;rw[Dh (by rw[Di];lia),Dh (by lia),Y_];congr 1;refine FE (by simp[EW,Di,hx,hw];lia) λi h1 h2=>?_;have hi:i<n:=by simpa using h2
 rw[Z4,Jm,FC,Dh (by lia),Dh (by lia),YZ,Y_,YZ];simp only[hx]
def aoT(T:Txt K mg a):A_ P w K mg base 7 a.eR ["self","own","numbers"] (lD a λl=>∃o,l=.dense o):=by
 refine T.ahw.Dc aqr λAF A outer s H p0 p1 p2 Q E hr h nd=>?_;obtain⟨sh,l,w,x,⟨o,rfl⟩,L,G,⟨b2,rfl,h2⟩,hw,h3,hx,fw,fx,q⟩:=h;obtain⟨p,dx,g,m,rfl,hp,hg,⟨bm,dm,rfl,hm⟩⟩:=L;refine⟨_,(A7 (AW (i:=3) nd rfl (A6 rfl) (AM Dn (AH (pv 0) rfl) (AH (AH (pv 0) rfl) rfl))) (AE (Aa (Ag (k_ T) T.iA hr AD (A1 (Jg Jj (pv 1) (Gs (pv 3)) Oc) (A1 (Jg Jj (pv 1) Oc (Gs (pv 3))) (A1 (pv 2) A3))))))).Ak,?_⟩;lk;repeat (simp only[rV T hp,qj T hp,qk T hp,DX T hm,DY T hm,DW T hm];lk)
 rw[show((o*AK sh+o:Nat):Int)-(o:Int)=((o*AK sh:Nat):Int)from by lia];refine⟨_,A4.of h2,λc nc=>⟨_,A4.of (A2.one nc _ _ h2),λd BX=>?_⟩⟩;rw[Ur]at BX;rw[Ur,bB];have hw:w.length=o*AK sh+o:=hw;have hn:=G.n;have Ja:o*AK sh+o<=65536:=G.w;have cd:c≠d:=Dm AB BX;have s2:A2 H (upd (upd H c (.lst (Zb (o*AK sh) (Nv w)))) d (.lst (Nq (o*AK sh) (Nv w)))):=(A2.one nc).new BX;refine⟨w.drop (o*AK sh),w.take (o*AK sh),x,⟨c,rfl,by rw[AY cd,AB,Nv,Nv,UN]⟩,⟨d,rfl,by rw[AB,Nv,Nv,PR]⟩,h3.mono s2,by rw[Di];lia,by rw[EW];lia,by lia,λy hy=>fw y (Hn hy),λy hy=>fw y (GO hy),fx,?_⟩;rw[agZ hw hx];exact EF.mono q s2
def F8(s:BA)(l:Cb)(x g:List Nat):Option (List Nat):=match l with
 | .dense _=>(g.mapM λk=>x.mapM λi=>BC k i).map λgw=>gw.flatten++g
 | .conv o side=>
  let t:BA:=(o,s.2.1,s.2.2);let acC:List (Nat×Nat):=(A8 s.2.1).flatMap λy=>(A8 s.2.2).map λc=>(y,c)
  ((A8 o).mapM λk=>(A8 s.1).mapM λp=>(A8 side).mapM λi=>(A8 side).mapM λj=>Bf 0 (acC.filterMap λq=>(CL s.2.1 side q.1 i).bind λy=>(CL s.2.2 side q.2 j).map λc=>(Ab g (CM t k q.1 q.2),Ab x (CM s p y c)))).bind λgw=>
   ((A8 o).mapM λk=>Bf 0 (acC.map λq=>(Ab g (CM t k q.1 q.2),ED))).map λgb=>(gw.map λa=>(a.map λb=>b.flatten).flatten).flatten++gb
 |_=>some []
def H_(s:BA)(l:Cb)(w x g:List Nat):Option (List Nat):=match l with
 | .relu=>some ((x.zip g).map λp=>if Jt 0 p.1=true then p.2 else 0)
 | .pool=>some ((Hz s).map λz=>if Lp s x z.1 (z.2.1/2) (z.2.2/2)=CM s z.1 z.2.1 z.2.2 then Ab g (CM (s.1,s.2.1/2,s.2.2/2) z.1 (z.2.1/2) (z.2.2/2))else 0)
 | .dense o=>(A8 (AK s)).mapM λi=>Bf 0 ((A8 o).map λk=>(Ab g k,Ab w (k*AK s+i)))
 | .conv o side=>(Hz s).mapM λz=>Bf 0 ((A8 o).flatMap λk=>(A8 side).flatMap λi=>(A8 side).filterMap λj=>(CL s.2.1 side z.2.1 (side-1-i)).bind λy=>(CL s.2.2 side z.2.2 (side-1-j)).map λc=>(Ab g (CM (o,s.2.1,s.2.2) k y c),Ab w (PM s.1 side k z.1 i j)))
def zR(f:Nat->Option β)(r:List Nat):(A8 r.length).mapM (λk=>f (Ab r k))=r.mapM f:=by
 have:r=(A8 r.length).map λk=>Ab r k:=by
  refine FE (by simp) λi h1 h2=>?_;rw[Jm,FC,Dh h1]
 conv=>rhs;rw[this]
 generalize A8 r.length=q;induction q with
 |nil=>rfl
 |cons x q ih=>rw[BW,Cm,Cm,ih]
def pk{l:Cb}{w x g:List Nat}(hx:x.length=AK s)(hg:∀o,l=.dense o->g.length=o):aez s l w x g=(F8 s l x g).bind λa=>(H_ s l w x g).map λb=>(a,b):=by
 cases l with
 |relu=>rfl
 |pool=>rfl
 |dense o=>
  have hg:=hg o rfl;show(((A8 o).mapM λk=>(A8 (AK s)).mapM λi=>BC (Ab g k) (Ab x i)).bind _)=_;rw[show((A8 o).mapM λk=>(A8 (AK s)).mapM λi=>BC (Ab g k) (Ab x i))=g.mapM λk=>x.mapM λi=>BC k i from by
   rw[<-hg,<-zR (λk=>x.mapM λi=>BC k i)];refine mapM_congr λk _=>?_;rw[<-hx,zR λi=>BC (Ab g k) i]]
  unfold F8 H_;cases g.mapM λk=>x.mapM λi=>BC k i with
  |none=>rfl
  |some gw=>rfl
 |conv o k=>
  unfold F8 H_;show Option.bind _ _=_;rw[Option.bind_assoc];congr 1;funext gw;cases((A8 o).mapM λk=>Bf 0 _)with
  |none=>rfl
  |some gb=>rfl
def ase(a:Ad)(ok:Cb->Prop):Sp:=D9 λv1 v2 v3 H Q E=>Es λs l x g t=>Cn (ok l) (C2 a H v1 s l) (Good s l) (AL H v2 (Nv x)) (x.length=AK s) (AL H v3 (Nv g)) (Bv s l=some t) (Fm (g.length=AK t) ((∀y∈x,AI y)) ((∀y∈g,AI y)) (EF a (F8 s l x g) H Q E))
def lB(a:Ad)(ok:Cb->Prop):Sp:=Hi λv1 v2 v3 v4 H Q E=>Et λs l w x g t=>Cn (ok l) (C2 a H v1 s l) (Good s l) (AL H v2 (Nv w)) (w.length=Bk s l) (AL H v3 (Nv x)) (x.length=AK s) (ME (AL H v4 (Nv g)) (Bv s l=some t) (g.length=AK t) ((∀y∈w,AI y)) ((∀y∈x,AI y)) ((∀y∈g,AI y)) (EF a (H_ s l w x g) H Q E))
def C3:∀{l:List ι}{ys:List β},l.mapM f=some ys->ys.length=l.length
 |[],ys,h=>by cases h;rfl
 |x::l,ys,h=>by
  rw[Cm]at h;cases e:f x with
  |none=>rw[e]at h;cases h
  |some y=>
   rw[e]at h;cases e2:l.mapM f with
   |none=>rw[e2]at h;cases h
   |some zs=>rw[e2]at h;cases h;rw[B4,B4,C3 e2]
def aoU(T:Txt K mg a):A_ P w K mg base 3 a.eU ["self","numbers","g"] (ase a λl=>∃o,l=.dense o):=by
 refine T.ahx.Dc aqs λAF A outer s H p0 p1 p2 Q E hr h nd=>?_;obtain⟨sh,l,x,g,t,⟨o,rfl⟩,L,G,⟨b2,rfl,h2⟩,hx,⟨b3,rfl,h3⟩,ht,hg,fx,fg,q⟩:=h;refine⟨_,(A7 (AW (i:=3) nd rfl (A6 rfl) (Bn A3)) (A7 (E5 Dd rfl (De (pv 2)) (Ay (i:=4) nd rfl (C1 rfl)) (AE (Df (Fu Fd Tz YT cH (pv 3) (A1 (FZ (own:=[("number",5)]) rfl rfl rfl CD rfl nd (De (pv 1)) (Ck (by kernel_rfl)) (λ_ _ _ _ _=>(Ay (i:=5) nd rfl (A6 rfl))) (λ_ _ _ _ _=>Cg) (λ_ _ _ _ _ _ _ An=>(Ag (OV T) T.O9 hr An (A1 (pv 4) (A1 (pv 5) A3))))) A3))))) (AE (Aa (AM OX (pv 3) (pv 2)))))).Ak,?_⟩;lk;have hg:g.length=o:=by cases ht;rw[hg];show o*1*1=o;lia
 have Ja:o*AK sh+o<=65536:=G.w;have hn:=G.n;refine⟨by decide,λd BX=>⟨⟨_,A4.of (A2.one BX _ _ h3)⟩,?_⟩⟩;refine HU (H0:=H) (IJ _ (A4.of h3)) (λr σ H'=>A2 H H'/\Eb λrows o1 o2=>Im (σ=[some p0,some (.ref b2),some (.ref b3),some (.ref d),o1,o2]) (H' d=some (.lst (Nv rows.flatten))) (rows.length+r.length=o) ((∀l∈rows,l.length=AK sh)) (Mm (λk=>x.mapM λi=>BC k i) r rows (g.mapM λk=>x.mapM λi=>BC k i)))
  ⟨A2.one BX,[],none,none,rfl,AB,by rw[Na];lia,λ_ h=>(nomatch h),Mm.start _ _⟩ (λ_ _ _ h=>h.1) ?_ ?_
 .intro m r σ H1 H2 hm AG s2;w_up;obtain⟨s1,rows,o1,o2,rfl,hd,hl,FX,mm⟩:=AG;fin2;lk;have SR:=s2 _ _ (s1 _ _ h2);refine⟨A6 ⟨rfl,_,A4.of (s2 _ _ hd)⟩,⟨_,A4.of SR⟩,?_⟩;refine Oz (its:=x) (λi=>BC m i) (λH'=>E (.ref a.DC) none H') (IJ _ (A4.of SR)) (λ_ _=>rfl) (B_ (by lia)) (λi hi HH sH Q' hq he=>?_) (λe HH sH=>?_) λys e b H3 s3 n3 hb=>?_
  .lk;refine⟨(fg m hm).1,(fx i hi).1,?_⟩;cases em:BC m i with
   |none=>exact he em _ (A2.refl _)
   |some z=>exact hq z em _ (A2.refl _)
  .have:F8 sh (.dense o) x g=none:=by unfold F8;rw[mm.none e];rfl
   rw[this]at q;exact q _ ((s1.trans s2).trans sH)
  .have ly:=C3 e;have GG:=O6 FX;rw[B4]at hl;have hrn:rows.length*AK sh<=o*AK sh:=Bj _ (by lia);have MX:=s3 _ _ (s2 _ _ hd);lk;refine⟨_,_,MX,hb,?_,(((s1.trans s2).trans s3).own BX),rows++[ys],_,_,rfl,?_,by rw[Bo,Km];lia,?_,mm.some e⟩
   .rw[AV,AV,GG];exact B_ (by lia)
   .rw[AB,nU,adi,VI]
   .intro l FV;rcases Hr.mp FV with FV|FV
    .exact FX l FV
    .rw[C5.mp FV,ly,hx]
 .intro σ H1 AG;w_up;obtain⟨s1,rows,o1,o2,rfl,hd,hl,FX,mm⟩:=AG;fin2;lk;have:F8 sh (.dense o) x g=some (rows.flatten++g):=by unfold F8;rw[mm.nil];rfl
  rw[this]at q;rw[Na]at hl;refine⟨_,_,hd,s1 _ _ h3,?_,λc nc=>q c _ (s1.trans (A2.one nc)) (s1.free nc) ?_⟩
  .rw[AV,AV,O6 FX,show rows.length=o from by lia];exact B_ (by lia)
  .rw[AB,VI]
def gH:∀(l:List (Nat×Nat))(s:Nat),Bf s (l.map Prod.swap)=Bf s l
 |[],_=>rfl
 |(x,y)::l,s=>by
  rw[BW,ae3,Zv,Zv,SN.mul_comm];congr 1;funext m;congr 1;funext t;exact gH l t
def acH{n o i:Nat}(hn:0<n)(hi:i<n):(o*n-i+(n-1))/n=o:=by
 by_cases h0:o=0
 .subst h0;rw[Du,Nat.zero_sub,EM];exact Ff (Nat.sub_lt hn ZQ)
 .obtain⟨q,rfl⟩:∃q,o=q+1:=⟨o-1,(adg h0).symm⟩;obtain⟨d,rfl⟩:∃d,n=i+1+d:=JA hi;rw[BE,BQ,show q*(i+1+d)+(i+1+d)-i+(i+1+d-1)=(i+1+d)*(q+1)+d from ?_,Gz hn,Ff (Nat.lt_add_of_pos_left (Nat.succ_pos i))];rw[aes,BV _ q];generalize q*(i+1+d)=A;lia
def ah5{w:List Nat}(hn:0<n)(hi:i<n)(hw:w.length=o*n):IH w i n=(A8 o).map λk=>Ab w (k*n+i):=by
 unfold IH;have hc:(w.length-i+(n-1))/n=o:=by
  rw[hw];exact acH hn hi
 rw[hc];refine List.ext_getElem? λk=>?_;have:∀k∈A8 o,w[i+n*k]? =some (Ab w (k*n+i)):=λk hk=>by
  have hk:=BD.mp hk;have hl:k*n+i<w.length:=by
   rw[hw]
   calc k*n+i<k*n+n:=by lia
    _=(k+1)*n:=by rw[BE,BQ]
    _<=o*n:=Bj _ hk
  rw[Dh hl,Fi,BV,E8 hl]
 rw[show(A8 o).filterMap (λk=>w[i+n*k]?)=(A8 o).map λk=>Ab w (k*n+i)from ?_];generalize A8 o=l at this;induction l with
 |nil=>rfl
 |cons x l ih=>rw[Ho,this x Bu,BW,ih λk hk=>this k (Ba _ hk)]
def agY{w g:List Nat}(hn:0<n)(hw:w.length=o*n+o)(hg:g.length=o):Uo (Ar n 0) (w.take (o*n)) g=(A8 n).mapM λi=>Bf 0 ((A8 o).map λk=>(Ab g k,Ab w (k*n+i))):=by
 unfold Uo;rw[mD,GN];refine mapM_congr λi hi=>?_;have hi:=BD.mp hi;show Bf (Ab (Ar n 0) i) ((IH _ i n).zip g)=_;rw[Dh (by simpa using hi),ml,ah5 (o:=o) hn hi (by rw[EW];lia),<-gH];congr 1;refine FE (by simp[hg]) λk h1 h2=>?_;have hk:k<o:=by simpa using h2
 have hl:k*n+i<o*n:=by
  calc k*n+i<k*n+n:=by lia
   _=(k+1)*n:=by rw[BE,BQ]
   _<=o*n:=Bj _ hk
 simp only[Jm,Z4,FC,ae3];rw[Dh (r:=w.take (o*n)) (by rw[EW];lia),Dh (r:=g) (by lia),Dh (r:=w) (by lia),YZ]
def Ul(k:Nat):(Ar k [V.int 0]).flatten=Nv (Ar k 0):=by
 induction k with
 |zero=>rfl
 |succ k ih=>rw[Ln,Ln,GP,ih];rfl
def Q0:∀y∈Ar k 0,AI y:=λy hy=>by rw[(aeG.mp hy).2];exact HY
def aoR(T:Txt K mg a):A_ P w K mg base 7 a.eP ["self","own","numbers","g"] (lB a λl=>∃o,l=.dense o):=by
 refine T.ahu.J7 aqp λAF A outer s H p0 p1 p2 p3 Q E hr h nd=>?_;obtain⟨sh,l,w,x,g,t,⟨o,rfl⟩,L,G,⟨b2,rfl,h2⟩,hw,⟨b3,rfl,h3⟩,hx,h4,ht,hg,fw,fx,fg,q⟩:=h;obtain⟨p,dx,gv,m,rfl,hp,OF,⟨bm,dm,rfl,hm⟩⟩:=L;refine⟨_,(A7 (AW (i:=4) nd rfl (A6 rfl) (AM Dn (AH (pv 0) rfl) (AH (AH (pv 0) rfl) rfl))) (AE (Aa (Ag (ao4 T) T.ajO hr AD (A1 (AM TV (Bn (A1 (Au T.KD) A3)) (CG EH (by rfl) T.E0 Dt (A1 (pv 2) A3))) (A1 (Jg Jj (pv 1) Oc (Gs (pv 4))) (A1 (pv 3) A3))))))).Ak,?_⟩;lk;repeat (simp only[rV T hp,qj T hp,qk T hp,DX T hm,DY T hm,DW T hm];lk)
 rw[show((o*AK sh+o:Nat):Int)-(o:Int)=((o*AK sh:Nat):Int)from by lia];have hw:w.length=o*AK sh+o:=hw;have hn:=G.n;have Ja:o*AK sh+o<=65536:=G.w;have hg:g.length=o:=by cases ht;rw[hg];show o*1*1=o;lia
 refine⟨by decide,λc nc=>⟨_,A6 (A4.of (A2.one nc _ _ h3)),_,AB,by lia,by rw[AV];lia,B_ (by rw[AV];show 1*x.length<=_;lia),λd BX=>⟨_,A4.of ((A2.one nc).new BX _ _ h2),λe ne=>?_⟩⟩⟩;rw[bB];rw[AV,show((x.length:Nat):Int).toNat=x.length from rfl,Ul]at*;have s2:=(A2.one (o:=.lst [V.int 0]) nc).new (o:=.lst (Nv (Ar x.length 0))) BX;have s3:=s2.new (o:=.lst (Nq (o*AK sh) (Nv w))) ne;have de:d≠e:=Dm AB ne;have n0:0<AK sh:=EC (EC G.p G.r) G.c;refine⟨Ar x.length 0,w.take (o*AK sh),g,⟨d,rfl,by rw[AY de,AB]⟩,⟨e,rfl,by rw[AB,Nv,Nv,PR]⟩,h4.mono s3,by rw[GN];lia,by rw[EW];lia,by lia,Q0,λy hy=>fw y (GO hy),fg,?_⟩;rw[show Uo (Ar x.length 0) (w.take (o*AK sh)) g=H_ sh (.dense o) w x g from by rw[hx];exact agY n0 hw hg];exact EF.mono q s3
def wR(v:Nat):Jt 0 v=decide (0<v/\v<2^31):=by
 unfold Jt Sn38.value IY;refine decide_eq_decide.mpr ?_;rw[show decide (2^31<=0)=false from rfl];by_cases h:2^31<=v
 .rw[decide_eq_true h,if_pos rfl];simp only[NW,if_false];lia
 .rw[decide_eq_false h];simp only[NW,if_false];lia
def aon(T:Txt K mg a):A_ P w K mg base 2 a.d8 ["self","own","numbers"] (lD a λl=>l=.relu):=by
 refine T.ahf.Dc arq λAF A outer s H p0 p1 p2 Q E hr h nd=>?_;obtain⟨sh,l,w,x,rfl,L,G,h2,hw,⟨b3,rfl,h3⟩,hx,fw,fx,q⟩:=h;refine⟨_,(AE (Aa (FZ (own:=[("number",3)]) rfl rfl rfl CD rfl nd (De (pv 2)) (Ck (by kernel_rfl)) (λ_ _ _ _ _=>(Ay (i:=3) nd rfl (A6 rfl))) (λ_ _ _ _ _=>Cg) (λ_ _ _ _ _ _ _ An=>(WS (Hh (Ag (kY T) T.fe hr An (A1 (pv 3) A3))) (pv 3) (Au T.KD)))))).Ak,?_⟩;lk;have hn:=G.n;refine⟨⟨_,A4.of h3⟩,K0 (its:=x) (λv=> .int ((if Jt 0 v=true then v else 0:Nat):Int)) (IJ _ (A4.of h3)) (λ_ _=>rfl) (B_ (by lia)) (λv hv H1 s1 Q' hq=>?_) λd H1 s1 n1 hd=>?_⟩
 .lk;rw[wR]at hq;split
  .rename_i c;rw[if_pos (decide_eq_true c)]at hq;exact hq _ (A2.refl _)
  .rename_i c;rw[if_neg (by rw[decide_eq_false c];decide)]at hq;exact hq _ (A2.refl _)
 .refine q d H1 s1 n1 (by rw[hd,Nv,CA];rfl)
def avR(xs:List α)(ys:List β):(xs.zip ys).map Prod.swap=ys.zip xs:=by
 refine FE (by simp[Nat.min_comm]) λi h1 h2=>?_;simp
def aol(T:Txt K mg a):A_ P w K mg base 2 a.d5 ["self","own","numbers","g"] (lB a λl=>l=.relu):=by
 refine T.ahd.J7 aro λAF A outer s H p0 p1 p2 p3 Q E hr h nd=>?_;obtain⟨sh,l,w,x,g,t,rfl,L,G,h2,hw,⟨b3,rfl,h3⟩,hx,⟨b4,rfl,h4⟩,ht,hg,fw,fx,fg,q⟩:=h;refine⟨_,(AE (Aa (FZ (own:=[("made",4),("number",5)]) rfl rfl rfl CD rfl nd (Mn (by rfl) T.LZ (A1 (pv 3) (A1 (pv 2) A3))) (Ck (by kernel_rfl)) (λ_ _ _ _ _=>(TZ (K:=K) (n:=2) rfl rfl (Cs (Ay (i:=4) nd rfl (A6 rfl)) (Cs (Ay (i:=5) nd rfl (A6 rfl)) Hg)))) (λ_ _ _ _ _=>Cg) (λ_ _ _ _ _ _ _ An=>(WS (Hh (Ag (kY T) T.fe hr An (A1 (pv 5) A3))) (pv 4) (Au T.KD)))))).Ak,?_⟩;lk;have hn:=G.n;refine⟨_,_,A4.of h4,A4.of h3,K0 (its:=g.zip x) (λp=> .int ((if Jt 0 p.2=true then p.1 else 0:Nat):Int)) (Mb _ _ (A4.of h4) (A4.of h3)) (λ_ _=>rfl) (B_ (by rw[Br];lia)) (λp hv H1 s1 Q' hq=>?_) λd H1 s1 n1 hd=>?_⟩
 .lk;rw[wR]at hq;split
  .rename_i c;rw[if_pos (decide_eq_true c)]at hq;exact hq _ (A2.refl _)
  .rename_i c;rw[if_neg (by rw[decide_eq_false c];decide)]at hq;exact hq _ (A2.refl _)
 .refine q d H1 s1 n1 (by rw[hd,Nv,CA,<-avR x g,CA];rfl)
def best(x:List Nat)(b:Nat)(ps:List Nat):Nat:=ps.foldl (λb k=>if Jt (Ab x b) (Ab x k)=true then k else b) b
def ab1(K:Ae):Sp:=Dq λv1 v2 H Q _=>Io λ(x:List Nat)(p:A0)(q:Nat)(ps:List Nat)=>S_ (AL H v1 (Nv x)) (v2=.ref p) (C6 K H p (Nv (q::ps))) ((∀k∈q::ps,k<x.length)) ((∀y∈x,AI y)) (∀H',A2 H H'->Q (.int ((best x q (q::ps):Nat):Int)) H')
def iB{x:List Nat}{k:Nat}(h:k<x.length):FP (Nv x) (k:Int)=some (.int ((Ab x k:Nat):Int)):=by
 rw[Cj,D0,E8 h,Dh h];rfl
def ao8(T:Txt K mg a):A_ P w K mg base 2 a.fB ["numbers","places"] (ab1 K):=by
 refine T.ail.En asA λAF A outer s H p0 p1 Q E hr h nd=>?_;obtain⟨x,p,q0,ps,⟨b,rfl,hb⟩,rfl,hp,hk,fx,q⟩:=h;refine⟨_,(A7 (AW (i:=2) nd rfl (A6 rfl) (BL amI (pv 1) Am (λ_ _=>rfl))) (A7 (E5 Dd rfl (apg (pv 1)) (Ay (i:=3) nd rfl (A6 rfl)) (AE (BR (Bc Ml (Ag (Je T) T.JW hr AD (A1 (BL BM (pv 0) (pv 3) (λ_ _=>rfl)) A3)) (Ag (Je T) T.JW hr AD (A1 (BL BM (pv 0) (pv 2) (λ_ _=>rfl)) A3)) (BU _)) (AE (AW (i:=2) nd rfl (A6 rfl) (pv 3))) BO))) (AE (Aa (pv 2))))).Ak,?_⟩;lk;refine⟨_,.int (q0:Int),hp,by rw[show(0:Int)=((0:Nat):Int)from rfl,Cj];rfl,⟨_,hp⟩,?_⟩;refine HU (H0:=H) (its:=q0::ps) (CJ.of_map (λk:Nat=>V.int (k:Int)) (atn hp)) (λr σ H'=>D1 (A2 H H') ((∀k∈r,k<x.length)) (EN λ(bs:Nat)(o1:Option V)=>D1 (σ=[some (.ref b),some (.ref p),some (.int (bs:Int)),o1]) (bs<x.length) (best x bs r=best x q0 (q0::ps)))) ⟨A2.refl H,hk,q0,none,rfl,hk _ Bu,rfl⟩ (λ_ _ _ h=>h.1) ?_ ?_
 .intro k r σ H1 H2 hm AG s2;w_up;obtain⟨s1,FX,bs,o1,rfl,Pl,e⟩:=AG;fin2;have af:=s2 _ _ (s1 _ _ hb);have aM:=hk k hm;have f1:AI (Ab x k):=by rw[Dh aM];exact fx _ (IU aM)
  have f2:AI (Ab x bs):=by rw[Dh Pl];exact fx _ (IU Pl)
  lk;refine⟨_,_,A4.of af,iB aM,?_⟩;lk;refine⟨f1.1,_,_,A4.of af,iB Pl,?_⟩;lk;refine⟨f2.1,?_⟩;have e:best x (if Jt (Ab x bs) (Ab x k)=true then k else bs) r=best x q0 (q0::ps):=e;rw[aly f2.1 f1.1]at e;split
  .rename_i c;rw[if_pos (decide_eq_true c)]at e;exact⟨s1.trans s2,λj hj=>FX j (Ba _ hj),k,_,rfl,aM,e⟩
  .rename_i c;rw[if_neg (by rw[decide_eq_false c];decide)]at e;exact⟨s1.trans s2,λj hj=>FX j (Ba _ hj),bs,_,rfl,Pl,e⟩
 .intro σ H1 AG;w_up;obtain⟨s1,FX,bs,o1,rfl,Pl,e⟩:=AG;fin2;lk;have q:=q H1 s1;rw[<-e]at q;exact q
def LV{α β:Type}{f:α->List β}{m:Nat}:∀{l:List α},(∀x∈l,(f x).length=m)->(l.flatMap f).length=l.length*m
 |[],_=>by simp
 |x::l,h=>by
  rw[Fx,Bo,h x Bu,LV λy hy=>h y (Ba _ hy),B4,BE];lia
def taken(x:List Nat)(n m W:Nat):List Nat:=(A8 n).flatMap λj=>(A8 m).map λi=>best x (j*(W+W)+i*2) [j*(W+W)+i*2,j*(W+W)+i*2+1,j*(W+W)+i*2+W,j*(W+W)+i*2+W+1]
def lG(a:Ad):Sp:=Dq λv1 v2 H Q _=>Et λ(p dx:A0)(gv mv ov:V)(s:Cu)=>Eb λ(x:List Nat)(n m:Nat)=>Cn (v1=.ref p) (H p=some (.ins a.Ed dx (E_ gv mv ov))) (BB a H gv s) (AL H v2 (Nv x)) (s.2.2=m*2) (0<m) (s.2.2<=4096) (Fm (x.length=n*(s.2.2+s.2.2)) (x.length<=4096) ((∀y∈x,AI y)) (DB H Q (Nv (taken x n m s.2.2))))
def yW(T:Txt K mg a):A_ P w K mg base 3 a.cp ["self","numbers"] (lG a):=by
 refine T.ahY.En asZ λAF A outer s H p0 p1 Q E hr h nd=>?_;obtain⟨p,dx,gv,mv,ov,sh,x,n,m,rfl,hp,⟨bg,dg,rfl,hg⟩,⟨b2,rfl,h2⟩,hm,h0,hW,hx,hz,fx,q⟩:=h;refine⟨_,(A7 (AW (i:=2) nd rfl (A6 rfl) (AH (AH (pv 0) rfl) rfl)) (A7 (AW (i:=3) nd rfl (A6 rfl) (Bn A3)) (A7 (E5 Dd rfl (Y5 (by rfl) T.Iu (A1 Am (A1 (CG EH (by rfl) T.E0 Dt (A1 (pv 1) A3)) (A1 (AM Cr (pv 2) (pv 2)) A3)))) (Ay (i:=4) nd rfl (A6 rfl)) (AE (E5 Dd rfl (Y5 (by rfl) T.Iu (A1 (pv 4) (A1 (AM Cr (pv 4) (pv 2)) (A1 Am A3)))) (Ay (i:=5) nd rfl (A6 rfl)) (A7 (AW (i:=6) nd rfl (A6 rfl) (jn (A1 (pv 5) (A1 (AM Cr (pv 5) Am) (A1 (AM Cr (pv 5) (pv 2)) (A1 (AM Cr (AM Cr (pv 5) (pv 2)) Am) A3)))))) (AE (Df (Fu Fd Gv Hk IB (pv 3) (A1 (Ag (ao8 T) T.ajS hr AD (A1 (pv 1) (A1 (pv 6) A3))) A3)))))))) (AE (Aa (pv 3)))))).Ak,?_⟩;lk;repeat (simp only[ak5 T hp,ak6 T hp,ak7 T hp,DX T hg,DY T hg,DW T hg];lk)
 generalize sh.2.2=W at*;have hlen:(taken x n m W).length=n*m:=by
  unfold taken;rw[LV (m:=m) (λj _=>by rw[AV,BJ]),BJ]
 have hnm:n*m<=4096:=by
  refine Ao ?_ (hx▸hz);exact EX n (by lia)
 refine⟨by decide,λd BX=>⟨_,A6 (A4.of (A2.one BX _ _ h2)),n,?_,?_⟩⟩
 .rw[AV,hx,<-IV];have:=lV (lo:=0) (n:=n) (L:=W+W) (by lia) (by lia) (by decide) (by decide) (by lia);rwa[IW]at this
 refine HU (H0:=H) XC (λr σ H'=>A2 H H'/\Io λ(acc:List Nat)(o1 o2 o3:Option V)=>D1 (σ=[some (.ref p),some (.ref b2),some (.int (W:Int)),some (.ref d),o1,o2,o3]) (H' d=some (.lst (Nv acc))) (acc++(r.flatMap λj=>(A8 m).map λi=>best x (j*(W+W)+i*2) [j*(W+W)+i*2,j*(W+W)+i*2+1,j*(W+W)+i*2+W,j*(W+W)+i*2+W+1])=taken x n m W)) ⟨A2.one BX,[],none,none,none,rfl,AB,rfl⟩ (λ_ _ _ h=>h.1) ?_ ?_
 .intro j r σ H1 H2 hj AG s2;w_up;obtain⟨s1,acc,o1,o2,o3,rfl,hd,e⟩:=AG;fin2;have hj:=BD.mp hj;have KS:j*(W+W)+(W+W)<=x.length:=by
   rw[hx]
   calc j*(W+W)+(W+W)=(j+1)*(W+W):=by rw[BE,BQ]
    _<=_:=Bj _ hj
  have ej:(0:Int)+(j:Int)*((W:Int)+(W:Int))=((j*(W+W):Nat):Int):=by rw[IW,CK,IV]
  lk;rw[ej];refine⟨m,?_,?_⟩
  .have:=lV (lo:=((j*(W+W):Nat):Int)) (n:=m) (L:=2) (by decide) (by decide) (by lia) (by lia) (by lia);rw[hm];rw[hm]at this;exact this
  refine HU (H0:=H) XC (λr2 σ H'=>A2 H H'/\Eb λ(Ir:List Nat)(o2 o3:Option V)=>D1 (σ=[some (.ref p),some (.ref b2),some (.int (W:Int)),some (.ref d),some (.int ((j*(W+W):Nat):Int)),o2,o3]) (H' d=some (.lst (Nv Ir))) (Ir++(r2.map λi=>best x (j*(W+W)+i*2) [j*(W+W)+i*2,j*(W+W)+i*2+1,j*(W+W)+i*2+W,j*(W+W)+i*2+W+1])=acc++(A8 m).map λi=>best x (j*(W+W)+i*2) [j*(W+W)+i*2,j*(W+W)+i*2+1,j*(W+W)+i*2+W,j*(W+W)+i*2+W+1])) ⟨s1.trans s2,acc,o2,o3,rfl,s2 _ _ hd,rfl⟩ (λ_ _ _ h=>h.1) ?_ ?_
  .intro i r2 σ H3 H4 hi AG s4;w_up;obtain⟨s3,Ir,o2,o3,rfl,MX,e3⟩:=AG;fin2;have hi:=BD.mp hi;lk;have ei:((j*(W+W):Nat):Int)+(i:Int)*2=((j*(W+W)+i*2:Nat):Int):=by lia
   rw[ei];generalize hq:j*(W+W)+i*2=q0 at*;have CP:=congrArg Hy e;have El:=congrArg Hy e3;rw[Fx,Bo,Bo]at CP;rw[BW,Bo,Bo,B4]at El;refine⟨(by show 4<=Al;decide),λc nc=>⟨A6 ⟨rfl,_,A4.of (A2.one nc _ _ (s4 _ _ MX))⟩,?_⟩⟩;unfold ab1;rw[Qa];refine⟨x,c,q0,[q0+1,q0+W,q0+W+1],⟨b2,rfl,A2.one nc _ _ (s4 _ _ (s3 _ _ h2))⟩,rfl,C6.of AB,?_,fx,λH5 s5=>?_⟩
   .intro k hk;simp only[B2,DG,or_false]at hk;lia
   .lk;have s6:=(A2.one nc).trans s5;refine⟨_,s6 _ _ (s4 _ _ MX),J8 (by rw[AV];lia),((s3.trans s4).trans s6).own BX,Ir++[best x q0 [q0,q0+1,q0+W,q0+W+1]],_,_,rfl,by rw[AB,VI];rfl,?_⟩;rw[Hs,<-e3,BW,hq];rfl
  .intro σ H3 AG;w_up;obtain⟨s3,Ir,o2,o3,rfl,MX,e3⟩:=AG;fin2;refine⟨s3,Ir,_,_,_,rfl,MX,?_⟩;rw[Kr,JD]at e3;rw[e3,<-e,Fx,Hs]
 .intro σ H1 AG;w_up;obtain⟨s1,acc,o1,o2,o3,rfl,hd,e⟩:=AG;fin2;lk;rw[nq,JD]at e;rw[e]at hd;exact q d H1 s1 BX hd
def Vr{s:BA}{R m:Nat}(hr:s.2.1=R*2)(p y i d e:Nat):CM s p (2*y+d) (2*i+e)=(p*R+y)*(s.2.2+s.2.2)+i*2+d*s.2.2+e:=by
 unfold CM;rw[hr];generalize s.2.2=W;have e1:p*(R*2)+(2*y+d)=(p*R+y)*2+d:=by rw[BE,B6];lia
 rw[e1];generalize p*R+y=z;rw[BE,B6,<-Nat.two_mul W];lia
def tU{s:BA}{R:Nat}(hr:s.2.1=R*2)(x:List Nat)(p y i:Nat):Lp s x p y i=best x ((p*R+y)*(s.2.2+s.2.2)+i*2) [(p*R+y)*(s.2.2+s.2.2)+i*2,(p*R+y)*(s.2.2+s.2.2)+i*2+1,(p*R+y)*(s.2.2+s.2.2)+i*2+s.2.2,(p*R+y)*(s.2.2+s.2.2)+i*2+s.2.2+1]:=by
 have e0:=Vr (m:=0) hr p y i 0 0;have e1:=Vr (m:=0) hr p y i 0 1;have e2:=Vr (m:=0) hr p y i 1 0;have e3:=Vr (m:=0) hr p y i 1 1;rw[Du]at e0 e1;rw[BQ]at e2 e3;simp only[JE]at e0 e1 e2;unfold Lp best;simp only[oN,List.foldl_nil,JE,e0,e1,e2,e3];generalize(p*R+y)*(s.2.2+s.2.2)+i*2=q;have:Jt (Ab x q) (Ab x q)=false:=by unfold Jt;exact decide_eq_false (Int.lt_irrefl _)
 rw[this];simp only[NW,if_false]
def fC{α:Type}(f:Nat->List α)(b:Nat):∀a,(A8 (a*b)).flatMap f=(A8 a).flatMap λp=>(A8 b).flatMap λy=>f (p*b+y)
 |0=>by rw[Du];rfl
 |a+1=>by
  rw[BE,BQ,Yu,UC,fC f b a,PZ,UC,nF];congr 1;rw[adu]
def ack{s:BA}{R m:Nat}(hr:s.2.1=R*2)(hm:s.2.2=m*2)(x:List Nat):taken x (s.1*R) m s.2.2=(Hz (s.1,s.2.1/2,s.2.2/2)).map λz=>Lp s x z.1 z.2.1 z.2.2:=by
 unfold taken Hz;rw[show s.2.1/2=R from by lia,show(s.2.2/2)=m from by lia,fC,P7];congr 1;funext p;rw[P7];congr 1;funext y;rw[CA];refine Lm λi _=>?_;exact(tU hr x p y i).symm
def yP{s:BA}(G:Good s .pool):∃R m,s.2.1=R*2/\s.2.2=m*2/\0<R/\0<m/\s.2.2<=4096/\AK s=s.1*R*(s.2.2+s.2.2):=by
 obtain⟨t,ht,_,_⟩:=G.t;have hc:s.2.1 %2=0/\s.2.2 %2=0:=by
  by_cases c:s.2.1 %2=0/\s.2.2 %2=0
  .exact c
  .rw[Bv,if_neg c]at ht;cases ht
 have:=G.r;have:=G.c;refine⟨s.2.1/2,s.2.2/2,by lia,by lia,by lia,by lia,?_,?_⟩
 .refine Ao ?_ G.n;unfold AK;exact Hm _ (EC G.p G.r)
 .unfold AK;obtain⟨R,hR⟩:∃R,R=s.2.1/2:=⟨_,rfl⟩;rw[<-hR,show s.2.1=R*2 from by lia,<-B6,B6 _ 2,Nat.two_mul]
def a0(x:List Nat):∀(ps:List Nat)(b:Nat),best x b ps=b\/best x b ps∈ps
 |[],b=>A6 rfl
 |k::ps,b=>by
  have h:best x b (k::ps)=best x (if Jt (Ab x b) (Ab x k)=true then k else b) ps:=rfl;rw[h];split
  .rcases a0 x ps k with h|h
   .right;rw[h];exact Bu
   .right;exact Ba _ h
  .rcases a0 x ps b with h|h
   .left;exact h
   .right;exact Ba _ h
def au4{x:List Nat}{n m W k:Nat}(hm:W=m*2)(h:k∈taken x n m W):k<n*(W+W):=by
 unfold taken at h;obtain⟨j,hj,h⟩:=RQ.mp h;obtain⟨i,hi,rfl⟩:=Ca.mp h;have hj:=BD.mp hj;have hi:=BD.mp hi;have KS:j*(W+W)+(W+W)<=n*(W+W):=by
  calc j*(W+W)+(W+W)=(j+1)*(W+W):=by rw[BE,BQ]
   _<=_:=Bj _ hj
 generalize j*(W+W)=z at*;rcases a0 x [z+i*2,z+i*2+1,z+i*2+W,z+i*2+W+1] (z+i*2)with h|h
 .rw[h];lia
 .simp only[B2,DG,or_false]at h;lia
def aoi(T:Txt K mg a):A_ P w K mg base 4 a.df ["self","own","numbers"] (lD a λl=>l=.pool):=by
 refine T.ahX.Dc asY λAF A outer s H p0 p1 p2 Q E hr h nd=>?_;obtain⟨sh,l,w,x,rfl,L,G,h2,hw,⟨b3,rfl,h3⟩,hx,fw,fx,q⟩:=h;obtain⟨p,dx,g,mv,rfl,hp,hg,cP⟩:=L;obtain⟨R,m,hR,hm,R0,m0,hW,hc⟩:=yP G;refine⟨_,(AE (Aa (Q_ (own:=[("place",3)]) rfl nd (De (Bb (yW T) T.MO T.vd hr AD (pv 0) (A1 (pv 2) A3))) (Ck (by kernel_rfl)) (λ_ _ _ _ _=>(Ay (i:=3) nd rfl (A6 rfl))) (λ_ _ _ _ _=>Cg) (λ_ _ _ _ _=>(BL (uJ (K:=K) rfl) (pv 2) (pv 3) (λ_ _=>rfl)))))).Ak,?_⟩;lk;refine⟨p,dx,_,rfl,hp,by kernel_rfl,?_⟩;unfold lG;rw[Qa];refine⟨p,dx,_,_,_,sh,x,sh.1*R,m,rfl,hp,hg,⟨b3,rfl,h3⟩,hm,m0,hW,by rw[hx,hc],by rw[hx];exact G.n,fx,λd H1 s1 n1 hd=>?_⟩;lk;refine⟨⟨_,A4.of hd⟩,?_⟩;have hlen:(taken x (sh.1*R) m sh.2.2).length<=4096:=by
  unfold taken;rw[LV (m:=m) (λj _=>by rw[AV,BJ]),BJ];exact Ao (Ao (EX _ (show m<=sh.2.2+sh.2.2 by lia)) (Kq hc.symm)) G.n
 refine K0 (its:=taken x (sh.1*R) m sh.2.2) (λk=> .int ((Ab x k:Nat):Int)) (IJ _ (A4.of hd)) (λ_ _=>rfl) (B_ (by lia)) (λk hk H2 s2 Q' hq=>?_) λe H2 s2 n2 he=>?_
 .lk;exact⟨_,_,A4.of (s2 _ _ (s1 _ _ h3)),iB (by rw[hx,hc];exact au4 hm hk),hq _ (A2.refl _)⟩
 .refine q e H2 (s1.trans s2) (s1.free n2) ?_;rw[he,ack hR hm,Nv,CA,CA];rfl
def C8(H:Hp)(d:A0):Hp:=λb=>if b=d then none else H b
def Jc(k:Ac d H H'):A2 (C8 H d) H':=λb o e=>by
 unfold C8 at e;split at e
 .cases e
 .rename_i n;exact k b o e n
def Jb(h:H b=some o)(n:b≠d):C8 H d b=some o:=by unfold C8;rw[if_neg n];exact h
def wn(s:BA)(i:Nat):Nat:=CM (s.1,s.2.1/2,s.2.2/2) (i/(s.2.1*s.2.2)) (i %(s.2.1*s.2.2)/s.2.2/2) (i %(s.2.1*s.2.2) %s.2.2/2)
def F_(s:BA)(x:List Nat):List Nat:=(Hz (s.1,s.2.1/2,s.2.2/2)).map λz=>Lp s x z.1 z.2.1 z.2.2
def yO(s:BA)(x:List Nat):(F_ s x).length=AK (s.1,s.2.1/2,s.2.2/2):=by
 unfold F_;rw[places_eq,AV,AV,BJ,AK,B6]
def yN(h:m<AK (s.1,s.2.1/2,s.2.2/2)):Ab (F_ s x) m=Lp s x (m/(s.2.1/2*(s.2.2/2))) (m %(s.2.1/2*(s.2.2/2))/(s.2.2/2)) (m %(s.2.1/2*(s.2.2/2)) %(s.2.2/2)):=by
 rw[Dh (by rw[yO];exact h)];unfold F_;simp only[places_eq,Jm,FC]
def ajG(hr:s.2.1=R*2)(x:List Nat)(p y c:Nat):∃d e,d<2/\e<2/\Lp s x p y c=CM s p (2*y+d) (2*c+e):=by
 have hx:∀d e,CM s p (2*y+d) (2*c+e)=(p*R+y)*(s.2.2+s.2.2)+c*2+d*s.2.2+e:=Vr (m:=0) hr p y c;have h:=a0 x [(p*R+y)*(s.2.2+s.2.2)+c*2,(p*R+y)*(s.2.2+s.2.2)+c*2+1,(p*R+y)*(s.2.2+s.2.2)+c*2+s.2.2,(p*R+y)*(s.2.2+s.2.2)+c*2+s.2.2+1] ((p*R+y)*(s.2.2+s.2.2)+c*2);rw[<-tU hr]at h;simp only[B2,DG,or_false]at h;rcases h with h|h|h|h|h
 .exact⟨0,0,by decide,by decide,by rw[h,hx];lia⟩
 .exact⟨0,0,by decide,by decide,by rw[h,hx];lia⟩
 .exact⟨0,1,by decide,by decide,by rw[h,hx];lia⟩
 .exact⟨1,0,by decide,by decide,by rw[h,hx];lia⟩
 .exact⟨1,1,by decide,by decide,by rw[h,hx];lia⟩
def acY(hr:s.2.1=R*2)(hc:s.2.2=c*2)(h:m<AK (s.1,s.2.1/2,s.2.2/2)):wn s (Ab (F_ s x) m)=m/\Ab (F_ s x) m<AK s:=by
 rw[yN h];obtain⟨b1,b2,b3⟩:=ua (s:=(s.1,s.2.1/2,s.2.2/2)) h;have ix:=ud (s:=(s.1,s.2.1/2,s.2.2/2)) (i:=m);simp only at b1 b2 b3 ix;generalize m/(s.2.1/2*(s.2.2/2))=p at*;generalize m %(s.2.1/2*(s.2.2/2))/(s.2.2/2)=y at*;generalize m %(s.2.1/2*(s.2.2/2)) %(s.2.2/2)=z at*;obtain⟨d,e,hd,he,hg⟩:=ajG hr x p y z;rw[hg];obtain⟨i1,i2,i3⟩:=uc (s:=s) (p:=p) (y:=2*y+d) (x:=2*z+e) (by lia) (by lia);refine⟨?_,bV b1 (by lia) (by lia)⟩;unfold wn;rw[i1,i2,i3,show(2*y+d)/2=y from by lia,show(2*z+e)/2=z from by lia,ix]
def Ii(s:BA)(x g:List Nat)(m:Nat):List Nat:=(A8 (AK s)).map λi=>if wn s i<m/\Ab (F_ s x) (wn s i)=i then Ab g (wn s i)else 0
def yM(h:i<(Ii s x g m).length):(Ii s x g m)[i]=if wn s i<m/\Ab (F_ s x) (wn s i)=i then Ab g (wn s i)else 0:=by
 simp only[Ii,Jm,FC]
def ap0(hr:s.2.1=R*2)(hc:s.2.2=c*2)(h:m<AK (s.1,s.2.1/2,s.2.2/2)):(Ii s x g m).set (Ab (F_ s x) m) (Ab g m)=Ii s x g (m+1):=by
 obtain⟨h1,h2⟩:=acY (x:=x) hr hc h;refine FE (by simp[Ii]) λi a1 a2=>?_;rw[List.getElem_set,yM a2];by_cases e:Ab (F_ s x) m=i
 .rw[if_pos e];rw[e]at h1;rw[h1,if_pos ⟨by lia,e⟩]
 .rw[if_neg e];rw[yM];by_cases ew:wn s i=m
  .rw[ew,if_neg (by lia),if_neg (λz=>e z.2)]
  .by_cases c1:wn s i<m/\Ab (F_ s x) (wn s i)=i
   .rw[if_pos c1,if_pos ⟨by lia,c1.2⟩]
   .rw[if_neg c1,if_neg (λz=>c1 ⟨by lia,z.2⟩)]
def aoz{x g w:List Nat}(h0:0<s.2.1)(h0':0<s.2.2){R c:Nat}(hr:s.2.1=R*2)(hc:s.2.2=c*2):some (Ii s x g (AK (s.1,s.2.1/2,s.2.2/2)))=H_ s .pool w x g:=by
 unfold H_ Ii;rw[places_eq,CA];refine congrArg some ?_;rw[show s.1*(s.2.1*s.2.2)=AK s from(B6 ..).symm];refine Lm λi hi=>?_;have hi:i<AK s:=BD.mp hi;obtain⟨b1,b2,b3⟩:=ua hi;have hw:wn s i<AK (s.1,s.2.1/2,s.2.2/2):=bV (s:=(s.1,s.2.1/2,s.2.2/2)) b1 (by simp only;lia) (by simp only;lia);simp only[af0];rw[yN hw,ud];obtain⟨i1,i2,i3⟩:=uc (s:=(s.1,s.2.1/2,s.2.2/2)) (p:=i/(s.2.1*s.2.2)) (y:=i %(s.2.1*s.2.2)/s.2.2/2) (x:=i %(s.2.1*s.2.2) %s.2.2/2) (by simp only;lia) (by simp only;lia);simp only at i1 i2 i3;unfold wn;unfold wn at hw;rw[i1,i2,i3];by_cases e:Lp s x (i/(s.2.1*s.2.2)) (i %(s.2.1*s.2.2)/s.2.2/2) (i %(s.2.1*s.2.2) %s.2.2/2)=i
 .rw[if_pos ⟨hw,e⟩,if_pos e]
 .rw[if_neg (λz=>e z.2),if_neg e]
def ap1(s:BA)(x g:List Nat):Ii s x g 0=Ar (AK s) 0:=by
 unfold Ii;refine FE (by simp) λi a1 a2=>?_;simp
def aog(T:Txt K mg a):A_ P w K mg base 4 a.d_ ["self","own","numbers","g"] (lB a λl=>l=.pool):=by
 refine T.ahV.J7 asW λAF A outer s H p0 p1 p2 p3 Q E hr h nd=>?_;obtain⟨sh,l,w,x,g,t,rfl,L,G,h2,hw,⟨b3,rfl,h3⟩,hx,⟨b4,rfl,h4⟩,ht,hg,fw,fx,fg,q⟩:=h;obtain⟨p,dx,gv,mv,rfl,hp,OF,cP⟩:=L;obtain⟨R,m,hR,hm,R0,m0,hW,hc⟩:=yP G;refine⟨_,(A7 (AW (i:=4) nd rfl (A6 rfl) (AM TV (Bn (A1 (Au T.KD) A3)) (CG EH (by rfl) T.E0 Dt (A1 (pv 2) A3)))) (A7 (E5 Dd rfl (Mn (by rfl) T.LZ (A1 (pv 3) (A1 (Bb (yW T) T.MO T.vd hr AD (pv 0) (A1 (pv 2) A3)) A3))) (Lg (n:=2) rfl (Cs (Ay (i:=5) nd rfl (A6 rfl)) (Cs (Ay (i:=6) nd rfl (A6 rfl)) Hg))) (AE (WY (pv 5) (WT (pv 4) (pv 6) set_list)))) (AE (Aa (pv 4))))).Ak,?_⟩;lk;have hn:=G.n;refine⟨by decide,λc nc=>⟨_,A6 (A4.of (A2.one nc _ _ h3)),_,AB,by lia,by rw[AV];lia,B_ (by rw[AV];show 1*x.length<=_;lia),λd BX=>?_⟩⟩;rw[AV,show((x.length:Nat):Int).toNat=x.length from rfl,Ul];have s2:=(A2.one (o:=.lst [V.int 0]) nc).new (o:=.lst (Nv (Ar x.length 0))) BX;generalize iJ:upd (upd H c (.lst [V.int 0])) d (.lst (Nv (Ar x.length 0)))=H2 at*;have hd2:H2 d=some (.lst (Nv (Ar x.length 0))):=by rw[<-iJ,AB]
 refine⟨p,dx,_,rfl,s2 _ _ hp,by kernel_rfl,?_⟩;unfold lG;rw[Qa];refine⟨p,dx,_,_,_,sh,x,sh.1*R,m,rfl,s2 _ _ hp,OF.mono s2,⟨b3,rfl,s2 _ _ h3⟩,hm,m0,hW,by rw[hx,hc],by rw[hx];exact G.n,fx,λe H3 s3 n3 he=>?_⟩;rw[ack hR hm]at he;have he:H3 e=some (.lst (Nv (F_ sh x))):=he;have tW:=s3 _ _ (s2 _ _ h4);have kM:H d=none:=(A2.one (o:=.lst [V.int 0]) nc).free BX;have ed:e≠d:=λz=>by rw[z,hd2]at n3;cases n3
 have bd:b4≠d:=Dm h4 kM;lk;refine⟨_,_,A4.of tW,A4.of he,?_⟩;have h9:g.length=AK (sh.1,sh.2.1/2,sh.2.2/2):=by
  rw[Bv,if_pos ⟨by lia,by lia⟩]at ht;cases ht;exact hg
 have hTl:=yO sh x;have LU:(g.zip (F_ sh x)).length=AK (sh.1,sh.2.1/2,sh.2.2/2):=by rw[Br];lia
 refine HU (H0:=C8 H3 d) (its:=g.zip (F_ sh x)) (Mb _ _ (A4.of (Jb tW bd)) (A4.of (Jb he ed))) (λr σ H'=>Ac d H3 H'/\Eb λ(k:Nat)(o1 o2:Option V)=>Fm (r=(g.zip (F_ sh x)).drop k) (σ=[some (.ref p),some p1,some (.ref b3),some (.ref b4),some (.ref d),o1,o2]) (k<=AK (sh.1,sh.2.1/2,sh.2.2/2)) (H' d=some (.lst (Nv (Ii sh x g k))))) ⟨Ac.refl d H3,0,none,none,rfl,rfl,Er _,by rw[ap1,s3 _ _ hd2,hx]⟩ (λ_ _ _ h=>Jc h.1) ?_ ?_
 .intro AG r σ H4 H5 sr EI s5;w_up;obtain⟨gm,pl⟩:=AG;obtain⟨k4,k,o1,o2,FX,rfl,hk,SW⟩:=EI;fin2;have B3:k<(g.zip (F_ sh x)).length:=by
   rcases Nat.lt_or_ge k (g.zip (F_ sh x)).length with h|h
   .exact h
   .rw[nI h]at FX;cases FX
  rw[YQ B3]at FX;injection FX with e1 e2
  rw[Z4]at e1;injection e1 with e3 e4
  have e3:gm=Ab g k:=by rw[e3,Dh]
  have e4:pl=Ab (F_ sh x) k:=by rw[e4,Dh]
  obtain⟨w1,w2⟩:=acY (x:=x) hR hm (show k<_ by lia);subst e3 e4;unfold SK Tf;lk;have Ax:(Ii sh x g k).length=AK sh:=by rw[Ii,AV,BJ]
  refine⟨_,Ab (F_ sh x) k,s5 _ _ SW,?_,?_,k+1,_,_,e2,rfl,by lia,?_⟩
  .unfold Gr;rw[if_pos (by lia),AV,Ax,if_pos (ZJ.mpr w2)];rfl
  .exact(k4.same s5).upd
  .rw[AB,<-ap0 hR hm (show k<_ by lia),Nv,Nv,ZU]
 .intro σ H4 AG;w_up;obtain⟨k4,k,o1,o2,FX,rfl,hk,SW⟩:=AG;fin2;lk;have:k=AK (sh.1,sh.2.1/2,sh.2.2/2):=by
   have:=congrArg Hy FX;rw[Na,Di]at this;lia
  rw[this]at SW;rw[<-aoz G.r G.c hR hm]at q;exact q d H4 (λb o e=>k4 b o (s3 b o (s2 b o e)) (Dm e kM)) kM SW
def apD(x y z u v t:V):AS "own_count" t (AS "made" v (AS "given" u (AS "weights" z (AS "half" y (AS "window" x [])))))=G9 x y z u v t:=by kernel_rfl
def alb(x y z:V):(AS "weights" z (AS "half" y (AS "window" x []))).lookup ("weights":Str)=some z:=by kernel_rfl
def lA(a:Ad):Sp:=Hi λv1 v2 v3 v4 H Q _=>Es λ(p dx:A0)(s:Cu)(o k:Nat)=>Cn (v1=.ref p) (H p=some (.ins a.Conv dx [])) (BB a H v2 s) (Small s) (v3=.int (o:Int)) (v4=.int (k:Int)) (o<2^32) ((k<2^32)/\∀u m H',Ac p H H'->H' p=some (.ins a.Conv dx (G9 (.int (k:Int)) (.int ((k/2:Nat):Int)) (.ref u) v2 (.ref m) (.int ((o*s.1*k*k+o:Nat):Int))))->u≠p->m≠p->BB a H' (.ref u) (s.1,k,k)->BB a H' (.ref m) (o,s.2.1,s.2.2)->Q .Ah H')
def xJ(T:Txt K mg a):A_ P w K mg base 3 a.eC ["self","given","planes","window"] (lA a):=by
 refine T.agV.J7 ar8 λAF A outer s H p0 p1 p2 p3 Q E hr h nd=>?_;obtain⟨p,dx,sh,o,k,rfl,hp,⟨b,db,rfl,hb⟩,sm,rfl,rfl,ho,hk,q⟩:=h;refine⟨_,(A7 (C9 (pv 0) (pv 3) rfl) (A7 (C9 (pv 0) (AM K6 (pv 3) Am) rfl) (A7 (C9 (pv 0) (F9 (TM T) T.To T.SM hr AD (A1 (AH (pv 1) rfl) (A1 (pv 3) (A1 (pv 3) A3)))) rfl) (A7 (AW (i:=4) nd rfl (A6 rfl) (F9 (TM T) T.To T.SM hr AD (A1 (pv 2) (A1 (AH (pv 1) rfl) (A1 (AH (pv 1) rfl) A3))))) (AE (Df (Y1 (Xt T) T.a9 T.bP hr AD (A1 (pv 0) (A1 (pv 1) (A1 (pv 4) (A1 (AM Cr (AM ID (pv 2) (Cf (LW T) T.FQ T.L6 hr AD (AH (pv 0) rfl))) (pv 2)) A3))))))))))).Ak,?_⟩;refine cut λU hU=>?_;lk;refine⟨p,_,_,_,rfl,hp,T.Ew,T.vT,by decide,?_⟩;subst hU;refine cut λU hU=>?_;lk;refine⟨⟨by decide,by decide⟩,p,_,_,_,rfl,AB,T.Ew,T.vQ,(by show 1<1000;decide),?_⟩;rw[Ds];subst hU;refine cut λU hU=>?_;lk;have bp:b≠p:=λz=>by
  rw[z,hp]at hb;injection hb with hb
  injection hb with _ _ hb
  cases(show([]:List (Str×V))=[_,_,_]from hb)
 generalize hA:upd H p (.ins a.Conv dx (AS "half" (.int ((k:Int)/2)) (AS "window" (.int (k:Int)) [])))=HA;have LJ:HA b=some (.ins a.Shape db (JU (.int sh.1) (.int sh.2.1) (.int sh.2.2))):=by rw[<-hA,AY bp];exact hb
 have um:HA p=some (.ins a.Conv dx (AS "half" (.int ((k:Int)/2)) (AS "window" (.int (k:Int)) []))):=by rw[<-hA,AB]
 have kA:Ac p H HA:=by rw[<-hA];exact(Ac.refl p H).upd
 repeat (simp only[DX T LJ,DY T LJ,DW T LJ];lk)
 refine Sy (sh.1,k,k) rfl rfl rfl λu HB sB nu hu=>?_;have up:u≠p:=λz=>by rw[z,um]at nu;cases nu
 refine⟨p,_,_,_,rfl,sB _ _ um,T.Ew,T.ic,(by show 2<1000;decide),?_⟩;generalize hC:upd HB p (.ins a.Conv dx (AS "weights" (.ref u) (AS "half" (.int ((k:Int)/2)) (AS "window" (.int (k:Int)) []))))=HC;have iS:HC b=some (.ins a.Shape db (JU (.int sh.1) (.int sh.2.1) (.int sh.2.2))):=by rw[<-hC,AY bp];exact sB _ _ LJ
 have jE:HC p=some (.ins a.Conv dx (AS "weights" (.ref u) (AS "half" (.int ((k:Int)/2)) (AS "window" (.int (k:Int)) [])))):=by rw[<-hC,AB]
 have v7:BB a HC (.ref u) (sh.1,k,k):=by
  obtain⟨_,du,e,hu⟩:=hu;cases e;exact⟨u,du,rfl,by rw[<-hC,AY up];exact hu⟩
 have kC:Ac p H HC:=by rw[<-hC];exact(kA.same sB).upd
 subst hU;refine cut λU hU=>?_;lk;repeat (simp only[DX T iS,DY T iS,DW T iS];lk)
 refine Sy (o,sh.2.1,sh.2.2) rfl rfl rfl λm HD sD nm hm=>?_;have mp:m≠p:=λz=>by rw[z,jE]at nm;cases nm
 subst hU;unfold Wu;lk;rw[Bq (sD _ _ jE) T.Ew T.ic (alb ..)];obtain⟨_,du,e,uz⟩:=id v7;cases e;refine⟨u,du,_,rfl,sD _ _ uz,by kernel_rfl,(sh.1,k,k),v7.mono sD,⟨sm.1,hk,hk⟩,?_⟩;have hc:sh.1*(k*k)<2^32*(2^32*2^32):=Ls sm.1 (Ls hk hk);lk;refine⟨⟨G7 (by lia),G7 (by lia)⟩,p,a.Conv,dx,_,rfl,sD _ _ jE,wB T,(by show 3<900;decide),?_⟩;rw[apD,<-CK,<-IV];obtain⟨_,dm,e,hm⟩:=hm;cases e;refine q u m _ ((kC.same sD).upd) ?_ up mp ⟨u,du,rfl,by rw[AY up];exact sD _ _ uz⟩ ⟨m,dm,rfl,by rw[AY mp];exact hm⟩;rw[AB,IT,show o*sh.1*k*k=o*(sh.1*(k*k))from by rw[B6 (o*sh.1),B6 o]];rfl
def QC(a:Ad)(H:Hp)(v:V)(s:Cu)(o k:Nat):Prop:=Et λp dx g m u c=>Im (v=.ref p) (H p=some (.ins a.Conv dx (G9 (.int (k:Int)) (.int ((k/2:Nat):Int)) u g m c))) (BB a H g s) (BB a H m (o,s.2.1,s.2.2)) (BB a H u (s.1,k,k))
def amo{H:Hp}{R:A0->Hp->Prop}(q:∀x H',A2 H H'->H x=none->Ud a H' (.ref x) t b l r->R x H'):
 ∀x' dx,H x'=none->H dx=none->dx≠x'->l9 a [.ref x',.int t,.int b,.int l,.int r] (upd (upd H dx (.own x')) x' (.ins a.Gg dx [])) (λv H2=>v=.Ah/\R x' H2) E:=by
 intro x' dx nx nd ne;refine⟨x',dx,rfl,AB,rfl,?_⟩;rw[Ds];exact q x' _ (((A2.refl H).new nd).new (by rw[AY ne.symm];exact nx)) nx ⟨x',dx,rfl,AB⟩
def ab2(a:Ad):Sp:=Qi λv1 v2 v3 v4 v5 H Q _=>Es λ(s:Cu)(o k y x:Nat)=>EN λ(n m:Nat)=>S_ (QC a H v1 s o k) (v2=.int (y:Int)) (v3=.int (x:Int)) (v4=.int (n:Int)) (v5=.int (m:Int)) (∀v H',A2 H H'->Ud a H' v (AQ k y:Int) (Aj k n s.2.1 y:Int) (AQ k x:Int) (Aj k m s.2.2 x:Int)->Q v H')
def xK(T:Txt K mg a):A_ P w K mg base 3 a.eE ["self","y","x","rows","columns"] (ab2 a):=by
 refine T.agt.Xs aqj λAF A outer s H p0 p1 p2 p3 p4 Q E hr h nd=>?_;obtain⟨sh,o,k,y,x,n,m,⟨p,dx,g,mv,u,c,rfl,hp,⟨b,db,rfl,hb⟩,_,_⟩,rfl,rfl,rfl,rfl,q⟩:=h;refine⟨_,(A7 (AW (i:=5) nd rfl (A6 rfl) (CG (aD rfl) (by rfl) T.S8 boot_max (A1 Am (A1 (AM Dn (AH (pv 0) rfl) (pv 1)) A3)))) (A7 (AW (i:=6) nd rfl (A6 rfl) (CG (aD rfl) (by rfl) T.S8 boot_max (A1 Am (A1 (AM Dn (AH (pv 0) rfl) (pv 2)) A3)))) (A7 (AW (i:=7) nd rfl (A6 rfl) (CG (p_ rfl) (by rfl) T.ph boot_min (A1 (pv 3) (A1 (AM Dn (AM Cr (AH (AH (pv 0) rfl) rfl) (AH (pv 0) rfl)) (pv 1)) A3)))) (A7 (AW (i:=8) nd rfl (A6 rfl) (CG (p_ rfl) (by rfl) T.ph boot_min (A1 (pv 4) (A1 (AM Dn (AM Cr (AH (AH (pv 0) rfl) rfl) (AH (pv 0) rfl)) (pv 2)) A3)))) (AE (Aa (F9 (xH T) T.vo T.rS hr AD (A1 (pv 5) (A1 (CG (aD rfl) (by rfl) T.S8 boot_max (A1 (pv 5) (A1 (pv 7) A3))) (A1 (pv 6) (A1 (CG (aD rfl) (by rfl) T.S8 boot_max (A1 (pv 6) (A1 (pv 8) A3))) A3))))))))))).Ak,?_⟩;lk;repeat (simp only[E6 T hp,Dw T hp,E4 T hp,Dv T hp,Dx T hp,Dy T hp,DX T hb,DY T hb,DW T hb];lk)
 refine amo λz H1 s1 nz hz=>q _ _ s1 ?_;have e1:max 0 (((k/2:Nat):Int)-(y:Int))=((AQ k y:Nat):Int):=(b5 ..).symm;have e2:max 0 (((k/2:Nat):Int)-(x:Int))=((AQ k x:Nat):Int):=(b5 ..).symm;have e3:=tO k n sh.2.1 y;have e4:=tO k m sh.2.2 x;rw[e3,e4,e1,e2]at hz;exact hz
def MR{ι:Type}{J:It}{g:TG}{tb:TS}{D:Ends}{σ:L2.St}{H0 H:Hp}{its:List ι}{bind:ι->L2.St->L2.St}(T:CJ J g H0 its bind)(Pv:Nat->L2.St->Hp->Prop)(h0:Pv 0 σ H)(hk:∀i σ H,Pv i σ H->A2 H0 H)
 (hs:∀i it σ H H',its[i]? =some it->Pv i σ H->A2 H H'->tb {D with nx:=Pv (i+1),ct:=Pv (i+1),bk:=D.nx} (bind it σ) H')(hd:∀σ H,Pv its.length σ H->D.nx σ H):ForIn J g tb D σ H:=by
 refine⟨λi m σ H=>m=its.length-i/\i<=its.length/\Pv i σ H,⟨its.length,by simp,Er _,h0⟩,?_⟩;rintro i m σ H ⟨rfl,hi,p⟩;have q:=hk _ _ _ p;by_cases B3:i<its.length
 .refine .inr ⟨T.go i H q B3,Pv (i+1),λB1 H' p'=>⟨its.length-(i+1),YK _ _ B3,rfl,B3,p'⟩,λx H' y=>?_⟩;exact T.FA i its[i] H q (by simp[B3]) x H' y σ _ λBp s=>hs i _ σ H Bp (by simp[B3]) p s
 .have e:i=its.length:=Yp hi (Nj.1 B3);subst e;exact .inl ⟨T.stop _ H q (Az _),hd σ H p⟩
def wI{σ:L2.St}{H1:Hp}{Q:VK}{its:List ι}{bind:ι->L2.St->L2.St}(T:CJ J g H1 its bind)
 (hw:∀it∈its,wipe (bind it (wipe σ vs)) vs=wipe σ vs)(hsz:its.length<=Al)
 (Jy:∀it∈its,∀H',A2 H1 H'->∀Q':VK,DB H' Q' []->te (bind it (wipe σ vs)) H' Q')
 (hq:∀D(ps:List A0)H',A2 H1 H'->H1 D=none->H' D=some (.lst (ps.map V.ref))->ps.length=its.length->ps.Nodup->D∉ps->(∀p∈ps,H1 p=none/\H' p=some (.lst []))->Q (.ref D) H'):ON J g Oi te vs σ H1 Q:=by
 intro D nD;let I:Nat->Hp->Prop:=λi H=>A2 H1 H/\∃ps:List A0,H D=some (.lst (ps.map V.ref))/\ps.length=i/\ps.Nodup/\D∉ps/\∀p∈ps,H1 p=none/\H p=some (.lst []);refine⟨λi m H=>m=its.length-i/\i<=its.length/\I i H,⟨its.length,by simp,Er _,A2.one nD,[],AB,rfl,UE,by simp,λ_ h=>by simp at h⟩,?_⟩;intro i m H AG;w_up;obtain⟨rfl,hi,s1,ps,e1,e2,e3,e4,e5⟩:=AG;fin2;by_cases B3:i<its.length
 .refine .inr ⟨T.go i H s1 B3,I (i+1),λH' p'=>⟨its.length-(i+1),YK _ _ B3,rfl,B3,p'⟩,λx H' y=>?_⟩;refine T.FA i its[i] H s1 (by simp[B3]) x H' y _ _ λBp s2=>⟨hw _ (IU B3),?_⟩;show if true=true then te _ _ _ else I (i+1) Bp
  rw[if_pos rfl];refine Jy _ (IU B3) Bp (s1.trans s2) _ λp H4 s3 np hp=>?_;have d4:H4 D=some (.lst (ps.map V.ref)):=s3 _ _ (s2 _ _ e1);have pD:p≠D:=λz=>by rw[z,s2 _ _ e1]at np;cases np
  have pps:p∉ps:=λz=>by rw[s2 _ _ (e5 p z).2]at np;cases np
  refine⟨_,d4,by rw[AV];lia,((s1.trans s2).trans s3).own nD,ps++[p],by rw[AB,E9];rfl,by rw[Bo,e2];rfl,?_,?_,?_⟩
  .rw[List.nodup_append];exact⟨e3,by simp,λx hx y hy=>by rw[C5.mp hy];exact λz=>pps (z▸hx)⟩
  .intro z;rcases Hr.mp z with z|z
   .exact e4 z
   .exact pD (C5.mp z).symm
  .intro x hx;rcases Hr.mp hx with hx|hx
   .have:x≠D:=λz=>e4 (z▸hx);exact⟨(e5 x hx).1,by rw[AY this];exact s3 _ _ (s2 _ _ (e5 x hx).2)⟩
   .rw[C5.mp hx];exact⟨(s1.trans s2).free np,by rw[AY pD];exact hp⟩
 .have e:i=its.length:=Yp hi (Nj.1 B3);subst e;exact .inl ⟨T.stop _ H s1 (Az _),hq D ps H s1 nD e1 e2 e3 e4 e5⟩
def Aw(H:Hp)(ds:List A0):Hp:=λb=>if b∈ds then none else H b
def EJ(h:H b=some o)(n:b∉ds):Aw H ds b=some o:=by unfold Aw;rw[if_neg n];exact h
def E7:A2 (Aw H ds) H:=λb o e=>by
 unfold Aw at e;split at e
 .cases e
 .exact e
def F6(s:A2 H H'):A2 (Aw H ds) (Aw H' ds):=λb o e=>by
 unfold Aw at e;split at e
 .cases e
 .rename_i n;exact EJ (s b o e) n
def GH(h:p∈ds):Aw (upd H p o) ds=Aw H ds:=by
 funext b;unfold Aw;split
 .rfl
 .rename_i n;exact AY λz=>n (z▸h)
def Ci(H:Hp)(ps:List A0)(ls:List (List V)):Prop:=BG (λl p=>H p=some (.lst l)) ls ps
def Ci.mono(h:Ci H ps ls)(s:A2 H H'):Ci H' ps ls:=BG.mono (λ_ _ e=>s _ _ e) h
def Ci.away:∀{ps:List A0}{ls:List (List V)},Ci H ps ls->p∉ps->Ci (upd H p o) ps ls
 |[],[],_,_=>trivial
 |q::ps,x::ls,h,n=>by
  refine⟨?_,Ci.away h.2 λz=>n (Ba _ z)⟩;show upd H p _ q=_;rw[AY λz=>n (by rw[<-z];exact Bu)];exact h.1
def Ci.put(l:List V):∀{ps:List A0}{ls:List (List V)}{j:Nat},Ci H ps ls->ps.Nodup->ps[j]? =some p->Ci (upd H p (.lst l)) ps (ls.set j l)
 |[],[],j,_,_,e=>by simp at e
 |q::ps,x::ls,0,h,nd,e=>by
  cases e;refine⟨AB,?_⟩;exact Ci.away h.2 (DT.mp nd).1
 |q::ps,x::ls,j+1,h,nd,e=>by
  refine⟨?_,Ci.put l h.2 (DT.mp nd).2 e⟩;have hp:p∈ps:=DS e;show upd H p _ q=_;rw[AY (show q≠p from λz=>(DT.mp nd).1 (by rw[z];exact hp))];exact h.1
def Ci.ls:∀{ps:List A0}{ls:List (List V)},Ci H ps ls->AX H (ps.map V.ref) ls
 |[],[],_=>trivial
 |_::_,_::_,h=>⟨⟨_,rfl,h.1⟩,Ci.ls h.2⟩
structure GoodC(s:Cu)(o k:Nat):Prop where
 p0:0<s.1
 r0:0<s.2.1
 c0:0<s.2.2
 o0:0<o
 hn:AK s<=4096
 hm:o*(s.2.1*s.2.2)<=4096
 hk:k=1\/k=3\/k=5
 hw:o*(s.1*(k*k))<=65536
def CQ(lf:List Nat)(n pl:Nat):List Nat:=(lf.drop (pl*n)).take n
def Lh(s:Cu)(k:Nat)(lf:List Nat)(pl t b l r:Nat):List Nat:=Ex (CQ lf (s.1*(k*k)) pl) (s.1,k,k) t b l r
def cell(s:Cu)(k:Nat)(st lf rt:List Nat)(pl y x:Nat):Option Nat:=Bf (Ab st pl) ((Lh s k lf pl (AQ k y) (Aj k k s.2.1 y) (AQ k x) (Aj k k s.2.2 x)).zip (Ex rt s (AQ k y+y-k/2) (Aj k k s.2.1 y+y-k/2) (AQ k x+x-k/2) (Aj k k s.2.2 x+x-k/2)))
def convS(s:Cu)(o k:Nat)(st lf rt:List Nat):Option (List (List Nat)):=(A8 o).mapM λpl=>(A8 (s.2.1*s.2.2)).mapM λq=>cell s k st lf rt pl (q/s.2.2) (q %s.2.2)
def WR(f:Nat->α)(lf:List Nat)(n:Nat):∀o,lf.length=o*n->(((A8 o).map λpl=>(CQ lf n pl).map f).flatten=lf.map f)
 |o,h=>by
  have:∀m,m<=o->((A8 m).map λpl=>(CQ lf n pl).map f).flatten=(lf.take (m*n)).map f:=by
   intro m;induction m with
   |zero=>intro _;rw[Du];rfl
   |succ m ih=>
    intro hm;rw[PZ,E9,nU,ih (by lia),BE,BQ,List.take_add,E9];congr 1;rw[List.map_singleton,adi];rfl
  rw[this o (Az _),<-h,Z1]
def Sq(s:A2 (Aw H ds) H'):A2 (Aw H ds) (Aw H' ds):=λb o e=>by
 have h:=s b o e;unfold Aw at e;split at e
 .cases e
 .rename_i n;exact EJ h n
def X_(s:A2 H H')(n:∀d∈ds,H d=none):A2 H (Aw H' ds):=λb o e=>EJ (s b o e) λz=>by rw[n b z]at e;cases e
def j4{σ:L2.St}{H1:Hp}{Q:VK}{its:List ι}{bind:ι->L2.St->L2.St}(ds:List A0)(aq:∀d∈ds,H1 d≠none)(f:ι->List V)(T:CJ J g H1 its bind)
 (hw:∀it∈its,wipe (bind it (wipe σ vs)) vs=wipe σ vs)(hsz:its.length<=Al)
 (Jy:∀it∈its,∀H',A2 H1 H'->∀Q':VK,DB H' Q' (f it)->te (bind it (wipe σ vs)) H' Q')
 (hq:∀p ws H',A2 H1 H'->H1 p=none->p∉ds->H' p=some (.lst ws)->AX (Aw H' ds) ws (its.map f)->Q (.ref p) H'):ON J g Oi te vs σ H1 Q:=by
 refine So (λit=>some (f it)) (λy v H=>AL (Aw H ds) v y) (λ_=>True) T hw hsz (λit hi H' s Q' h _=>Jy it hi H' s Q' λp Bp s' n e=>h _ rfl _ Bp s' λD nD H3 k=>?_) (λ_ _ _=>trivial) λys e p ws H' s n hp a=>?_
 .refine⟨p,rfl,EJ (k p _ e λz=>nD (z▸n)) λz=>?_⟩;have:=s.free n;exact aq p z this
 .rw[mapM_pure]at e;cases e;exact hq p ws H' s n (λz=>aq p z n) hp (AX.of2 a)
def MF.b7{st lf rt xs ys:List Nat}{s:Nat}(ok:MF fine st lf rt)(hs:s∈st)(hx:∀x∈xs,x∈lf)(hy:∀x∈ys,x∈rt)(hz:(xs.zip ys).length<2^17):fine=true->s≠2^31/\∃B,Rz B xs ys/\(fv s).natAbs<=2^B/\(xs.zip ys).length<2^17:=λe=>by
 obtain⟨B,F,h⟩:=ok e;exact⟨(h s hs).1,B,⟨F.lo,F.hi,λx Jz y Vp=>F.pr x (hx x Jz) y (hy y Vp)⟩,(h s hs).2,hz⟩
def auh(a:Ad):Sp:=Dq λv1 v2 H Q E=>Es λ(s:Cu)(o k:Nat)(fine:Bool)(st:List Nat)=>EN λ(lf rt:List Nat)=>Cn (QC a H v1 s o k) (qY a H v2 fine st lf rt) (MF fine st lf rt) (GoodC s o k) (st.length=o) (lf.length=o*(s.1*(k*k))) (rt.length=AK s) (Fm ((∀x∈st,AI x)) ((∀x∈lf,AI x)) ((∀x∈rt,AI x)) (match convS s o k st lf rt with
 |some X9=>(∀z∈X9.flatten,AI z/\(fine=true->z≠2^31))->X9.flatten.length<=4096->DB H Q (X9.flatten.map (Ce fine))
 |none=>∀H',A2 H H'->E (.ref a.DC) none H'))
def d9(s:Cu)(o k:Nat)(st lf rt:List Nat)(c:Nat->Nat)(BH:List (List Nat)):Prop:=BH.length=o/\∀pl,pl<o->∃acc,BH[pl]? =some acc/\(A8 (c pl)).mapM (λq=>cell s k st lf rt pl (q/s.2.2) (q %s.2.2))=some acc
def DI(s:Cu)(o k:Nat)(fine:Bool)(lf:List Nat)(R:Hp)(A9:List (List Key×V)):Prop:=∀(t b l r:Nat)(v:V),DA A9 [.inl (t:Int),.inl (b:Int),.inl (l:Int),.inl (r:Int)]=some v->∃vs,AL R v vs/\AX R vs ((A8 o).map λpl=>(Lh s k lf pl t b l r).map (im fine))
def DI.mono(h:DI s o k fine lf R A9)(e:A2 R R'):DI s o k fine lf R' A9:=λt b l r v hv=>by
 obtain⟨vs,h1,h2⟩:=h t b l r v hv;exact⟨vs,h1.mono e,h2.mono e⟩
def QC.mono(h:QC a H v s o k)(e:A2 H H'):QC a H' v s o k:=by
 obtain⟨p,dx,g,m,u,c,rfl,h1,h2,h3,h4⟩:=h;exact⟨p,dx,g,m,u,c,rfl,e _ _ h1,h2.mono e,h3.mono e,h4.mono e⟩
def fD{f:α->List β}{m:Nat}:∀{l:List α},(∀x∈l,(f x).length<=m)->(l.flatMap f).length<=l.length*m
 |[],_=>by simp
 |x::l,h=>by
  have h1:=h x Bu;have h2:=fD (f:=f) (l:=l) λy hy=>h y (Ba _ hy);rw[Fx,Bo,B4,BE];lia
def Uq{α:Type}(xs:List α)(s:Cu)(t b l r:Nat):(Ex xs s t b l r).length<=s.1*((b-t)*(r-l)):=by
 unfold Ex;have:=fD (l:=A8 s.1) (m:=(b-t)*(r-l)) (f:=λp=>(A8 (b-t)).flatMap λi=>(xs.drop ((p*s.2.1+(t+i))*s.2.2+l)).take (r-l)) λp _=>by
  have:=fD (l:=A8 (b-t)) (m:=r-l) (f:=λi=>(xs.drop ((p*s.2.1+(t+i))*s.2.2+l)).take (r-l)) λi _=>by
   rw[EW];exact NY ..
  rwa[BJ]at this
 rwa[BJ]at this
def O0(f:Nat->V)(xs:List Nat)(s:Cu)(t b l r:Nat):b9 (xs.map f) s t b l r=(Ex xs s t b l r).map f:=ahB f xs s t b l r
def tP(hn:k/2<=n+y):Aj k n R y-AQ k y<=n:=by
 exact Ao (Kx ..) (Ql hn).2
def AX.X8(F:ι->List V):∀{vs:List V}{is:List ι},AX H vs (is.map F)->(vs.zip is).map HN=vs/\(vs.zip is).map Jw=is/\∀p∈vs.zip is,AL H p.1 (F p.2)
 |[],[],_=>⟨rfl,rfl,λ_ h=>by simp at h⟩
 |[],_::_,h=>h.elim
 |_::_,[],h=>h.elim
 |v::vs,i::is,h=>by
  obtain⟨h1,h2,h3⟩:=AX.X8 F h.2;refine⟨by rw[EA,BW,h1],by rw[EA,BW,h2],λp hp=>?_⟩;rw[EA]at hp;rcases B2.mp hp with rfl|hp
  .exact h.1
  .exact h3 p hp
def apF(A9:List (List Key×V))(k:List Key)(v:V):(putK A9 k v).length<=A9.length+1:=by
 unfold putK;split
 .rw[AV];lia
 .rw[Bo];exact Az _
def Ci.get{ls:List (List V)}{j:Nat}{l:List V}(h:Ci H ps ls)(e:ls[j]? =some l):∃p,ps[j]? =some p/\H p=some (.lst l):=BG.get' j h e
def NS:∀{l:List ι}{ys:List β}{y:β},l.mapM f=some ys->y∈ys->∃x∈l,f x=some y
 |[],ys,y,h,hy=>by cases h;simp at hy
 |x::l,ys,y,h,hy=>by
  rw[Cm]at h;cases e:f x with
  |none=>rw[e]at h;cases h
  |some y0=>
   rw[e]at h;cases e2:l.mapM f with
   |none=>rw[e2]at h;cases h
   |some zs=>
    rw[e2]at h;cases h;rcases B2.mp hy with rfl|hy
    .exact⟨x,Bu,e⟩
    .obtain⟨x',h1,h2⟩:=NS e2 hy;exact⟨x',Ba _ h1,h2⟩
def qc(F:fine=true->s≠2^31/\∃B,Rz B xs ys/\(fv s).natAbs<=2^B/\(xs.zip ys).length<2^17)(hs:AI s)(e:Bf s (xs.zip ys)=some z):AI z/\(fine=true->z≠2^31):=by
 refine⟨ML hs e,λhf=>?_⟩;obtain⟨GD,B,F,hB,hl⟩:=F hf;obtain⟨z',h1,_,h3,_⟩:=rA F.lo F.hi (xs.zip ys) s 1 (by lia) hs GD (by lia) λp hp=>F.pr _ (GX hp).1 _ (GX hp).2;rw[e]at h1;cases h1;exact h3
def anH(T:Txt K mg a):A_ P w K mg base 6 a.eJ ["self","sums"] (auh a):=by
 refine T.ahr.En aqm λAF A outer s H p0 p1 Q E hr h nd=>?_;obtain⟨sh,o,k,fine,st,lf,rt,CV,SA,ok,G,Bt,i5,hrt,f1,f2,f3,q⟩:=h;obtain⟨p,dx,gv,mv,u,cv,rfl,hp,⟨bg,dg,rfl,hg⟩,cP,⟨bu,du,rfl,hu⟩⟩:=id CV;obtain⟨Ta,sP,x0,x1,x2,rfl,hs,⟨c0,rfl,l0⟩,⟨c1,rfl,l1⟩,⟨c2,rfl,l2⟩⟩:=SA;refine⟨_,(A7 (AW (i:=2) nd rfl (A6 rfl) (Ag (Wo T) T.Ue hr AD (A1 (AH (pv 1) rfl) (A1 (Cf (LW T) T.FQ T.L6 hr AD (AH (pv 0) rfl)) A3)))) (A7 (yR (i:=3) (own:=[("start",11)]) rfl nd rfl rfl (T8 rfl rfl rfl (by kernel_rfl)) (De (AH (pv 1) rfl)) (Ck (by kernel_rfl)) (λ_ _ _ _ _=>(Ay (i:=11) nd rfl (A6 rfl))) (λ_ _ _ _ _=>Cg) (λ_ _ _ _ _=>(Bn A3))) (A7 (AW (i:=4) nd rfl (A6 rfl) apT) (A7 (E5 Dd rfl (Oa (by rfl) T.Iu (A1 (AH (AH (pv 0) rfl) rfl) A3)) (Ay (i:=5) nd rfl (A6 rfl)) (AE (E5 Dd rfl (Oa (by rfl) T.Iu (A1 (AH (AH (pv 0) rfl) rfl) A3)) (Ay (i:=6) nd rfl (A6 rfl)) (A7 (AW (i:=7) nd rfl (C1 rfl) (Bb (xK T) T.Ew T.vV hr AD (pv 0) (A1 (pv 5) (A1 (pv 6) (A1 (AH (pv 0) rfl) (A1 (AH (pv 0) rfl) A3)))))) (A7 (AW (i:=8) nd rfl (A6 rfl) (Ag (Xx T) T.aQ hr AD (A1 (AH (pv 1) rfl) (A1 (AH (pv 0) rfl) (A1 (Bb (xI T) T.LD T.vU hr AD (pv 7) (A1 (AM Dn (pv 5) (AH (pv 0) rfl)) (A1 (AM Dn (pv 6) (AH (pv 0) rfl)) A3))) A3))))) (A7 (AW (i:=9) nd rfl (A6 rfl) (jn (A1 (AH (pv 7) rfl) (A1 (AH (pv 7) rfl) (A1 (AH (pv 7) rfl) (A1 (AH (pv 7) rfl) A3)))))) (A7 (BR (Tb (y8 (Vm hr) (pv 9) (pv 4)) (by with_unfolding_all rfl)) (AE (ap4 (Vm hr) (pv 4) (pv 9) (FZ (own:=[("part",12)]) rfl rfl rfl CD rfl nd (De (pv 2)) (Ck (by kernel_rfl)) (λ_ _ _ _ _=>(Ay (i:=12) nd rfl (A6 rfl))) (λ_ _ _ _ _=>Cg) (λ_ _ _ _ _ _ _ An=>(Ag (Xx T) T.aQ hr An (A1 (pv 12) (A1 (O_ (K:=K) rfl (pv 0)) (A1 (pv 7) A3)))))) rfl)) BO) (AE (E5 Dd rfl (WU (by rfl) T.VS (A1 (AH (pv 1) rfl) A3)) (Lg (n:=2) rfl (Cs (Ay (i:=10) nd rfl (A6 rfl)) (Cs (Ay (i:=11) nd rfl (A6 rfl)) Hg))) (AE (Df (Fu Fd Gv Hk IB (BL BM (pv 3) (pv 10) (λ_ _=>rfl)) (A1 (Bb (Xu T) T.E1 T.c9 hr AD (pv 1) (A1 (pv 11) (A1 (BL BM (yB (Vm hr) (pv 4) (pv 9) (λ_ _=>rfl)) (pv 10) (λ_ _=>rfl)) (A1 (pv 8) A3)))) A3))))))))))))) (AE (Aa (Ag (Wm T) T.V8 hr AD (A1 (pv 3) A3)))))))).Ak,?_⟩;have k5:k<=5:=be G.hk;have gT:0<sh.1*(k*k):=EC G.p0 (Sn G.hk);have Si:sh.1*(k*k)<=65536:=Ao (Hm _ G.o0) G.hw;refine cut λU hU=>?_;lk;repeat (simp only[E6 T hp,Dw T hp,E4 T hp,Dv T hp,Dx T hp,Dy T hp,KQ T hs,MT T hs,KP T hs,JV T hs];lk)
 refine⟨bu,du,_,rfl,hu,by kernel_rfl,(sh.1,k,k),⟨bu,du,rfl,hu⟩,?_,?_⟩
 .refine⟨?_,by show k<_;lia,by show k<_;lia⟩;show sh.1<2^32;have:sh.1<=sh.1*(k*k):=Ep _ (Sn G.hk);lia
 unfold Xg;rw[Qa];have pf:=WR (im fine) lf (sh.1*(k*k)) o i5;refine⟨(A8 o).map λpl=>(CQ lf (sh.1*(k*k)) pl).map (im fine),_,⟨c1,rfl,by rw[l1,pf]⟩,rfl,gT,by show sh.1*(k*k)<_;lia,?_,by rw[pf,AV,i5];have:=G.hw;lia,λwl wvs H1 s1 n1 hw Qq=>?_⟩
 .intro l hl;w_up;obtain⟨pl,Ax,rfl⟩:=Ca.mp hl;fin2;have Ax:=BD.mp Ax;have:pl*(sh.1*(k*k))+sh.1*(k*k)<=lf.length:=by
   rw[i5]
   calc _=(pl+1)*(sh.1*(k*k)):=by rw[BE,BQ]
    _<=_:=Bj _ Ax
  rw[AV,CQ,EW,Di];exact Nb (YL (Fi .. ▸this))
 subst hU;refine cut λU hU=>?_;lk;have J_:=s1 _ _ hs;repeat (simp only[KQ T J_,MT T J_,KP T J_,JV T J_];lk)
 refine⟨⟨_,A4.of (s1 _ _ l0)⟩,wI (Lc (A4.of (s1 _ _ l0))) (λ_ _=>rfl) (B_ ?_) (λit _ H' s' Q' hq=>?_) λmd ps H2 s2 nmd cO Ax gX gS T4=>?_⟩
 .rw[AV,Bt];have:=G.hm;have:o<=o*(sh.2.1*sh.2.2):=Ep _ (EC G.r0 G.c0);lia
 .lk;exact⟨by decide,λb nb=>hq b _ (A2.one nb) nb AB⟩
 subst hU;lk;intro kd Wj;have Xn:∀d∈kd::ps,H1 d=none:=λd hd=>by
  rcases B2.mp hd with rfl|hd
  .exact s2.free Wj
  .exact(T4 d hd).1
 have mdk:md≠kd:=Dm cO Wj;have mdn:md∉kd::ps:=λz=>by
  rcases B2.mp z with z|z
  .exact mdk z
  .exact gS z
 have iy:kd∉ps:=λz=>by rw[(T4 kd z).2]at Wj;cases Wj
 have rows0:Ci (upd H2 kd (.dT [])) ps ((Ar o ([]:List Nat)).map λl=>l.map (Ce fine)):=by
  have:∀(l:List A0),(∀p∈l,H2 p=some (.lst []))->Ci H2 l ((Ar l.length ([]:List Nat)).map λl=>l.map (Ce fine)):=by
   intro l;induction l with
   |nil=>intro _;trivial
   |cons x l ih=>intro h;exact⟨h x Bu,ih λp hp=>h p (Ba _ hp)⟩
  have h:=this ps λp hp=>(T4 p hp).2;rw[Ax,AV,Bt]at h;exact h.away iy
 generalize aV:upd H2 kd (.dT [])=H3 at*;have alN:H3 kd=some (.dT []):=by rw[<-aV,AB]
 have s3:A2 H2 H3:=by rw[<-aV];exact A2.one Wj
 have Zm:A2 H1 (Aw H3 (kd::ps)):=X_ (s2.trans s3) Xn;have Rx:Aw H3 (kd::ps) md=some (.lst (ps.map V.ref)):=EJ (s3 _ _ cO) mdn;have Av:=s3 _ _ (s2 _ _ (s1 _ _ hp));have Qk:=s3 _ _ (s2 _ _ (s1 _ _ hg));repeat (simp only[E6 T Av,Dw T Av,E4 T Av,Dv T Av,Dx T Av,Dy T Av,DX T Qk,DY T Qk,DW T Qk];lk)
 have hC:sh.2.2<=4096:=Ao (Hm _ (EC G.p0 G.r0)) G.hn;have hR:sh.2.1<=4096:=by
  refine Ao ?_ G.hn;unfold AK
  calc sh.2.1<=sh.1*sh.2.1:=Hm _ G.p0
   _<=_:=Ep _ G.c0
 refine⟨by lia,by lia,?_⟩;refine MR (H0:=Aw H3 (kd::ps)) Ma (λy σ H'=>D1 (A2 (Aw H3 (kd::ps)) H') ((∃o1 o2 o3 o4 o5 o6 o7 o8,σ=[some (.ref p),some (.ref Ta),some (.ref wl),some (.ref md),some (.ref kd),o1,o2,o3,o4,o5,o6,o7,o8])) (EN λBH A9=>Im (Ci H' ps (BH.map λl=>l.map (Ce fine))) (d9 sh o k st lf rt (λ_=>y*sh.2.2) BH) (H' kd=some (.dT A9)) (A9.length<=y*sh.2.2) (DI sh o k fine lf (Aw H' (kd::ps)) A9))) ?_ (λ_ _ _ h=>h.1) ?_ ?_
 .refine⟨E7,⟨none,none,none,none,none,none,none,none,rfl⟩,Ar o [],[],rows0,⟨GN,λpl Ax=>⟨[],by simp[Ax],by rw[Du];rfl⟩⟩,alN,Er _,λt b l r v h=>by rw[atu]at h;cases h⟩
 .intro y y' σ H4 H5 hy AG s5;w_up;obtain⟨S4,⟨o1,o2,o3,o4,o5,o6,o7,o8,rfl⟩,BH,A9,ra,ri,OH,Qn,di⟩:=AG;obtain⟨FK,rfl⟩:=Gu.mp hy;fin2;rw[BJ]at FK;rw[FC];have Cd:=s5 _ _ (S4 _ _ (Zm _ _ (s1 _ _ hp)));have gx:=s5 _ _ (S4 _ _ (Zm _ _ (s1 _ _ hg)));lk;repeat (simp only[E6 T Cd,Dw T Cd,E4 T Cd,Dv T Cd,Dx T Cd,Dy T Cd,DX T gx,DY T gx,DW T gx];lk)
  refine⟨by lia,by lia,?_⟩;refine MR (H0:=Aw H3 (kd::ps)) Ma (λx σ H'=>D1 (A2 (Aw H3 (kd::ps)) H') ((∃o2 o3 o4 o5 o6 o7 o8,σ=[some (.ref p),some (.ref Ta),some (.ref wl),some (.ref md),some (.ref kd),some (.int (0+(y:Int))),o2,o3,o4,o5,o6,o7,o8])) (EN λBH A9=>Im (Ci H' ps (BH.map λl=>l.map (Ce fine))) (d9 sh o k st lf rt (λ_=>y*sh.2.2+x) BH) (H' kd=some (.dT A9)) (A9.length<=y*sh.2.2+x) (DI sh o k fine lf (Aw H' (kd::ps)) A9)))
   ⟨S4.trans s5,⟨o2,o3,o4,o5,o6,o7,o8,rfl⟩,BH,A9,ra.mono s5,by simpa using ri,s5 _ _ OH,by simpa using Qn,di.mono (F6 s5)⟩ (λ_ _ _ h=>h.1) ?_ ?_
  .clear ra ri OH Qn di BH A9;intro x x' σ H6 H7 hx AG s7;w_up;obtain⟨S6,⟨o2,o3,o4,o5,o6,o7,o8,rfl⟩,BH,A9,ra,ri,OH,Qn,di⟩:=AG;obtain⟨DZ,rfl⟩:=Gu.mp hx;fin2;rw[BJ]at DZ;rw[FC];have DZ:x<sh.2.2:=by lia
   have FK:y<sh.2.1:=by lia
   have VL:A2 H1 H7:=Zm.trans (S6.trans s7);have JY:=VL _ _ (s1 _ _ hp);have al:∀d∈kd::ps,H7 d≠none:=λd hd=>by
    rcases B2.mp hd with rfl|hd
    .rw[s7 _ _ OH];simp
    .obtain⟨i,hi,rfl⟩:=PL hd;w_up;obtain⟨l,_,e⟩:=BG.get i (ra.mono s7) (by simp[hi]:ps[i]? =some ps[i]);fin2;rw[e];simp
   refine cut λU hU=>?_;lk;repeat (simp only[E6 T JY,Dw T JY,E4 T JY,Dv T JY,Dx T JY,Dy T JY];lk)
   refine⟨p,dx,_,rfl,JY,by kernel_rfl,?_⟩;unfold ab2;rw[zZ];refine⟨sh,o,k,y,x,k,k,(CV.mono s1).mono VL,by rw[IW],by rw[IW],rfl,rfl,λbx H8 s8 FU=>?_⟩;w_up;obtain⟨bb,db,rfl,FU⟩:=FU;fin2;subst hU;have dj:=VL.trans s8;have F0:=dj _ _ (s1 _ _ hp);have cW:=dj _ _ (s1 _ _ hs);refine cut λU hU=>?_;lk;repeat (simp only[E6 T F0,Dw T F0,E4 T F0,Dv T F0,Dx T F0,Dy T F0,KQ T cW,MT T cW,KP T cW,JV T cW];lk)
   refine⟨bb,db,_,rfl,FU,by kernel_rfl,?_⟩;unfold ab5;rw[XO];refine⟨_,_,_,_,_,_,⟨bb,db,rfl,FU⟩,rfl,rfl,λbm H9 s9 Pk=>?_⟩;have IM:k/2<=k+y:=Ao (Nc k 2) (Fy ..);have Rw:k/2<=k+x:=Ao (Nc k 2) (Fy ..);have Qo:k/2<=AQ k y+y:=NV (Az _);have Qp:k/2<=AQ k x+x:=NV (Az _);w_up;obtain⟨Ez,GF⟩:=Ql (R:=sh.2.1) IM;obtain⟨au,WD⟩:=Ql (R:=sh.2.2) Rw;fin2;have fh:=dj.trans s9;have OC:(Ex rt sh (AQ k y+y-k/2) (Aj k k sh.2.1 y+y-k/2) (AQ k x+x-k/2) (Aj k k sh.2.2 x+x-k/2)).length<=65536:=by
    refine Ao (Uq ..) (Ao (EX _ (GQ ?_ ?_)) Si)
    .exact acW Qo GF
    .exact acW Qp WD
   refine⟨rt.map (im fine),sh,AQ k y+y-k/2,Aj k k sh.2.1 y+y-k/2,AQ k x+x-k/2,Aj k k sh.2.2 x+x-k/2,⟨c2,rfl,fh _ _ (s1 _ _ l2)⟩,⟨bg,dg,rfl,fh _ _ (s1 _ _ hg)⟩,?_,⟨?_,by lia,by lia⟩,by lia,by lia,by rw[O0,AV];lia,λnl HA sA nnl ui=>?_⟩
   .obtain⟨qH,agW,rfl,Pk⟩:=Pk;refine⟨qH,agW,rfl,?_⟩;rw[Pk];have e1:((AQ k y:Nat):Int)+(0+(y:Int)-((k/2:Nat):Int))=((AQ k y+y-k/2:Nat):Int):=P1 Qo;have e2:((Aj k k sh.2.1 y:Nat):Int)+(0+(y:Int)-((k/2:Nat):Int))=((Aj k k sh.2.1 y+y-k/2:Nat):Int):=P1 (Ao Qo (RI (NZ ..) _));have e3:((AQ k x:Nat):Int)+(0+(x:Int)-((k/2:Nat):Int))=((AQ k x+x-k/2:Nat):Int):=P1 Qp;have e4:((Aj k k sh.2.2 x:Nat):Int)+(0+(x:Int)-((k/2:Nat):Int))=((Aj k k sh.2.2 x+x-k/2:Nat):Int):=P1 (Ao Qp (RI (NZ ..) _));rw[e1,e2,e3,e4]
   .have:sh.1<=sh.1*(k*k):=Ep _ (Sn G.hk);lia
   rw[O0]at ui;subst hU;have S1A:=fh.trans sA;have LJ:=sA _ _ (s9 _ _ FU);refine cut λU hU=>?_;lk;repeat (simp only[bO T LJ,bL T LJ,bM T LJ,bN T LJ];lk)
   refine⟨(by show 4<=Al;decide),λed Xp=>?_⟩;subst hU;have agr:ed∉kd::ps:=λz=>al ed z ((s8.trans (s9.trans sA)).free Xp);have nln:nl∉kd::ps:=λz=>al nl z ((s8.trans s9).free nnl);have VO:A2 H7 (upd HA ed (.tup [.int (AQ k y:Int),.int (Aj k k sh.2.1 y:Int),.int (AQ k x:Int),.int (Aj k k sh.2.2 x:Int)])):=((s8.trans s9).trans sA).new Xp;have gr:upd HA ed (.tup [.int (AQ k y:Int),.int (Aj k k sh.2.1 y:Int),.int (AQ k x:Int),.int (Aj k k sh.2.2 x:Int)]) ed=some (.tup ([.inl (AQ k y:Int),.inl (Aj k k sh.2.1 y:Int),.inl (AQ k x:Int),.inl (Aj k k sh.2.2 x:Int)].map kV)):=AB;have hnB:=A2.one (o:=.tup [.int (AQ k y:Int),.int (Aj k k sh.2.1 y:Int),.int (AQ k x:Int),.int (Aj k k sh.2.2 x:Int)]) Xp _ _ ui;have al3:=A2.one (o:=.tup [.int (AQ k y:Int),.int (Aj k k sh.2.1 y:Int),.int (AQ k x:Int),.int (Aj k k sh.2.2 x:Int)]) Xp _ _ LJ;generalize upd HA ed (.tup [.int (AQ k y:Int),.int (Aj k k sh.2.1 y:Int),.int (AQ k x:Int),.int (Aj k k sh.2.2 x:Int)])=HB at*;refine cut λU hU=>?_;have key:∀R8 HC,A2 (Aw HB (kd::ps)) HC->Ci HC ps (BH.map λl=>l.map (Ce fine))->HC kd=some (.dT R8)->R8.length<=y*sh.2.2+(x+1)->DI sh o k fine lf (Aw HC (kd::ps)) R8->(∃v,DA R8 [.inl (AQ k y:Int),.inl (Aj k k sh.2.1 y:Int),.inl (AQ k x:Int),.inl (Aj k k sh.2.2 x:Int)]=some v)->
    U [some (.ref p),some (.ref Ta),some (.ref wl),some (.ref md),some (.ref kd),some (.int (0+(y:Int))),some (.int (0+(x:Int))),some (.ref bb),some (.ref nl),some (.ref ed),o6,o7,o8] HC:=by
    intro R8 HC SC raC hkC hZ sJ ⟨kv,sf⟩;subst hU;have agF:A2 H1 (Aw HB (kd::ps)):=X_ (VL.trans VO) Xn;have SCC:A2 (Aw HB (kd::ps)) (Aw HC (kd::ps)):=Sq SC;have VM:A2 H1 (Aw HC (kd::ps)):=agF.trans SCC;have cX:=E7 _ _ (VM _ _ (s1 _ _ hs));have Pt:A2 (Aw H3 (kd::ps)) (Aw HC (kd::ps)):=((Sq (S6.trans (s7.trans VO)))).trans SCC;have akd:Aw HC (kd::ps) ed=_:=SCC _ _ (EJ gr agr);have hnC:Aw HC (kd::ps) nl=_:=SCC _ _ (EJ hnB nln);lk;repeat (simp only[KQ T cX,MT T cX,KP T cX,JV T cX];lk)
    refine⟨_,A4.of (E7 _ _ (VM _ _ (s1 _ _ l0))),?_⟩;refine MR (H0:=Aw HC (kd::ps)) (m_ (Ce fine) (A4.of (VM _ _ (s1 _ _ l0)))) (λj σ H'=>Fm (A2 (Aw HC (kd::ps)) H') ((∃o6 o7,σ=[some (.ref p),some (.ref Ta),some (.ref wl),some (.ref md),some (.ref kd),some (.int (0+(y:Int))),some (.int (0+(x:Int))),some (.ref bb),some (.ref nl),some (.ref ed),o6,o7,o8])) (H' kd=some (.dT R8)) (∃BH,Ci H' ps (BH.map λl=>l.map (Ce fine))/\d9 sh o k st lf rt (λpl=>if pl<j then y*sh.2.2+(x+1)else y*sh.2.2+x) BH))
     ⟨E7,⟨o6,o7,rfl⟩,hkC,BH,raC,by simpa using ri⟩ (λ_ _ _ h=>h.1) ?_ ?_
    .intro j AG σ HD HE hj EI sE;w_up;obtain⟨s0,j'⟩:=AG;obtain⟨SD,⟨o6,o7,rfl⟩,aL,Pu,Ms,Ik⟩:=EI;have KS:j<st.length:=by
      have:=(Gu.mp hj).1;rwa[JB]at this
     have hj2:j=j'/\s0=Ab st j:=by
      rw[YJ,E8 KS]at hj;simp only[Gy,Option.some.injEq,Prod.mk.injEq,EM]at hj;exact⟨hj.2,by rw[Dh KS];exact hj.1.symm⟩
     obtain⟨rfl,rfl⟩:=hj2;have SE:=SD.trans sE;have gQ:HE md=some (.lst (ps.map V.ref)):=SE _ _ (Pt _ _ Rx);have uu:=SE _ _ (VM _ _ (s1 _ _ hs));obtain⟨acc,ha,MU⟩:=Ik.2 j (by lia);simp only[GR,if_false]at MU;obtain⟨pj,Oo,jG⟩:=Ci.get Ms (j:=j) (l:=acc.map (Ce fine)) (by rw[D0,ha];rfl);fin2;have Va:=sE _ _ jG;lk;w_up;obtain⟨vs,⟨kl,rfl,alQ⟩,alW⟩:=sJ _ _ _ _ _ sf;obtain⟨vj,hvj,lvj⟩:=AX.get' vs _ j ((Lh sh k lf j (AQ k y) (Aj k k sh.2.1 y) (AQ k x) (Aj k k sh.2.2 x)).map (im fine)) alW (by rw[D0,UD (by lia)];rfl);fin2;have Gm:(y*sh.2.2+x)/sh.2.2=y:=by rw[BV,Gz G.c0,Ff DZ,JE]
     have LK:(y*sh.2.2+x) %sh.2.2=x:=by rw[BV,Kn,Fh DZ]
     have LP:y*sh.2.2+x<sh.2.1*sh.2.2:=by
      calc y*sh.2.2+x<y*sh.2.2+sh.2.2:=by lia
       _=(y+1)*sh.2.2:=by rw[BE,BQ]
       _<=_:=Bj _ FK
     have hRC:sh.2.1*sh.2.2<=4096:=Ao (Hm _ G.o0) G.hm;have SS:acc.length=y*sh.2.2+x:=by have:=C3 MU;rwa[BJ]at this
     have tE:=HR.t (sE _ _ aL) (SE _ _ akd);rw[sf]at tE;have hpc:(Lh sh k lf j (AQ k y) (Aj k k sh.2.1 y) (AQ k x) (Aj k k sh.2.2 x)).length<=65536:=Ao (Uq ..) (Ao (EX _ (GQ (Ao (Kx _ (AQ k y)) GF) (Ao (Kx _ (AQ k x)) WD))) Si);have uq:∀z∈Lh sh k lf j (AQ k y) (Aj k k sh.2.1 y) (AQ k x) (Aj k k sh.2.2 x),z∈lf:=λz hz=>Hn (GO (MP hz));have Vg:Ab st j∈st:=by rw[Dh KS];exact IU KS
     refine⟨_,.ref pj,A4.of gQ,by rw[Cj,D0,Oo];rfl,A6 ⟨rfl,_,A4.of Va⟩,Ta,sP,_,rfl,uu,by kernel_rfl,.ref kl,tE,vs,vj,A4.of (SE _ _ alQ),by rw[Cj];exact hvj,?_⟩;refine⟨Ta,sP,_,_,_,fine,Ab st j,Lh sh k lf j (AQ k y) (Aj k k sh.2.1 y) (AQ k x) (Aj k k sh.2.2 x),_,rfl,uu,rfl,lvj.mono SE,⟨nl,rfl,SE _ _ hnC⟩,f1 _ Vg,λz hz=>f2 z (uq z hz),λz hz=>f3 z (MP hz),ok.b7 Vg uq (λz hz=>MP hz) (by rw[Br];lia),?_⟩;cases ec:cell sh k st lf rt j y x with
     |none=>
      have:convS sh o k st lf rt=none:=by
       refine mapM_none _ _ j (BD.mpr (by lia)) (mapM_none _ _ (y*sh.2.2+x) (BD.mpr LP) ?_);rw[Gm,LK,ec]
      rw[this]at q;have ec:Bf _ _=none:=ec;rw[ec];exact λH' s'=>q H' (s1.trans (VM.trans (SE.trans s')))
     |some z=>
      have agq:Bf _ _=some z:=ec;rw[agq];intro fz Me HF sF;have jH:=sF _ _ Va;have jps:pj∈kd::ps:=Ba _ (DS Oo);have pjk:kd≠pj:=λe=>iy (e▸DS Oo);refine⟨_,jH,J8 (by rw[AV];lia),?_,⟨_,_,rfl⟩,by rw[AY pjk];exact sF _ _ (sE _ _ aL),Pu.set j (acc++[z]),?_,?_⟩
      .refine(Sq (SE.trans sF)).trans ?_;rw[<-GH (o:=.lst (acc.map (Ce fine)++[Ce fine z])) jps];exact E7
      .have:=Ci.put (acc.map (Ce fine)++[Ce fine z]) ((Ms.mono sE).mono sF) gX Oo;rw[ZU,E9];exact this
      .refine⟨by rw[Z8];exact Ik.1,λpl Ax=>?_⟩;by_cases e:pl=j
       .subst e;refine⟨acc++[z],by rw[Tw (by rw[Ik.1];lia)],?_⟩;simp only[RR,if_true];rw[show y*sh.2.2+(x+1)=y*sh.2.2+x+1 from rfl,PZ,OR,MU,Aq,Gm,LK,ec];rfl
       .obtain⟨ac,h1,h2⟩:=Ik.2 pl Ax;refine⟨ac,by rw[UA (λz=>e z.symm)];exact h1,?_⟩;by_cases e2:pl<j
        .simp only[e2,if_true]at h2;simp only[show pl<j+1 by lia,if_true];exact h2
        .simp only[e2,if_false]at h2;simp only[show¬pl<j+1 by lia,if_false];exact h2
    .intro σ HD AG;w_up;obtain⟨SD,⟨o6,o7,rfl⟩,aL,Pu,Ms,Ik⟩:=AG;fin2;refine⟨Pt.trans SD,⟨_,_,_,_,_,_,_,rfl⟩,Pu,R8,Ms,⟨Ik.1,λpl Ax=>?_⟩,aL,hZ,sJ.mono (Sq SD)⟩;w_up;obtain⟨acc,h1,h2⟩:=Ik.2 pl Ax;fin2;simp only[JB,Bt,Ax,if_true]at h2;exact⟨acc,h1,h2⟩
   lk;have Wh:=s7.trans VO;have aK:=Wh _ _ OH;have qW:A2 H1 HB:=VL.trans VO;refine⟨_,HR.t aK gr,?_⟩;cases ev:DA A9 [.inl (AQ k y:Int),.inl (Aj k k sh.2.1 y:Int),.inl (AQ k x:Int),.inl (Aj k k sh.2.2 x:Int)]with
   |some v=>exact key A9 HB E7 (ra.mono Wh) aK (by lia) (di.mono (F6 Wh)) ⟨v,ev⟩
   |none=>
    w_up;obtain⟨z1,z2,z3⟩:=AX.X8 (λpl=>(CQ lf (sh.1*(k*k)) pl).map (im fine)) Qq;fin2;have aq:∀d∈kd::ps,HB d≠none:=λd hd=>by
     rcases B2.mp hd with rfl|hd
     .rw[aK];simp
     .exact λz=>al d (Ba _ hd) (VO.free z)
    have vB:=qW _ _ hw;refine⟨⟨_,A4.of vB⟩,j4 (kd::ps) aq (its:=wvs.zip (A8 o)) (λit=>(Lh sh k lf it.2 (AQ k y) (Aj k k sh.2.1 y) (AQ k x) (Aj k k sh.2.2 x)).map (im fine)) (CJ.of_map HN (by rw[z1];exact Lc (A4.of vB))) (λ_ _=>rfl) ?_ ?_ ?_⟩
    .rw[<-AV (f:=Jw),z2,BJ];have:=G.hm;have:o<=o*(sh.2.1*sh.2.2):=Ep _ (EC G.r0 G.c0);exact B_ (by lia)
    .intro it hi HD sD Q' hq;w_up;obtain⟨bi,e,W0⟩:=z3 it hi;fin2;rw[e];have fi:=qW.trans sD;have SY:=fi _ _ (s1 _ _ hp);lk;repeat (simp only[E6 T SY,Dw T SY,E4 T SY,Dv T SY,Dx T SY,Dy T SY];lk)
     refine⟨(CQ lf (sh.1*(k*k)) it.2).map (im fine),(sh.1,k,k),AQ k y,Aj k k sh.2.1 y,AQ k x,Aj k k sh.2.2 x,⟨bi,rfl,fi _ _ W0⟩,⟨bu,du,rfl,fi _ _ (s1 _ _ hu)⟩,⟨bb,db,rfl,sD _ _ al3⟩,⟨?_,by show k<_;lia,by show k<_;lia⟩,by lia,by lia,?_,?_⟩
     .show sh.1<_;have:sh.1<=sh.1*(k*k):=Ep _ (Sn G.hk);lia
     .rw[O0,AV];refine Ao (Uq ..) (Ao (EX _ (GQ (Ao (Kx _ (AQ k y)) GF) (Ao (Kx _ (AQ k x)) WD))) (Ao Si (by decide)))
     .rw[O0];exact hq
    .intro kl ws HC sC nkl anP hZ alV;refine⟨_,Sd.t (sC _ _ aK) (sC _ _ gr) (J8 ?_),?_⟩
     .have:y*sh.2.2+x<sh.2.1*sh.2.2:=by
       calc y*sh.2.2+x<y*sh.2.2+sh.2.2:=by lia
        _=(y+1)*sh.2.2:=by rw[BE,BQ]
        _<=_:=Bj _ FK
      have:sh.2.1*sh.2.2<=4096:=Ao (Hm _ G.o0) G.hm;lia
     have pl:=apF A9 [.inl (AQ k y:Int),.inl (Aj k k sh.2.1 y:Int),.inl (AQ k x:Int),.inl (Aj k k sh.2.2 x:Int)] (.ref kl);refine key _ _ ?_ (((ra.mono Wh).mono sC).away iy) AB (by lia) ?_ ⟨_,by rw[mf,if_pos rfl]⟩
     .exact(F6 sC).trans (by rw[<-GH (o:=.dT (putK A9 [.inl (AQ k y:Int),.inl (Aj k k sh.2.1 y:Int),.inl (AQ k x:Int),.inl (Aj k k sh.2.2 x:Int)] (.ref kl))) (Bu (a:=kd) (l:=ps))];exact E7)
     .rw[GH Bu];intro t b l r v hv;rw[mf]at hv;split at hv
      .rename_i e;injection e with e1 e
       injection e with e2 e
       injection e with e3 e
       injection e with e4 e
       injection e1 with e1
       injection e2 with e2
       injection e3 with e3
       injection e4 with e4
       have e1:t=AQ k y:=by lia
       have e2:b=Aj k k sh.2.1 y:=by lia
       have e3:l=AQ k x:=by lia
       have e4:r=Aj k k sh.2.2 x:=by lia
       subst e1 e2 e3 e4;cases hv;refine⟨ws,⟨kl,rfl,EJ hZ anP⟩,?_⟩;rw[<-z2,CA];exact alV
      .exact(di.mono (F6 (Wh.trans sC))) t b l r v hv
  .intro σ H6 AG;w_up;obtain⟨S6,⟨o2,o3,o4,o5,o6,o7,o8,rfl⟩,BH,A9,ra,ri,OH,Qn,di⟩:=AG;fin2;refine⟨S6,⟨_,_,_,_,_,_,_,_,rfl⟩,BH,A9,ra,?_,OH,?_,di⟩
   .rw[BE,BQ];rw[BJ]at ri;exact ri
   .rw[BE,BQ];rw[BJ]at Qn;exact Qn
 .intro σ H4 AG;w_up;obtain⟨S4,⟨o1,o2,o3,o4,o5,o6,o7,o8,rfl⟩,BH,A9,ra,ri,OH,Qn,di⟩:=AG;fin2;lk;rw[BJ]at ri;have B9:convS sh o k st lf rt=some BH:=by
   have hm:(A8 o).mapM (λpl=>(A8 (sh.2.1*sh.2.2)).mapM λq=>cell sh k st lf rt pl (q/sh.2.2) (q %sh.2.2))=(A8 o).mapM λpl=>BH[pl]? :=by
    refine mapM_congr λpl Ax=>?_;w_up;obtain⟨acc,h1,h2⟩:=ri.2 pl (BD.mp Ax);fin2;rw[h1,<-h2];rfl
   unfold convS;rw[hm,<-ri.1,jb]
  rw[B9]at q;have hlen:∀l∈BH,l.length=sh.2.1*sh.2.2:=λl hl=>by
   w_up;obtain⟨i,hi,rfl⟩:=PL hl;obtain⟨acc,h1,h2⟩:=ri.2 i (by rw[<-ri.1];exact hi);fin2;rw[E8 hi]at h1;cases h1;have:=C3 h2;rw[BJ]at this;exact this
  have LM:=O6 hlen;rw[ri.1]at LM;have WI:=G.hm;have AZ:∀z∈BH.flatten,AI z/\(fine=true->z≠2^31):=by
   intro z hz;w_up;obtain⟨l,hl,hz⟩:=nv.mp hz;obtain⟨i,hi,rfl⟩:=PL hl;obtain⟨acc,h1,h2⟩:=ri.2 i (by rw[<-ri.1];exact hi);fin2;rw[E8 hi]at h1;cases h1;w_up;obtain⟨q,_,hc⟩:=NS h2 hz;fin2;have LO:i<st.length:=by rw[Bt,<-ri.1];exact hi
   have Vg:Ab st i∈st:=by rw[Dh LO];exact IU LO
   have IM:k/2<=k+q/sh.2.2:=Ao (Nc k 2) (Fy ..);have Rw:k/2<=k+q %sh.2.2:=Ao (Nc k 2) (Fy ..);have g1:=tP (R:=sh.2.1) IM;have g2:=tP (R:=sh.2.2) Rw;refine qc (ok.b7 (xs:=Lh sh k lf i (AQ k (q/sh.2.2)) (Aj k k sh.2.1 (q/sh.2.2)) (AQ k (q %sh.2.2)) (Aj k k sh.2.2 (q %sh.2.2))) Vg (λz hz=>Hn (GO (MP hz))) (λz hz=>MP hz) ?_) (f1 _ Vg) hc;have:(Lh sh k lf i (AQ k (q/sh.2.2)) (Aj k k sh.2.1 (q/sh.2.2)) (AQ k (q %sh.2.2)) (Aj k k sh.2.2 (q %sh.2.2))).length<=65536:=Ao (Uq ..) (Ao (EX _ (GQ g1 g2)) Si);rw[Br];lia
  refine⟨_,_,⟨md,rfl,S4 _ _ Rx⟩,ra.ls,?_,?_⟩
  .rw[<-UH,AV,LM];lia
  .rw[<-UH];exact(q AZ (by rw[LM];exact WI)).mono (s1.trans (Zm.trans S4))
def fI{w:List Nat}(h:n+i<w.length):Ab (w.drop n) i=Ab w (n+i):=by
 rw[Dh (by rw[Di];lia),Dh h,Y_]
def Zy{w:List Nat}(h:i<n):Ab (w.take n) i=Ab w i:=by
 unfold Ab;rw[IQ,IQ,adF h]
def IF(h:lf.length=o*n)(hp:pl<o):(CQ lf n pl).length=n:=by
 have:pl*n+n<=o*n:=by
  calc pl*n+n=(pl+1)*n:=by rw[BE,BQ]
   _<=_:=Bj _ hp
 rw[CQ,EW,Di,h];exact Nb (YL (Fi .. ▸this))
def WQ(h:lf.length=o*n)(hp:pl<o)(hi:i<n):Ab (CQ lf n pl) i=Ab lf (pl*n+i):=by
 have:pl*n+n<=o*n:=by
  calc pl*n+n=(pl+1)*n:=by rw[BE,BQ]
   _<=_:=Bj _ hp
 unfold CQ;rw[Zy hi,fI (by lia)]
def mh:PM c k o p i j=o*(c*(k*k))+CM (c,k,k) p i j:=by
 show((o*c+p)*k+i)*k+j=o*(c*(k*k))+((p*k+i)*k+j);rw[show(o*c+p)*k+i=o*c*k+(p*k+i)from by rw[BE,PQ],BE,show o*c*k*k=o*(c*(k*k))from by rw[B6 (o*c),B6 o],PQ]
def sS(hy:y<R):AQ k y+y-k/2<=Aj k n R y+y-k/2/\Aj k n R y+y-k/2<=R/\k/2<=AQ k y+y/\AQ k y<=Aj k n R y:=by
 have h1:AQ k y<=Aj k n R y:=NZ ..;have h2:Aj k n R y<=R+k/2-y:=Rg.mpr ⟨adb (aeQ ..) y,YV ..⟩;exact⟨adb (RI h1 y) _,U8 (adZ (Ao (Ht hy) (Fy ..)) h2),NV (Az _),h1⟩
def ah3{w x:List Nat}{pl y c:Nat}(hw:w.length=o*(s.1*(k*k))+o)(hx:x.length=AK s)(hp:pl<o)(hy:y<s.2.1)(hc:c<s.2.2):
 cell s k (w.drop (o*(s.1*(k*k)))) (w.take (o*(s.1*(k*k)))) x pl y c=Bf (Ab w (o*s.1*k*k+pl)) ((A8 s.1).flatMap λp=>(A8 k).flatMap λi=>(A8 k).filterMap λj=>(CL s.2.1 k y i).bind λyy=>(CL s.2.2 k c j).map λcc=>(Ab w (PM s.1 k pl p i j),Ab x (CM s p yy cc))):=by
 unfold cell Lh;have hl:(w.take (o*(s.1*(k*k)))).length=o*(s.1*(k*k)):=by rw[EW];lia
 have t8:AK (s.1,k,k)=s.1*(k*k):=B6 ..;have IM:k/2<=k+y:=Ao (Nc k 2) (Fy ..);have Rw:k/2<=k+c:=Ao (Nc k 2) (Fy ..);w_up;obtain⟨a1,a2,a3,a4⟩:=sS (k:=k) (n:=k) hy;obtain⟨b1,b2,b3,b4⟩:=sS (k:=k) (n:=k) hc;fin2;have g1:=(Ql (R:=s.2.1) IM).2;have g2:=(Ql (R:=s.2.2) Rw).2;rw[rh (s:=(s.1,k,k)) (s':=s) rfl (by rw[IF hl hp,t8]) hx g1 g2 a2 b2 (XG a3 a4) (XG b3 b4)];rw[fI (by lia),show o*s.1*k*k=o*(s.1*(k*k))from by rw[B6 (o*s.1),B6 o]];congr 1;refine Gi λp FW=>?_;have FW:=BD.mp FW;rw[acT IM Rw];refine Gi λi hi=>Lm λj hj=>?_;have hi:=BD.mp hi;have hj:=BD.mp hj;have sX:=bV (s:=(s.1,k,k)) (p:=p) (y:=AQ k y+i) (x:=AQ k c+j) FW (XI g1 hi) (XI g2 hj);rw[t8]at sX;rw[WQ hl hp sX,mh,Zy,XH a3,XH b3]
 calc pl*(s.1*(k*k))+CM (s.1,k,k) p (AQ k y+i) (AQ k c+j)<pl*(s.1*(k*k))+s.1*(k*k):=by lia
  _=(pl+1)*(s.1*(k*k)):=by rw[BE,BQ]
  _<=_:=Bj _ hp
def jr{β:Type}(s:BA)(F:Nat×Nat×Nat->Option β):(Hz s).mapM F=((A8 s.1).mapM λp=>(A8 (s.2.1*s.2.2)).mapM λq=>F (p,q/s.2.2,q %s.2.2)).map Lx:=by
 unfold Hz;rw[iW];congr 1;refine mapM_congr λp _=>?_;rw[Wb (λy x=>(p,y,x)),OQ]
def ah6{o k:Nat}{w x:List Nat}(hw:w.length=o*(s.1*(k*k))+o)(hx:x.length=AK s):
 HM s (.conv o k) w x=(convS s o k (w.drop (o*(s.1*(k*k)))) (w.take (o*(s.1*(k*k)))) x).map Lx:=by
 show(Hz (o,s.2.1,s.2.2)).mapM _=_;rw[jr];unfold convS;congr 1;refine mapM_congr λpl Ax=>mapM_congr λq hq=>?_;have hq:=BD.mp hq;have hc:0<s.2.2:=Yh λz=>by rw[z,RY]at hq;lia
 exact(ah3 hw hx (BD.mp Ax) ((NX hc).mpr hq) (D5 _ hc)).symm
def asz(a:Ad):Sp:=D9 λv1 v2 v3 H Q E=>Es λs o k w x=>Cn (C2 a H v1 s (.conv o k)) (GoodC s o k) (AL H v2 (Nv w)) (w.length=o*(s.1*(k*k))+o) (AL H v3 (Nv x)) (x.length=AK s) ((∀y∈w,AI y)) (((∀y∈x,AI y))/\EF a (HM s (.conv o k) w x) H Q E)
def wa(T:Txt K mg a):A_ P w K mg base 7 a.eG ["self","own","numbers"] (asz a):=by
 refine T.ahp.Dc aqk λAF A outer s H p0 p1 p2 Q E hr h nd=>?_;obtain⟨sh,o,k,w,x,L,G,⟨b2,rfl,h2⟩,hw,h3,hx,fw,fx,q⟩:=h;obtain⟨p,dx,g,m,u,rfl,hp,hg,⟨bm,dm,rfl,hm⟩,hu⟩:=L;refine⟨_,(A7 (AW (i:=3) nd rfl (A6 rfl) (AM Dn (AH (pv 0) rfl) (AH (AH (pv 0) rfl) rfl))) (A7 (AW (i:=4) nd rfl (A6 rfl) (F9 (Xw T) T.cG T.aP hr AD (A1 (Jg Jj (pv 1) (Gs (pv 3)) Oc) (A1 (Jg Jj (pv 1) Oc (Gs (pv 3))) (A1 (pv 2) A3))))) (AE (Aa (Bb (Xv T) T.E1 T.cA hr AD (pv 4) (A1 (Bb (anH T) T.Ew T.amv hr AD (pv 0) (A1 (pv 4) A3)) A3)))))).Ak,?_⟩;refine cut λU hU=>?_;lk;repeat (simp only[E6 T hp,Dw T hp,E4 T hp,Dv T hp,Dx T hp,Dy T hp,DX T hm,DY T hm,DW T hm];lk)
 rw[show((o*sh.1*k*k+o:Nat):Int)-(o:Int)=((o*(sh.1*(k*k)):Nat):Int)from by rw[show o*sh.1*k*k=o*(sh.1*(k*k))from by rw[B6 (o*sh.1),B6 o],IV,Int.add_sub_cancel]];subst hU;refine cut λU hU=>?_;lk;have Ja:=G.hw;have WI:=G.hm;have hn:=G.hn;have hoo:o<=o*(sh.2.1*sh.2.2):=Ep _ (EC G.r0 G.c0);generalize hwc:o*(sh.1*(k*k))=wc at*;refine⟨_,A4.of h2,λc nc=>⟨_,A4.of (A2.one nc _ _ h2),λd BX=>?_⟩⟩;rw[Ur]at BX;rw[Ur,bB];have cd:c≠d:=Dm AB BX;have s2:A2 H (upd (upd H c (.lst (Zb wc (Nv w)))) d (.lst (Nq wc (Nv w)))):=(A2.one nc).new BX;refine cE (st:=w.drop wc) (lf:=w.take wc) (rt:=x) ⟨c,rfl,by rw[AY cd,AB,Nv,Nv,UN]⟩ ⟨d,rfl,by rw[AB,Nv,Nv,PR]⟩ (h3.mono s2) (by rw[Di,hw,IS];exact Ao hoo (fU WI rfl)) (by rw[EW];exact Ao (NY ..) (fU Ja rfl)) (by omega) (λy hy=>fw y (Hn hy)) (λy hy=>fw y (GO hy)) fx λz fine H1 s1 S ok=>?_;have sH:=s2.trans s1;subst hU;lk;w_up;obtain⟨_,dz,x0,x1,x2,ee,hz,l0,l1,l2⟩:=id S;fin2;cases ee;refine⟨z,dz,_,rfl,hz,by kernel_rfl,p,dx,_,rfl,sH _ _ hp,by kernel_rfl,?_⟩;subst hwc;have OD:=ah6 (s:=sh) (o:=o) (k:=k) (w:=w) (x:=x) hw hx;refine⟨sh,o,k,fine,w.drop (o*(sh.1*(k*k))),w.take (o*(sh.1*(k*k))),x,⟨p,dx,g,.ref bm,u,_,rfl,sH _ _ hp,hg.mono sH,⟨bm,dm,rfl,sH _ _ hm⟩,hu.mono sH⟩,S,ok,G,by rw[Di,hw,IS],by rw[EW,hw];exact Nb (Fy ..),hx,λy hy=>fw y (Hn hy),λy hy=>fw y (GO hy),fx,?_⟩;cases ec:convS sh o k (w.drop (o*(sh.1*(k*k)))) (w.take (o*(sh.1*(k*k)))) x with
 |none=>
  rw[ec]at OD;rw[OD]at q;exact λH' s'=>q H' (sH.trans s')
 |some X9=>
  rw[ec]at OD;rw[OD]at q;intro AZ hlen e H2 s3 n3 he;have ie:=s3 _ _ hz;refine⟨z,dz,x0,x1,x2,fine,X9.flatten,rfl,ie,⟨e,rfl,he⟩,by omega,AZ,λef=>?_,λ_=>DB.mono q (sH.trans s3)⟩;subst ef;exact q e H2 (sH.trans s3) (sH.free n3) he
def qe:∀(is:List Nat),(∀i∈is,(f i=none/\g i=none)\/∃x y,f i=some x/\g i=some y/\R x y)->BG R (is.filterMap f) (is.filterMap g)
 |[],_=>trivial
 |i::is,h=>by
  have ih:=qe is λj hj=>h j (Ba _ hj);rcases h i Bu with⟨e1,e2⟩|⟨x,y,e1,e2,r⟩
  .rw[Ho,Ho,e1,e2];exact ih
  .rw[Ho,Ho,e1,e2];exact⟨r,ih⟩
def AX.step(h:AX H vs ls)(lo st:Nat):AX H (La vs lo st) (IH ls lo st):=by
 refine AX.of2 ?_;unfold La IH;rw[h.length];refine qe _ λi _=>?_;cases e:ls[lo+st*i]?with
 |none=>
  refine A6 ⟨rfl,?_⟩;rw[nK]at e⊢;rw[h.length];exact e
 |some l=>
  obtain⟨v,h1,h2⟩:=AX.get' vs ls _ l h e;exact C1 ⟨l,v,rfl,h1,h2⟩
def auv(F:Nat->α)(hc:0<c)(hp:p<c):IH ((A8 (o*c)).map F) p c=(A8 o).map λi=>F (i*c+p):=by
 unfold IH;have hl:(((A8 (o*c)).map F).length-p+(c-1))/c=o:=by
  rw[AV,BJ];exact acH hc hp
 rw[hl];have:∀i∈A8 o,((A8 (o*c)).map F)[p+c*i]? =some (F (i*c+p)):=λi hi=>by
  have hi:=BD.mp hi;have:i*c+p<o*c:=by
   calc i*c+p<i*c+c:=by lia
    _=(i+1)*c:=by rw[BE,BQ]
    _<=_:=Bj _ hi
  rw[show p+c*i=i*c+p from by rw[BV,Fi],D0,UD this];rfl
 generalize A8 o=l at this;induction l with
 |nil=>rfl
 |cons x l ih=>rw[Ho,this x Bu,BW,ih λk hk=>this k (Ba _ hk)]
def JJ(c o n:Nat)(w:List Nat):List Nat:=(A8 c).flatMap λp=>(A8 o).flatMap λi=>CQ w n (i*c+p)
def auk(a:Ad):Sp:=Dq λv1 v2 H Q E=>Io λs o k w=>Im (C2 a H v1 s (.conv o k)) (GoodC s o k) (AL H v2 (Nv w)) (w.length=o*(s.1*(k*k))+o) (DB H Q (Nv (JJ s.1 o (k*k) (w.take (o*(s.1*(k*k)))))))
def Zj(ls:List (List Nat)):(ls.map Nv).flatten=Nv ls.flatten:=(UH ..).symm
def Q2(f:α->List β)(l:List α):(l.map f).flatten=l.flatMap f:=rfl
def anI(T:Txt K mg a):A_ P w K mg base 2 a.eK ["self","own"] (auk a):=by
 refine T.ahs.En aqn λAF A outer s H p0 p1 Q E hr h nd=>?_;obtain⟨sh,o,k,w,L,G,⟨b2,rfl,h2⟩,hw,q⟩:=h;obtain⟨p,dx,g,m,u,rfl,hp,⟨bg,dg,rfl,hg⟩,⟨bm,dm,rfl,hm⟩,hu⟩:=L;refine⟨_,(A7 (AW (i:=2) nd rfl (A6 rfl) (AM Dn (AH (pv 0) rfl) (AH (AH (pv 0) rfl) rfl))) (A7 (AW (i:=3) nd rfl (C1 rfl) (Ag (Wo T) T.Ue hr AD (A1 (Jg Jj (pv 1) Oc (Gs (pv 2))) (A1 (AM ID (AH (pv 0) rfl) (AH (pv 0) rfl)) A3)))) (AE (Aa (Ag (Wm T) T.V8 hr AD (A1 (FZ (own:=[("plane",4)]) rfl rfl rfl CD rfl nd (Oa (by rfl) T.Iu (A1 (AH (AH (pv 0) rfl) rfl) A3)) (Ck (by kernel_rfl)) (λ_ _ _ _ _=>(Ay (i:=4) nd rfl (A6 rfl))) (λ_ _ _ _ _=>Cg) (λ_ _ _ _ _ _ _ An=>(Ag (Wm T) T.V8 hr An (A1 (apd (K:=K) rfl (pv 3) (pv 4) (O_ (K:=K) rfl (O_ (K:=K) rfl (pv 0)))) A3)))) A3)))))).Ak,?_⟩;have k5:k<=5:=be G.hk;have k0:0<k*k:=Sn G.hk;have Ja:=G.hw;have Gm:sh.1<=65536:=by
  refine Ao ?_ (Ao (Hm _ G.o0) G.hw);exact Ep _ k0
 refine cut λU hU=>?_;lk;repeat (simp only[E6 T hp,Dw T hp,E4 T hp,Dv T hp,Dx T hp,Dy T hp,DX T hm,DY T hm,DW T hm];lk)
 rw[show((o*sh.1*k*k+o:Nat):Int)-(o:Int)=((o*(sh.1*(k*k)):Nat):Int)from by rw[show o*sh.1*k*k=o*(sh.1*(k*k))from by rw[B6 (o*sh.1),B6 o]];lia];subst hU;refine cut λU hU=>?_;unfold Xg;lk;refine⟨_,A4.of h2,λc nc=>?_⟩;have BS:=A2.one (o:=.lst (HX (Nv w) none (some ((o*(sh.1*(k*k)):Nat):Int)))) nc _ _ hp;repeat (simp only[E6 T BS,Dw T BS,E4 T BS,Dv T BS,Dx T BS,Dy T BS];lk)
 rw[bB];have hlen:(w.take (o*(sh.1*(k*k)))).length=o*sh.1*(k*k):=by rw[EW,B6];lia
 have pf:=WR (λx:Nat=>V.int (x:Int)) (w.take (o*(sh.1*(k*k)))) (k*k) (o*sh.1) hlen;have s0:=A2.one (o:=.lst (Nq (o*(sh.1*(k*k))) (Nv w))) nc;refine⟨⟨G7 (by lia),G7 (by lia)⟩,(A8 (o*sh.1)).map λq=>Nv (CQ (w.take (o*(sh.1*(k*k)))) (k*k) q),k*k,⟨c,rfl,?_⟩,by rw[CK],k0,?_,?_,?_,λwl vs H1 s1 n1 Sj Qq=>?_⟩
 .rw[AB,pf,Nv,PR]
 .have:=GQ k5 k5;lia
 .intro l hl;obtain⟨q,hq,rfl⟩:=Ca.mp hl;rw[AV,IF hlen (BD.mp hq)]
 .rw[pf,AV,hlen,B6];lia
 subst hU;unfold lC;lk;have ll:=s0.trans s1;have An:=ll _ _ hp;have Gp:=ll _ _ hg;repeat (simp only[E6 T An,Dw T An,E4 T An,Dv T An,Dx T An,Dy T An,DX T Gp,DY T Gp,DW T Gp];lk)
 refine⟨by lia,by lia,?_⟩;have LM:∀p',p'<sh.1->((A8 o).flatMap λi=>CQ (w.take (o*(sh.1*(k*k)))) (k*k) (i*sh.1+p')).length=o*(k*k):=λp' FW=>by
  rw[LV (m:=k*k) λi hi=>?_,BJ];refine IF hlen ?_;have hi:=BD.mp hi
  calc i*sh.1+p'<i*sh.1+sh.1:=by lia
   _=(i+1)*sh.1:=by rw[BE,BQ]
   _<=_:=Bj _ hi
 have AZ:o*(k*k)<=65536:=Ao (EX o (Hm _ G.p0)) Ja;refine j3 (its:=A8 sh.1) (λp'=>Nv ((A8 o).flatMap λi=>CQ (w.take (o*(sh.1*(k*k)))) (k*k) (i*sh.1+p'))) Ma (λ_ _=>rfl) (B_ (by rw[BJ];lia)) (λp' FW H2 s2 Q' hq=>?_) λd ws H2 s2 n2 hd sj=>?_
 .have FW:=BD.mp FW;have Av:=s2 _ _ An;have Qk:=s2 _ _ Gp;lk;repeat (simp only[E6 T Av,Dw T Av,E4 T Av,Dv T Av,Dx T Av,Dy T Av,DX T Qk,DY T Qk,DW T Qk];lk)
  have Bt:=(Qq.mono s2).step p' sh.1;rw[auv _ G.p0 FW]at Bt;refine⟨wl,vs,p',sh.1,rfl,by rw[IW],rfl,G.p0,A4.of (s2 _ _ Sj),λe ne=>?_⟩;refine⟨_,_,⟨e,rfl,AB⟩,Bt.mono (A2.one ne),?_,?_⟩
  .rw[show(A8 o).map (λi=>Nv (CQ (w.take (o*(sh.1*(k*k)))) (k*k) (i*sh.1+p')))=((A8 o).map λi=>CQ (w.take (o*(sh.1*(k*k)))) (k*k) (i*sh.1+p')).map Nv from by rw[CA];rfl,Zj,AV,Q2,LM p' FW];lia
  .rw[show(A8 o).map (λi=>Nv (CQ (w.take (o*(sh.1*(k*k)))) (k*k) (i*sh.1+p')))=((A8 o).map λi=>CQ (w.take (o*(sh.1*(k*k)))) (k*k) (i*sh.1+p')).map Nv from by rw[CA];rfl,Zj,Q2];exact hq.mono (A2.one ne)
 .have e:((A8 sh.1).map λp'=>Nv ((A8 o).flatMap λi=>CQ (w.take (o*(sh.1*(k*k)))) (k*k) (i*sh.1+p')))=((A8 sh.1).map λp'=>(A8 o).flatMap λi=>CQ (w.take (o*(sh.1*(k*k)))) (k*k) (i*sh.1+p')).map Nv:=by rw[CA];rfl
  rw[e]at sj;refine⟨ws,_,⟨d,rfl,hd⟩,sj,?_,?_⟩
  .rw[Zj,AV,Q2,LV (m:=o*(k*k)) λp' FW=>LM p' (BD.mp FW),BJ];have:sh.1*(o*(k*k))=o*(sh.1*(k*k)):=by rw[<-B6,BV sh.1,B6]
   lia
  .rw[Zj,Q2];exact DB.mono q (ll.trans s2)
def amq{H:Hp}{R:A0->Hp->Prop}{E:XK}(hs:BB a H v s)(sm:Small s)(ho:o<2^32)(hk:k<2^32)
 (q:∀x H',A2 H H'->H x=none->C2 a H' (.ref x) s (.conv o k)->R x H'):
 ∀x' dx,H x'=none->H dx=none->dx≠x'->lA a [.ref x',v,.int (o:Int),.int (k:Int)] (upd (upd H dx (.own x')) x' (.ins a.Conv dx [])) (λv H2=>v=.Ah/\R x' H2) E:=by
 intro x' dx nx nd ne;have s1:A2 H (upd (upd H dx (.own x')) x' (.ins a.Conv dx [])):=((A2.refl H).new nd).new (by rw[AY ne.symm];exact nx);refine⟨x',dx,s,o,k,rfl,AB,hs.mono s1,sm,rfl,rfl,ho,hk,λu m H' kp hp up mp hu hm=>⟨rfl,q x' H' (Ac.made nx nd kp) nx ?_⟩⟩;have s2:A2 H H':=Ac.made nx nd kp;exact⟨x',dx,v,.ref m,.ref u,rfl,hp,hs.mono s2,hm,hu⟩
def tT(G:Good s (.conv o k)):GoodC s o k:=by
 obtain⟨t,ht,h0,h1⟩:=G.t;have hk:=G.k o k rfl;have ht:t=(o,s.2.1,s.2.2):=by
  rw[Bv,if_pos (by rcases hk with rfl|rfl|rfl<;>rfl)]at ht;cases ht;rfl
 subst ht;have h0:0<o*s.2.1*s.2.2:=h0;have h1:o*s.2.1*s.2.2<=4096:=h1;have hw:o*s.1*k*k+o<=65536:=G.w;refine⟨G.p,G.r,G.c,Yh λz=>by rw[z,Du,Du]at h0;lia,G.n,by rw[<-B6];exact h1,hk,?_⟩;rw[show o*s.1*k*k=o*(s.1*(k*k))from by rw[B6 (o*s.1),B6 o]]at hw;lia
def tS(G:GoodC s o k):GoodC (o,s.2.1,s.2.2) s.1 k where
 p0:=G.o0
 r0:=G.r0
 c0:=G.c0
 o0:=G.p0
 hn:=by have:=G.hm;rw[<-B6]at this;exact this
 hm:=by have:=G.hn;unfold AK at this;rw[B6]at this;exact this
 hk:=G.hk
 hw:=by have:=G.hw;rw[<-B6,BV o,B6]at this;exact this
def GoodC.small(G:GoodC s o k):Small s/\o<=4096/\s.2.1*s.2.2<=4096:=by
 have hn:=G.hn;have hm:=G.hm;unfold AK at hn;have h1:s.2.1*s.2.2<=4096:=Ao (Hm _ G.o0) hm;have h2:s.2.1<=4096:=Ao (Ep _ G.c0) h1;have h3:s.2.2<=4096:=Ao (Hm _ G.r0) h1;have h4:s.1<=4096:=by
  rw[B6]at hn;exact Ao (Ep _ (EC G.r0 G.c0)) hn
 have h5:o<=4096:=Ao (Ep _ (EC G.r0 G.c0)) hm;exact⟨⟨by lia,by lia,by lia⟩,h5,h1⟩
def Fc(n c:Nat)(xs:List Nat):List Nat:=(A8 c).flatMap λq=>(CQ xs n q).reverse
def acw(h1:AL H v1 (Nv xs))(h2:BB a H v2 s)(sm:Small s)(hl:xs.length=s.1*(s.2.1*s.2.2))(h0:0<s.2.1*s.2.2)(hz:s.2.1*s.2.2<=4096)(ie:xs.length<=2^20)
 (q:DB H Q (Nv (Fc (s.2.1*s.2.2) s.1 xs))):ac4 a [v1,v2] H Q E:=by
 have pf:=WR (λx:Nat=>V.int (x:Int)) xs (s.2.1*s.2.2) s.1 hl;refine⟨(A8 s.1).map λq=>(CQ xs (s.2.1*s.2.2) q).map (λx:Nat=>V.int (x:Int)),s,by rw[pf];exact h1,h2,sm,h0,by lia,?_,by rw[pf,AV];exact ie,?_⟩
 .intro l FV;obtain⟨i,hi,rfl⟩:=Ca.mp FV;rw[AV,IF hl (BD.mp hi)]
 .have:(((A8 s.1).map λq=>(CQ xs (s.2.1*s.2.2) q).map (λx:Nat=>V.int (x:Int))).map Lz).flatten=Nv (Fc (s.2.1*s.2.2) s.1 xs):=by
   unfold Fc;rw[Nv,P7,CA,<-Q2];congr 1;refine Lm λi _=>?_;show Lz (M4 _ _)=_;rw[aea]
  rw[this];exact q
def auO(h:xs.length=c*n):(Fc n c xs).length=c*n:=by
 unfold Fc;rw[LV (m:=n) λi hi=>by rw[RK,IF h (BD.mp hi)],BJ]
def auQ(h:x∈Fc n c xs):x∈xs:=by
 obtain⟨q,_,h⟩:=RQ.mp h;exact Hn (GO (List.mem_reverse.mp h))
def mI{w:List Nat}(h:w.length=o*c*n):(JJ c o n w).length=c*(o*n):=by
 unfold JJ;rw[LV (m:=o*n) λp hp=>?_,BJ];rw[LV (m:=n) λi hi=>?_,BJ];refine IF h ?_;have hi:=BD.mp hi;have hp:=BD.mp hp
 calc i*c+p<i*c+c:=by lia
  _=(i+1)*c:=by rw[BE,BQ]
  _<=_:=Bj _ hi
def av1{w:List Nat}{x:Nat}(h:x∈JJ c o n w):x∈w:=by
 obtain⟨p,_,h⟩:=RQ.mp h;obtain⟨i,_,h⟩:=RQ.mp h;exact Hn (GO h)
def IL(s:Cu)(o k:Nat)(w:List Nat):List Nat:=JJ s.1 o (k*k) (w.take (o*(s.1*(k*k))))++Ar s.1 0
def aS(s:Cu)(o k:Nat)(w g:List Nat):Option (List Nat):=(HM (o,s.2.1,s.2.2) (.conv s.1 k) (IL s o k w) (Fc (s.2.1*s.2.2) o g)).map (Fc (s.2.1*s.2.2) s.1)
def ajv{o k:Nat}{w x out:List Nat}(h:HM s (.conv o k) w x=some out):out.length=o*(s.2.1*s.2.2):=by
 have h:(Hz (o,s.2.1,s.2.2)).mapM _=some out:=h;rw[C3 h,places_eq,AV,BJ]
def asy(a:Ad):Sp:=Hi λv1 v2 v3 v4 H Q E=>Es λs o k w g=>Cn (C2 a H v1 s (.conv o k)) (GoodC s o k) (AL H v2 (Nv w)) (w.length=o*(s.1*(k*k))+o) (AL H v4 (Nv g)) (g.length=o*(s.2.1*s.2.2)) ((∀y∈w,AI y)) (((∀y∈g,AI y))/\EF a (aS s o k w g) H Q E)
def anF(T:Txt K mg a):A_ P w K mg base 8 a.e9 ["self","own","numbers","g"] (asy a):=by
 refine T.agU.J7 ar7 λAF A outer s H p0 p1 p2 p3 Q E hr h nd=>?_;obtain⟨sh,o,k,w,g,L,G,h2,hw,h4,tN,fw,fg,q⟩:=h;obtain⟨p,dx,gv,mv,u,rfl,hp,⟨bg,dg,rfl,hg⟩,⟨bm,dm,rfl,hm⟩,hu⟩:=id L;refine⟨_,(A7 (AW (i:=4) nd rfl (A6 rfl) (F9 (xJ T) T.vp T.rT hr AD (A1 (AH (pv 0) rfl) (A1 (AH (AH (pv 0) rfl) rfl) (A1 (AH (pv 0) rfl) A3))))) (A7 (AW (i:=5) nd rfl (A6 rfl) (AM TV (Bn (A1 (Au T.KD) A3)) (AH (AH (pv 0) rfl) rfl))) (AE (Aa (Ag (ya T) T.qu hr AD (A1 (Bb (wa T) T.Ew T.vW hr AD (pv 4) (A1 (AM OX (Bb (anI T) T.Ew T.amw hr AD (pv 0) (A1 (pv 1) A3)) (pv 5)) (A1 (Ag (ya T) T.qu hr AD (A1 (pv 3) (A1 (AH (pv 0) rfl) A3))) A3))) (A1 (AH (pv 0) rfl) A3))))))).Ak,?_⟩;refine cut λU hU=>?_;lk;repeat (simp only[E6 T hp,Dw T hp,E4 T hp,Dv T hp,Dx T hp,Dy T hp,DX T hg,DY T hg,DW T hg];lk)
 have GB:=tS G;w_up;obtain⟨sm,o4,Oe⟩:=G.small;obtain⟨Xe,c4,_⟩:=GB.small;fin2;have k5:k<=5:=be G.hk;have Tg:0<sh.2.1*sh.2.2:=EC G.r0 G.c0;have Ja:=G.hw;refine amq ⟨bm,dm,rfl,hm⟩ Xe (by lia) (by lia) λbk H1 s1 nbk LB=>?_;subst hU;have BS:=s1 _ _ hp;have WB:=s1 _ _ hg;lk;refine⟨by decide,λc nc=>?_⟩;have An:=A2.one (o:=.lst [V.int 0]) nc _ _ BS;have Gp:=A2.one (o:=.lst [V.int 0]) nc _ _ WB;repeat (simp only[E6 T An,Dw T An,E4 T An,Dv T An,Dx T An,Dy T An,DX T Gp,DY T Gp,DW T Gp];lk)
 refine⟨_,AB,by lia,by lia,B_ (by show 1*sh.1<=_;lia),λd BX=>?_⟩;rw[show((sh.1:Nat):Int).toNat=sh.1 from rfl,Ul];have s2:A2 H1 (upd (upd H1 c (.lst [V.int 0])) d (.lst (Nv (Ar sh.1 0)))):=(A2.one nc).new BX;generalize iJ:upd (upd H1 c (.lst [V.int 0])) d (.lst (Nv (Ar sh.1 0)))=H2 at*;have hd2:H2 d=some (.lst (Nv (Ar sh.1 0))):=by rw[<-iJ,AB]
 have Fb:=s1.trans s2;w_up;obtain⟨_,ahJ,gb,mb,ub,eb,akJ,MZ,hmb,hub⟩:=id LB;fin2;cases eb;refine⟨bk,ahJ,_,rfl,s2 _ _ akJ,by kernel_rfl,p,dx,_,rfl,Fb _ _ hp,by kernel_rfl,?_⟩;have hlen:(w.take (o*(sh.1*(k*k)))).length=o*sh.1*(k*k):=by rw[EW,B6];lia
 have Ot:=mI hlen;have ayj:sh.1*(o*(k*k))=o*(sh.1*(k*k)):=by rw[<-B6,BV sh.1,B6]
 refine⟨sh,o,k,w,L.mono Fb,G,h2.mono Fb,hw,λe H3 s3 n3 he=>?_⟩;have Mw:=Fb.trans s3;lk;refine⟨_,_,he,s3 _ _ hd2,B_ (by rw[AV,AV,Ot,GN];lia),λf nf=>?_⟩;have s4:=Mw.trans (A2.one (o:=.lst (Nv (JJ sh.1 o (k*k) (Nq (o*(sh.1*(k*k))) w))++Nv (Ar sh.1 0))) nf);have akA:upd H3 f (.lst (Nv (JJ sh.1 o (k*k) (Nq (o*(sh.1*(k*k))) w))++Nv (Ar sh.1 0))) f=some (.lst (Nv (IL sh o k w))):=by rw[AB,IL,VI]
 have s24:A2 H2 (upd H3 f (.lst (Nv (JJ sh.1 o (k*k) (Nq (o*(sh.1*(k*k))) w))++Nv (Ar sh.1 0)))):=s3.trans (A2.one nf);generalize upd H3 f (.lst (Nv (JJ sh.1 o (k*k) (Nq (o*(sh.1*(k*k))) w))++Nv (Ar sh.1 0)))=H4 at*;have J2:=s4 _ _ hp;repeat (simp only[E6 T J2,Dw T J2,E4 T J2,Dv T J2,Dx T J2,Dy T J2];lk)
 refine acw (s:=(o,sh.2.1,sh.2.2)) (h4.mono s4) ⟨bm,dm,rfl,s4 _ _ hm⟩ Xe tN Tg Oe (by have:=G.hm;lia) λh H5 s5 n5 hh=>?_;have W1:(IL sh o k w).length=sh.1*(o*(k*k))+sh.1:=by rw[IL,Bo,Ot,GN]
 have fb:∀y∈IL sh o k w,AI y:=λy hy=>by
  rcases Hr.mp hy with hy|hy
  .exact fw y (GO (av1 hy))
  .exact Q0 y hy
 have Wf:=s4.trans s5;refine⟨(o,sh.2.1,sh.2.2),sh.1,k,IL sh o k w,Fc (sh.2.1*sh.2.2) o g,(LB.mono s2).mono (s24.trans s5),GB,⟨f,rfl,s5 _ _ akA⟩,W1,⟨h,rfl,hh⟩,?_,fb,λy hy=>fg y (auQ hy),?_⟩
 .show(Fc (sh.2.1*sh.2.2) o g).length=o*sh.2.1*sh.2.2;rw[auO tN,B6]
 unfold aS at q;cases ef:HM (o,sh.2.1,sh.2.2) (.conv sh.1 k) (IL sh o k w) (Fc (sh.2.1*sh.2.2) o g)with
 |none=>
  rw[ef]at q;exact λH' s'=>q H' (Wf.trans s')
 |some out=>
  rw[ef]at q;have ol:=ajv ef;intro r H6 s6 n6 hr6;have lu:=Wf.trans s6;have Ry:=lu _ _ hp;repeat (simp only[E6 T Ry,Dw T Ry,E4 T Ry,Dv T Ry,Dx T Ry,Dy T Ry];lk)
  have hcn:sh.1*(sh.2.1*sh.2.2)<=4096:=by have:=G.hn;unfold AK at this;rw[B6]at this;exact this
  exact acw (s:=sh) ⟨r,rfl,hr6⟩ ⟨bg,dg,rfl,lu _ _ hg⟩ sm ol Tg Oe (by rw[ol];show sh.1*(sh.2.1*sh.2.2)<=_;lia) (DB.mono q lu)
def vh{ι β:Type}(f:ι->Option β):∀(l:List ι),l.reverse.mapM f=(l.mapM f).map Lz
 |[]=>rfl
 |x::l=>by
  rw[PH,OR,vh f l,Cm];cases f x with
  |none=>cases l.mapM f<;>rfl
  |some y=>
   cases l.mapM f with
   |none=>rfl
   |some ys=>
    show some (ys.reverse++[y])=some (y::ys).reverse;rw[PH]
def cD(f:ι->Option β)(h:β->γ):∀(l:List ι),(l.mapM λx=>(f x).map h)=(l.mapM f).map (M4 h)
 |[]=>rfl
 |x::l=>by
  rw[Cm,Cm,cD f h l];cases f x with
  |none=>rfl
  |some y=>cases l.mapM f<;>rfl
def apJ(n:Nat):(A8 n).reverse=(A8 n).map λi=>n-1-i:=by
 refine FE (by simp) λi h1 h2=>?_;rw[ade,FC,Jm,FC,BJ]
def apL:∀{rows:List (List Nat)}{q:Nat}(h:q<rows.length),(∀r∈rows,r.length=n)->CQ rows.flatten n q=rows[q]
 |rows,q,h,hl=>by
  unfold CQ;exact bH hl (by simp[h])
def auM{rows:List (List Nat)}(hc:rows.length=c)(hl:∀r∈rows,r.length=n):Fc n c rows.flatten=(rows.map Lz).flatten:=by
 unfold Fc;rw[<-Q2];congr 1;refine FE (by simp[hc]) λi h1 h2=>?_;have hi:i<rows.length:=by simpa using h2
 rw[Jm,Jm,FC,apL hi hl]
def bG(hl:∀q,q<c->(f q).length=n)(hq:q<c)(hi:i<n):Ab ((A8 c).flatMap f) (q*n+i)=Ab (f q) i:=by
 have h1:∀l∈(A8 c).map f,l.length=n:=λl FV=>by
  obtain⟨j,hj,rfl⟩:=Ca.mp FV;exact hl j (BD.mp hj)
 have h2:=bH (ls:=(A8 c).map f) (i:=q) (l:=f q) h1 (by rw[D0,UD hq];rfl);rw[Q2]at h2;have hlen:((A8 c).flatMap f).length=c*n:=by rw[LV (m:=n) λj hj=>hl j (BD.mp hj),BJ]
 have:q*n+n<=c*n:=by
  calc q*n+n=(q+1)*n:=by rw[BE,BQ]
   _<=_:=Bj _ hq
 rw[<-h2,Zy hi,fI (by omega)]
def auJ(h:xs.length=c*n)(hq:q<c)(hi:i<n):Ab (Fc n c xs) (q*n+i)=Ab xs (q*n+(n-1-i)):=by
 unfold Fc;rw[bG (n:=n) (λj hj=>by rw[RK,IF h hj]) hq hi,<-WQ h hq (show n-1-i<n by lia)];have hl:=IF h hq;rw[Dh (by rw[RK,hl];exact hi),Dh (by rw[hl];lia),ade];simp only[hl]
def av0(h:w.length=o*c*n)(hp:p<c)(hq:q<o)(hi:i<n):Ab (JJ c o n w) (p*(o*n)+(q*n+i))=Ab w ((q*c+p)*n+i):=by
 have jL:∀q p,q<o->p<c->q*c+p<o*c:=λq p hq hp=>by
  calc q*c+p<q*c+c:=by lia
   _=(q+1)*c:=by rw[BE,BQ]
   _<=_:=Bj _ hq
 have hqn:q*n+i<o*n:=by
  calc q*n+i<q*n+n:=by lia
   _=(q+1)*n:=by rw[BE,BQ]
   _<=_:=Bj _ hq
 unfold JJ;rw[bG (n:=o*n) (λp hp=>by rw[LV (m:=n) λi hi=>IF h (jL i p (BD.mp hi) hp),BJ]) hp hqn,bG (n:=n) (λq hq=>IF h (jL q p hq hp)) hq hi,WQ h (jL q p hq hp) hi]
def vw(hk:k=1\/k=3\/k=5)(hy:y<R)(hi:i<k):CL R k (R-1-y) i=(CL R k y (k-1-i)).map λy1=>R-1-y1:=by
 unfold CL;have IM:k=2*(k/2)+1:=by rcases hk with rfl|rfl|rfl<;>rfl
 generalize k/2=h at*;subst IM;obtain⟨d,rfl⟩:=JA hy;obtain⟨j,hj⟩:=JA (Nat.le_of_lt_succ hi);rw[show y+1+d-1-y=d by rw[ZR,Fi 1 y,IS],show 2*h+1-1-i=j by rw[PB,hj,IS]];clear hi hy;by_cases c:h<=y+j/\y+j<y+1+d+h
 .rw[if_pos c,if_pos (by lia)];show some _=some (y+1+d-1-(y+j-h));congr 1;lia
 .rw[if_neg c,if_neg (by lia)];rfl
def vy(h:CL R k y i=some y1):y1<R:=by
 unfold CL at h;split at h
 .cases h;omega
 .cases h
def R7:CM (o,R,C) q y c=q*(R*C)+(y*C+c):=by
 show(q*R+y)*C+c=_;rw[BE,B6,PQ]
def zf(hy:y<R)(hc:c<C):(R-1-y)*C+(C-1-c)=R*C-1-(y*C+c):=by
 obtain⟨d,rfl⟩:∃d,R=y+1+d:=⟨R-(y+1),by omega⟩;obtain⟨e,rfl⟩:∃e,C=c+1+e:=JA hc;rw[show y+1+d-1-y=d by rw[ZR,Fi 1 y,IS],show c+1+e-1-c=e by rw[ZR,Fi 1 c,IS],BE,BE,BQ,ZR];exact(Nat.sub_eq_of_eq_add (by ac_rfl)).symm
def ajC{o k:Nat}{w x g:List Nat}(G:GoodC s o k)(hw:w.length=o*(s.1*(k*k))+o)(hg:g.length=o*(s.2.1*s.2.2)):H_ s (.conv o k) w x g=aS s o k w g:=by
 have hlen:(w.take (o*(s.1*(k*k)))).length=o*s.1*(k*k):=by rw[EW,B6];lia
 unfold aS;have e1:HM (o,s.2.1,s.2.2) (.conv s.1 k) (IL s o k w) (Fc (s.2.1*s.2.2) o g)=(Hz (s.1,s.2.1,s.2.2)).mapM _:=rfl;rw[e1,jr,RP];show(Hz s).mapM _=_;rw[jr];have e2:∀(F:Nat->Nat->Option Nat),((A8 s.1).mapM λp=>(A8 (s.2.1*s.2.2)).mapM λq=>F p q).map (Fc (s.2.1*s.2.2) s.1∘Lx)=((A8 s.1).mapM λp=>(A8 (s.2.1*s.2.2)).mapM λq=>F p (s.2.1*s.2.2-1-q)).map Lx:=by
  intro F;have:(λp=>(A8 (s.2.1*s.2.2)).mapM λq=>F p (s.2.1*s.2.2-1-q))=λp=>((A8 (s.2.1*s.2.2)).mapM λq=>F p q).map Lz:=by
   funext p;rw[<-vh,apJ,OQ]
  rw[this,cD,RP];cases e:(A8 s.1).mapM λp=>(A8 (s.2.1*s.2.2)).mapM λq=>F p q with
  |none=>rfl
  |some rows=>
   show some _=some _;congr 1;have GG:=C3 e;rw[BJ]at GG;refine auM GG λr hr=>?_;obtain⟨p,_,hp⟩:=NS e hr;have:=C3 hp;rwa[BJ]at this
 rw[e2];congr 1;refine mapM_congr λp hp=>mapM_congr λi hi=>?_;have hp:=BD.mp hp;have hi:=BD.mp hi;have gf:=G.c0;have hy:i/s.2.2<s.2.1:=(NX gf).mpr hi;have hx:i %s.2.2<s.2.2:=D5 _ gf;have LQ:=zf hy hx;have him:i/s.2.2*s.2.2+i %s.2.2=i:=by rw[BV];exact Gx i s.2.2
 rw[him]at LQ;have B3:s.2.2-1-i %s.2.2<s.2.2:=by lia
 have hd:(s.2.1*s.2.2-1-i)/s.2.2=s.2.1-1-i/s.2.2:=by rw[<-LQ,BV,Gz gf,Ff B3,JE]
 have hm:(s.2.1*s.2.2-1-i) %s.2.2=s.2.2-1-i %s.2.2:=by rw[<-LQ,BV,Kn,Fh B3]
 simp only[hd,hm];generalize i/s.2.2=y at*;generalize i %s.2.2=c at*;have h0:Ab (IL s o k w) (s.1*o*k*k+p)=0:=by
  unfold IL;have Ot:=mI hlen;rw[show s.1*o*k*k=s.1*(o*(k*k))from by rw[B6 (s.1*o),B6 s.1],<-Ot];unfold Ab;rw[IQ,U2 (Fy _ _),IS,mw,if_pos hp];rfl
 rw[h0,<-gH];congr 1;rw[P7];refine Gi λq hq=>?_;rw[P7];refine Gi λa ha=>?_;rw[aeF];have hq:=BD.mp hq;have ha:=BD.mp ha;have fm:∀{α β:Type}{f g:α->Option β}{l:List α},(∀x∈l,f x=g x)->l.filterMap f=l.filterMap g:=λ{α β f g l}h=>by
  induction l with
  |nil=>rfl
  |cons z l ih=>rw[Ho,Ho,h z Bu,ih λy hy=>h y (Ba _ hy)]
 refine fm λj hj=>?_;have hj:=BD.mp hj;rw[vw G.hk hy ha,vw G.hk hx hj];cases m1:CL s.2.1 k y (k-1-a)with
 |none=>rfl
 |some y1=>
  cases m2:CL s.2.2 k c (k-1-j)with
  |none=>rfl
  |some c1=>
   have R5:=vy m1;have Gm:=vy m2;have uv:y1*s.2.2+c1<s.2.1*s.2.2:=by
    calc y1*s.2.2+c1<y1*s.2.2+s.2.2:=by lia
     _=(y1+1)*s.2.2:=by rw[BE,BQ]
     _<=_:=Bj _ R5
   have Qm:a*k+j<k*k:=by
    calc a*k+j<a*k+k:=by lia
     _=(a+1)*k:=by rw[BE,BQ]
     _<=_:=Bj _ ha
   have g1:Ab (Fc (s.2.1*s.2.2) o g) (CM (o,s.2.1,s.2.2) q (s.2.1-1-y1) (s.2.2-1-c1))=Ab g (CM (o,s.2.1,s.2.2) q y1 c1):=by
    rw[R7,R7,zf R5 Gm,auJ hg hq (FD (Kx ..) (Nat.sub_lt (aeI uv) ZQ))];congr 2;exact Nat.sub_sub_self (Nat.le_sub_one_of_lt uv)
   have g2:Ab (IL s o k w) (PM o k p q a j)=Ab w (PM s.1 k q p a j):=by
    have Ot:=mI hlen;rw[mh,mh,R7,R7];unfold IL;have B3:p*(o*(k*k))+(q*(k*k)+(a*k+j))<(JJ s.1 o (k*k) (w.take (o*(s.1*(k*k))))).length:=by
     rw[Ot];have h1:q*(k*k)+(a*k+j)<o*(k*k):=by
      calc _<q*(k*k)+k*k:=by lia
       _=(q+1)*(k*k):=by rw[BE,BQ]
       _<=_:=Bj _ hq
     calc _<p*(o*(k*k))+o*(k*k):=by lia
      _=(p+1)*(o*(k*k)):=by rw[BE,BQ]
      _<=_:=Bj _ hp
    have e3:∀(xs ys:List Nat)(i:Nat),i<xs.length->Ab (xs++ys) i=Ab xs i:=λxs ys i hi=>by
     unfold Ab;rw[IQ,IQ,nL hi]
    rw[e3 _ _ _ B3,av0 hlen hp hq Qm,Zy]
    .congr 1;rw[BE,B6];lia
    .have h1:q*s.1+p<o*s.1:=by
      calc q*s.1+p<q*s.1+s.1:=by lia
       _=(q+1)*s.1:=by rw[BE,BQ]
       _<=_:=Bj _ hq
     calc (q*s.1+p)*(k*k)+(a*k+j)<(q*s.1+p)*(k*k)+k*k:=by lia
      _=(q*s.1+p+1)*(k*k):=by rw[BE (q*s.1+p),BQ]
      _<=o*s.1*(k*k):=Bj _ h1
      _=_:=B6 ..
   show some (Ab w (PM s.1 k q p a j),Ab g (CM (o,s.2.1,s.2.2) q y1 c1))=some (Ab (IL s o k w) (PM o k p q a j),Ab (Fc (s.2.1*s.2.2) o g) (CM (o,s.2.1,s.2.2) q (s.2.1-1-y1) (s.2.2-1-c1)));rw[g1,g2]
def Iq(n:Nat)(f:Nat->Nat->Option Nat)(c:Nat->Nat)(BH:List (List Nat)):Prop:=BH.length=n/\∀pl,pl<n->∃acc,BH[pl]? =some acc/\(A8 (c pl)).mapM (f pl)=some acc
def Iq.put(h:Iq n f (λpl=>if pl<j then c0+1 else c0) BH)(hj:j<n)(ha:BH[j]? =some acc)(MU:(A8 c0).mapM (f j)=some acc)(ez:f j c0=some z):Iq n f (λpl=>if pl<j+1 then c0+1 else c0) (BH.set j (acc++[z])):=by
 refine⟨by rw[Z8];exact h.1,λpl Ax=>?_⟩;by_cases e:pl=j
 .subst e;refine⟨acc++[z],by rw[Tw (by rw[h.1];lia)],?_⟩;simp only[RR,if_true];rw[PZ,OR,MU,Aq,ez];rfl
 .obtain⟨ac,h1,h2⟩:=h.2 pl Ax;refine⟨ac,by rw[UA (λz=>e z.symm)];exact h1,?_⟩;by_cases e2:pl<j
  .simp only[e2,if_true]at h2;simp only[show pl<j+1 by lia,if_true];exact h2
  .simp only[e2,if_false]at h2;simp only[show¬pl<j+1 by lia,if_false];exact h2
def Iq.all(h:Iq n f (λ_=>N) BH):(A8 n).mapM (λpl=>(A8 N).mapM (f pl))=some BH:=by
 rw[mapM_congr (g:=λpl=>BH[pl]?) λpl Ax=>?_,<-h.1,jb];obtain⟨acc,h1,h2⟩:=h.2 pl (BD.mp Ax);rw[h1,h2]
def Iq.bz(h:Iq n f (λ_=>N) BH):∀l∈BH,l.length=N:=λl hl=>by
 obtain⟨i,hi,rfl⟩:=PL hl;obtain⟨acc,h1,h2⟩:=h.2 i (by rw[<-h.1];exact hi);rw[E8 hi]at h1;cases h1;have:=C3 h2;rwa[BJ]at this
def Iq.mem(h:Iq n f (λ_=>N) BH)(hz:z∈BH.flatten):∃pl q,pl<n/\q<N/\f pl q=some z:=by
 obtain⟨l,hl,hz⟩:=nv.mp hz;obtain⟨i,hi,rfl⟩:=PL hl;obtain⟨acc,h1,h2⟩:=h.2 i (by rw[<-h.1];exact hi);rw[E8 hi]at h1;cases h1;obtain⟨q,hq,hc⟩:=NS h2 hz;exact⟨i,q,by rw[<-h.1];exact hi,BD.mp hq,hc⟩
def Jh(s:Cu)(k:Nat)(g:List Nat)(q i j:Nat):List Nat:=Ex (CQ g (s.2.1*s.2.2) q) (1,s.2.1,s.2.2) (AQ k i) (Aj k s.2.1 s.2.1 i) (AQ k j) (Aj k s.2.2 s.2.2 j)
def Mo(s:Cu)(k:Nat)(x:List Nat)(q i j:Nat):List Nat:=Ex (CQ x (s.2.1*s.2.2) q) (1,s.2.1,s.2.2) (AQ k i+i-k/2) (Aj k s.2.1 s.2.1 i+i-k/2) (AQ k j+j-k/2) (Aj k s.2.2 s.2.2 j+j-k/2)
def JS(s:Cu)(k:Nat)(g x:List Nat)(pair q:Nat):Option Nat:=Bf 0 ((Jh s k g (pair/s.1) (q/k) (q %k)).zip (Mo s k x (pair %s.1) (q/k) (q %k)))
def SF(s:Cu)(o k:Nat)(g x:List Nat):Option (List (List Nat)):=(A8 (o*s.1)).mapM λpair=>(A8 (k*k)).mapM λq=>JS s k g x pair q
def OG:Aj k R R i-AQ k i<=R:=
 U8 (Rg.2 ⟨aeQ ..,Ao (NY ..) (Fy ..)⟩)
def Y6(xs:List Nat)(R C t b l r:Nat)(h1:b-t<=R)(h2:r-l<=C):(Ex xs (1,R,C) t b l r).length<=R*C:=by
 refine Ao (Uq ..) ?_;show 1*((b-t)*(r-l))<=_;rw[BQ];exact GQ h1 h2
def aun(a:Ad):Sp:=D9 λv1 v2 v3 H Q E=>Es λs o k x g=>Cn (QC a H v1 s o k) (GoodC s o k) (AL H v2 (Nv x)) (x.length=AK s) (AL H v3 (Nv g)) (g.length=o*(s.2.1*s.2.2)) ((∀y∈x,AI y)) (((∀y∈g,AI y))/\EF a ((SF s o k g x).map Lx) H Q E)
def anZ(T:Txt K mg a):A_ P w K mg base 6 a.eO ["self","numbers","g"] (aun a):=by
 refine T.aht.Dc aqo λAF A outer s H p0 p1 p2 Q E hr h nd=>?_;obtain⟨sh,o,k,x,g,CV,G,h2,hx,h3,hg,fx,fg,q⟩:=h;obtain⟨p,dx,gv,mv,u,cv,rfl,hp,⟨bg,dg,rfl,W9⟩,⟨bm,dm,rfl,Qr⟩,hu⟩:=id CV;obtain⟨sm,o4,Oe⟩:=G.small;refine⟨_,(A7 (AW (i:=3) nd rfl (A6 rfl) (F9 (Xw T) T.cG T.aP hr AD (A1 (Bn (A1 (Au T.KD) A3)) (A1 (pv 2) (A1 (pv 1) A3))))) (A7 (AW (i:=4) nd rfl (C1 rfl) (F9 (TM T) T.To T.SM hr AD (A1 Am (A1 (AH (AH (pv 0) rfl) rfl) (A1 (AH (AH (pv 0) rfl) rfl) A3))))) (A7 (yR (i:=5) (own:=[("pair",12)]) rfl nd rfl rfl (T8 rfl rfl rfl (by kernel_rfl)) (Oa (by rfl) T.Iu (A1 (AM ID (AH (AH (pv 0) rfl) rfl) (AH (AH (pv 0) rfl) rfl)) A3)) (Ck (by kernel_rfl)) (λ_ _ _ _ _=>(Ay (i:=12) nd rfl (A6 rfl))) (λ_ _ _ _ _=>Cg) (λ_ _ _ _ _=>(Bn A3))) (A7 (E5 Dd rfl (Oa (by rfl) T.Iu (A1 (AH (pv 0) rfl) A3)) (Ay (i:=6) nd rfl (A6 rfl)) (AE (E5 Dd rfl (Oa (by rfl) T.Iu (A1 (AH (pv 0) rfl) A3)) (Ay (i:=7) nd rfl (A6 rfl)) (A7 (AW (i:=8) nd rfl (C1 rfl) (Bb (xK T) T.Ew T.vV hr AD (pv 0) (A1 (pv 6) (A1 (pv 7) (A1 (AH (pv 4) rfl) (A1 (AH (pv 4) rfl) A3)))))) (A7 (AW (i:=9) nd rfl (C1 rfl) (Bb (xI T) T.LD T.vU hr AD (pv 8) (A1 (AM Dn (pv 6) (AH (pv 0) rfl)) (A1 (AM Dn (pv 7) (AH (pv 0) rfl)) A3)))) (A7 (Y8 (i:=10) (own:=[("part",14)]) rfl rfl rfl CD rfl nd rfl rfl (T8 rfl rfl rfl (by kernel_rfl)) (De (Ag (Wo T) T.Ue hr AD (A1 (AH (pv 3) rfl) (A1 (Cf (LW T) T.FQ T.L6 hr AD (pv 4)) A3)))) (Ck (by kernel_rfl)) (λ_ _ _ _ _=>(Ay (i:=14) nd rfl (A6 rfl))) (λ_ _ _ _ _=>Cg) (λ_ _ _ _ _ _ _ An=>(Ag (Xx T) T.aQ hr An (A1 (pv 14) (A1 (pv 4) (A1 (pv 8) A3)))))) (A7 (Y8 (i:=11) (own:=[("part",14)]) rfl rfl rfl CD rfl nd rfl rfl (T8 rfl rfl rfl (by kernel_rfl)) (De (Ag (Wo T) T.Ue hr AD (A1 (AH (pv 3) rfl) (A1 (Cf (LW T) T.FQ T.L6 hr AD (pv 4)) A3)))) (Ck (by kernel_rfl)) (λ_ _ _ _ _=>(Ay (i:=14) nd rfl (A6 rfl))) (λ_ _ _ _ _=>Cg) (λ_ _ _ _ _ _ _ An=>(Ag (Xx T) T.aQ hr An (A1 (pv 14) (A1 (pv 4) (A1 (pv 9) A3)))))) (AE (E5 Dd rfl (Oa (by rfl) T.Iu (A1 (CG EH (by rfl) T.E0 Dt (A1 (pv 5) A3)) A3)) (Ay (i:=12) nd rfl (A6 rfl)) (A7 (AW (i:=13) nd rfl (A6 rfl) (BL BM (pv 10) (AM K6 (pv 12) (AH (AH (pv 0) rfl) rfl)) (λ_ _=>rfl))) (AE (Df (Fu Fd Gv Hk IB (BL BM (pv 5) (pv 12) (λ_ _=>rfl)) (A1 (Bb (Xu T) T.E1 T.c9 hr AD (pv 3) (A1 (BL BM (AH (pv 3) rfl) Am (λ_ _=>rfl)) (A1 (pv 13) (A1 (BL BM (pv 11) (AM ji (pv 12) (AH (AH (pv 0) rfl) rfl)) (λ_ _=>rfl)) A3)))) A3)))))))))))))) (AE (Aa (Bb (Xv T) T.E1 T.cA hr AD (pv 3) (A1 (Ag (Wm T) T.V8 hr AD (A1 (pv 5) A3)) A3)))))))).Ak,?_⟩;have k5:k<=5:=be G.hk;have Tg:0<sh.2.1*sh.2.2:=EC G.r0 G.c0;have hn4:=G.hn;have WI:=G.hm;have Ja:=G.hw;refine cut λU hU=>?_;lk;refine⟨by decide,λc nc=>?_⟩;have s0:=A2.one (o:=.lst [V.int 0]) nc;refine cE (st:=[0]) (lf:=g) (rt:=x) ⟨c,rfl,AB⟩ (h3.mono s0) (h2.mono s0) (by decide) (by rw[hg];lia) (by lia) (λy hy=>by rw[C5.mp hy];exact HY) fg fx λz fine H1 s1 S ok=>?_;have sH:=s0.trans s1;subst hU;refine cut λU hU=>?_;lk;have BS:=sH _ _ hp;have WB:=sH _ _ W9;repeat (simp only[E6 T BS,Dw T BS,E4 T BS,Dv T BS,Dx T BS,Dy T BS,DX T WB,DY T WB,DW T WB];lk)
 refine Sy (1,sh.2.1,sh.2.2) rfl rfl rfl λpn H2 s2 npn Oq=>?_;w_up;obtain⟨_,SG,e,Oq⟩:=Oq;fin2;cases e;subst hU;refine cut λU hU=>?_;lk;have Fb:=sH.trans s2;have An:=Fb _ _ hp;have Gp:=Fb _ _ W9;have Qs:=Fb _ _ Qr;repeat (simp only[E6 T An,Dw T An,E4 T An,Dv T An,Dx T An,Dy T An,DX T Gp,DY T Gp,DW T Gp,DX T Qs,DY T Qs,DW T Qs];lk)
 have Gm:sh.1<=4096:=by
  have:=hn4;unfold AK at this;rw[B6]at this;exact Ao (Ep _ Tg) this
 have k0:0<k*k:=Sn G.hk;have jC:o*sh.1<=65536:=by
  refine Ao ?_ Ja;exact EX _ (Ep _ k0)
 refine⟨⟨G7 (by lia),G7 (by lia)⟩,by lia,by rw[<-CK];lia,?_⟩;rw[show((o:Int)*(sh.1:Int)).toNat=o*sh.1 from by rw[<-CK];rfl];refine wI Ma (λ_ _=>rfl) (B_ (by rw[BJ];lia)) (λit _ H' s' Q' hq=>?_) λmd ps H3 s3 nmd cO Ax gX gS T4=>?_
 .lk;exact⟨by decide,λb nb=>hq b _ (A2.one nb) nb AB⟩
 rw[BJ]at Ax;subst hU;lk;have Mw:=Fb.trans s3;have Av:=Mw _ _ hp;repeat (simp only[E6 T Av,Dw T Av,E4 T Av,Dv T Av,Dx T Av,Dy T Av];lk)
 refine⟨by lia,by lia,?_⟩;w_up;obtain⟨_,dz,x0,x1,x2,ez,hz,⟨c0,rfl,l0⟩,⟨c1,rfl,l1⟩,⟨c2,rfl,l2⟩⟩:=id S;fin2;cases ez;have Xn:∀d∈ps,H2 d=none:=λd hd=>(T4 d hd).1;have Zn:A2 H2 (Aw H3 ps):=X_ s3 Xn;have Rx:Aw H3 ps md=some (.lst (ps.map V.ref)):=EJ cO gS;have rows0:Ci H3 ps ((Ar (o*sh.1) ([]:List Nat)).map λl=>l.map (Ce fine)):=by
  have:∀(l:List A0),(∀p∈l,H3 p=some (.lst []))->Ci H3 l ((Ar l.length ([]:List Nat)).map λl=>l.map (Ce fine)):=by
   intro l;induction l with
   |nil=>intro _;trivial
   |cons x l ih=>intro h;exact⟨h x Bu,ih λp hp=>h p (Ba _ hp)⟩
  have h:=this ps λp hp=>(T4 p hp).2;rwa[Ax]at h
 refine MR (H0:=Aw H3 ps) Ma (λi σ H'=>D1 (A2 (Aw H3 ps) H') ((∃o1 o2 o3 o4 o5 o6 o7 o8 o9,σ=[some (.ref p),some p1,some p2,some (.ref z),some (.ref pn),some (.ref md),o1,o2,o3,o4,o5,o6,o7,o8,o9])) (∃BH,Ci H' ps (BH.map λl=>l.map (Ce fine))/\Iq (o*sh.1) (JS sh k g x) (λ_=>i*k) BH))
  ⟨E7,⟨none,none,none,none,none,none,none,none,none,rfl⟩,Ar (o*sh.1) [],rows0,⟨GN,λpl Ax=>⟨[],by simp[Ax],by rw[Du];rfl⟩⟩⟩ (λ_ _ _ h=>h.1) ?_ ?_
 .intro i i' σ H4 H5 hi AG s5;w_up;obtain⟨S4,⟨o1,o2,o3,o4,o5,o6,o7,o8,o9,rfl⟩,BH,ra,ri⟩:=AG;obtain⟨LO,rfl⟩:=Gu.mp hi;fin2;rw[BJ]at LO;rw[FC];have LO:i<k:=by lia
  have Cd:=s5 _ _ (S4 _ _ (Zn _ _ An));lk;repeat (simp only[E6 T Cd,Dw T Cd,E4 T Cd,Dv T Cd,Dx T Cd,Dy T Cd];lk)
  refine⟨by lia,by lia,?_⟩;refine MR (H0:=Aw H3 ps) Ma (λj σ H'=>D1 (A2 (Aw H3 ps) H') ((∃o2 o3 o4 o5 o6 o7 o8 o9,σ=[some (.ref p),some p1,some p2,some (.ref z),some (.ref pn),some (.ref md),some (.int (0+(i:Int))),o2,o3,o4,o5,o6,o7,o8,o9])) (∃BH,Ci H' ps (BH.map λl=>l.map (Ce fine))/\Iq (o*sh.1) (JS sh k g x) (λ_=>i*k+j) BH))
   ⟨S4.trans s5,⟨o2,o3,o4,o5,o6,o7,o8,o9,rfl⟩,BH,ra.mono s5,by simpa using ri⟩ (λ_ _ _ h=>h.1) ?_ ?_
  .clear ra ri BH;intro j j' σ H6 H7 hj AG s7;w_up;obtain⟨S6,⟨o2,o3,o4,o5,o6,o7,o8,o9,rfl⟩,BH,ra,ri⟩:=AG;obtain⟨KS,rfl⟩:=Gu.mp hj;fin2;rw[BJ]at KS;rw[FC];have KS:j<k:=by lia
   have Zo:A2 H2 H7:=Zn.trans (S6.trans s7);have JY:=Zo _ _ An;have jI:=Zo _ _ Oq;have al:∀d∈ps,H7 d≠none:=λd hd=>by
    w_up;obtain⟨i,hi,rfl⟩:=PL hd;obtain⟨l,_,e⟩:=BG.get i (ra.mono s7) (by simp[hi]:ps[i]? =some ps[i]);fin2;rw[e];simp
   refine cut λU hU=>?_;lk;repeat (simp only[DX T jI,DY T jI,DW T jI];lk)
   refine⟨p,dx,_,rfl,JY,by kernel_rfl,?_⟩;refine⟨sh,o,k,i,j,sh.2.1,sh.2.2,(CV.mono Fb).mono Zo,by rw[IW],by rw[IW],rfl,rfl,λbx H8 s8 FU=>?_⟩;w_up;obtain⟨bb,db,rfl,FU⟩:=FU;fin2;subst hU;have qX:=Zo.trans s8;have F0:=qX _ _ An;refine cut λU hU=>?_;lk;repeat (simp only[E6 T F0,Dw T F0,E4 T F0,Dv T F0,Dx T F0,Dy T F0];lk)
   refine⟨bb,db,_,rfl,FU,by kernel_rfl,?_⟩;have Qo:k/2<=AQ k i+i:=NV (Az _);have Qp:k/2<=AQ k j+j:=NV (Az _);have Ez:AQ k i<=Aj k sh.2.1 sh.2.1 i:=NZ ..;have GF:AQ k j<=Aj k sh.2.2 sh.2.2 j:=NZ ..;refine⟨_,_,_,_,_,_,⟨bb,db,rfl,FU⟩,rfl,rfl,λqH H9 s9 Pk=>?_⟩;w_up;obtain⟨bv,dv,rfl,ag⟩:=Pk;fin2;have e1:((AQ k i:Nat):Int)+(0+(i:Int)-((k/2:Nat):Int))=((AQ k i+i-k/2:Nat):Int):=P1 Qo;have e2:((Aj k sh.2.1 sh.2.1 i:Nat):Int)+(0+(i:Int)-((k/2:Nat):Int))=((Aj k sh.2.1 sh.2.1 i+i-k/2:Nat):Int):=P1 (Ao Qo (RI (NZ ..) _));have e3:((AQ k j:Nat):Int)+(0+(j:Int)-((k/2:Nat):Int))=((AQ k j+j-k/2:Nat):Int):=P1 Qp;have e4:((Aj k sh.2.2 sh.2.2 j:Nat):Int)+(0+(j:Int)-((k/2:Nat):Int))=((Aj k sh.2.2 sh.2.2 j+j-k/2:Nat):Int):=P1 (Ao Qp (RI (NZ ..) _));rw[e1,e2,e3,e4]at ag;subst hU;have Zp:=qX.trans s9;refine cut λU hU=>?_;lk;have Xd:Small (1,sh.2.1,sh.2.2):=⟨by show 1<_;decide,sm.2.1,sm.2.2⟩;have h_:g.length=o*(sh.2.1*sh.2.2):=hg;have MC:x.length=sh.1*(sh.2.1*sh.2.2):=by rw[hx];exact B6 ..
   have yG:=WR (im fine) g (sh.2.1*sh.2.2) o h_;have yH:=WR (im fine) x (sh.2.1*sh.2.2) sh.1 MC;have hR4:sh.2.1<=4096:=Ao (Ep _ G.c0) Oe;have hC4:sh.2.2<=4096:=Ao (Hm _ G.r0) Oe;have akH:AQ k i<2^31:=FD (Kx ..) (FD (Nc ..) (FD k5 (by decide)));have ayg:Aj k sh.2.1 sh.2.1 i<2^31:=Nat.max_lt.2 ⟨akH,FD (NY ..) (by lia)⟩;have qd:∀d∈ps,H9 d≠none:=λd hd e=>al d hd ((s8.trans s9).free e);have NH:=Zp _ _ (s2 _ _ hz);have jJ:=Zp _ _ Oq;repeat (simp only[KQ T NH,MT T NH,KP T NH,JV T NH];lk)
   refine⟨pn,SG,_,rfl,jJ,by kernel_rfl,(1,sh.2.1,sh.2.2),⟨pn,SG,rfl,jJ⟩,Xd,?_⟩;refine⟨(A8 o).map λq=>(CQ g (sh.2.1*sh.2.2) q).map (im fine),1*(sh.2.1*sh.2.2),⟨c1,rfl,by rw[Zp _ _ (s2 _ _ l1),yG]⟩,rfl,by rw[BQ];exact Tg,by rw[BQ];lia,?_,by rw[yG,AV,h_];lia,λwlA vsA HA0 XX axB vC alX=>⟨⟨_,A4.of vC⟩,?_⟩⟩
   .intro l FV;w_up;obtain⟨q,hq,rfl⟩:=Ca.mp FV;fin2;rw[AV,IF h_ (BD.mp hq),BQ]
   w_up;obtain⟨zAA,acM,zCA⟩:=AX.X8 (λq=>(CQ g (sh.2.1*sh.2.2) q).map (im fine)) alX;fin2;refine j4 ps (λd hd e=>qd d hd (XX.free e)) (its:=vsA.zip (A8 o)) (λit=>(Jh sh k g it.2 i j).map (im fine)) (CJ.of_map HN (by rw[zAA];exact Lc (A4.of vC))) (λ_ _=>rfl) ?_ ?_ ?_
   .rw[<-AV (f:=Jw),acM,BJ];exact B_ (by lia)
   .intro it hi HD sD Q' hq;w_up;obtain⟨bi,e,W0⟩:=zCA it hi;fin2;rw[e];lk;refine⟨(CQ g (sh.2.1*sh.2.2) it.2).map (im fine),(1,sh.2.1,sh.2.2),AQ k i,Aj k sh.2.1 sh.2.1 i,AQ k j,Aj k sh.2.2 sh.2.2 j,⟨bi,rfl,sD _ _ W0⟩,⟨pn,SG,rfl,sD _ _ (XX _ _ jJ)⟩,⟨bb,db,rfl,sD _ _ (XX _ _ (s9 _ _ FU))⟩,Xd,by lia,by lia,?_,?_⟩
    .rw[O0,AV];exact Ao (Y6 _ _ _ _ _ _ _ OG OG) (by lia)
    .rw[O0];exact hq
   intro vq m8 HA sA1 axs ams al9 j7;have j7:AX (Aw HA ps) m8 ((A8 o).map λq=>(Jh sh k g q i j).map (im fine)):=by
    rw[<-acM,CA];exact j7
   have sA:=XX.trans sA1;subst hU;refine cut λU hU=>?_;lk;have fk:=Zp.trans sA;have afg:∀d∈ps,HA d≠none:=λd hd e=>qd d hd (sA.free e);have cg:=fk _ _ (s2 _ _ hz);have jK:=fk _ _ Oq;repeat (simp only[KQ T cg,MT T cg,KP T cg,JV T cg];lk)
   refine⟨pn,SG,_,rfl,jK,by kernel_rfl,(1,sh.2.1,sh.2.2),⟨pn,SG,rfl,jK⟩,Xd,?_⟩;refine⟨(A8 sh.1).map λq=>(CQ x (sh.2.1*sh.2.2) q).map (im fine),1*(sh.2.1*sh.2.2),⟨c2,rfl,by rw[fk _ _ (s2 _ _ l2),yH]⟩,rfl,by rw[BQ];exact Tg,by rw[BQ];lia,?_,by rw[yH,AV,MC];lia,λwlB vsB HC0 XY axP vD alY=>⟨⟨_,A4.of vD⟩,?_⟩⟩
   .intro l FV;w_up;obtain⟨q,hq,rfl⟩:=Ca.mp FV;fin2;rw[AV,IF MC (BD.mp hq),BQ]
   w_up;obtain⟨zAB,acN,zCB⟩:=AX.X8 (λq=>(CQ x (sh.2.1*sh.2.2) q).map (im fine)) alY;fin2;refine j4 ps (λd hd e=>afg d hd (XY.free e)) (its:=vsB.zip (A8 sh.1)) (λit=>(Mo sh k x it.2 i j).map (im fine)) (CJ.of_map HN (by rw[zAB];exact Lc (A4.of vD))) (λ_ _=>rfl) ?_ ?_ ?_
   .rw[<-AV (f:=Jw),acN,BJ];exact B_ (by lia)
   .intro it hi HD sD Q' hq;w_up;obtain⟨bi,e,W0⟩:=zCB it hi;fin2;rw[e];lk;refine⟨(CQ x (sh.2.1*sh.2.2) it.2).map (im fine),(1,sh.2.1,sh.2.2),(AQ k i+i-k/2),(Aj k sh.2.1 sh.2.1 i+i-k/2),(AQ k j+j-k/2),(Aj k sh.2.2 sh.2.2 j+j-k/2),⟨bi,rfl,sD _ _ W0⟩,⟨pn,SG,rfl,sD _ _ (XY _ _ jK)⟩,⟨bv,dv,rfl,sD _ _ (XY _ _ (sA _ _ ag))⟩,Xd,by lia,by lia,?_,?_⟩
    .rw[O0,AV];exact Ao (Y6 _ _ _ _ _ _ _ (acX Qo OG) (acX Qp OG)) (by lia)
    .rw[O0];exact hq
   intro vt m9 HC sB1 ay8 an_ alA j8;have j8:AX (Aw HC ps) m9 ((A8 sh.1).map λq=>(Mo sh k x q i j).map (im fine)):=by
    rw[<-acN,CA];exact j8
   have sB:=XY.trans sB1;subst hU;lk;have zH:A2 H7 HC:=(((s8.trans s9).trans sA).trans sB);have Pt:A2 (Aw H3 ps) (Aw HC ps):=Sq (S6.trans (s7.trans zH));have VN:A2 H2 (Aw HC ps):=Zn.trans Pt;have akk:Aw HC ps vq=some (.lst m8):=EJ (sB _ _ al9) ams;have VB:Aw HC ps vt=some (.lst m9):=EJ alA an_;have lA2:=j7.mono (F6 (ds:=ps) sB);refine⟨_,A6 (A4.of (E7 _ _ (Pt _ _ Rx))),by lia,by rw[AV,Ax];lia,?_⟩;rw[AV,Ax,show((o*sh.1:Nat):Int).toNat=o*sh.1 from rfl];refine MR (H0:=Aw HC ps) Ma (λpr σ H'=>D1 (A2 (Aw HC ps) H') ((∃o7 o8,σ=[some (.ref p),some p1,some p2,some (.ref z),some (.ref pn),some (.ref md),some (.int (0+(i:Int))),some (.int (0+(j:Int))),some (.ref bb),some (.ref bv),some (.ref vq),some (.ref vt),o7,o8,o9])) (∃BH,Ci H' ps (BH.map λl=>l.map (Ce fine))/\Iq (o*sh.1) (JS sh k g x) (λpl=>if pl<pr then i*k+j+1 else i*k+j) BH))
    ⟨E7,⟨o7,o8,rfl⟩,BH,(ra.mono s7).mono zH,by simpa using ri⟩ (λ_ _ _ h=>h.1) ?_ ?_
   .intro pr pr' σ HD HE Vb AG sE;w_up;obtain⟨SD,⟨o7,o8,rfl⟩,Pu,Ms,Ik⟩:=AG;obtain⟨Vc,rfl⟩:=Gu.mp Vb;fin2;rw[BJ]at Vc;rw[FC];have SE:=SD.trans sE;have Sz:=SE _ _ (VN _ _ An);have gz:=SE _ _ (VN _ _ Gp);have Sk:=SE _ _ (VN _ _ (s2 _ _ hz));have gQ:=SE _ _ (Pt _ _ Rx);w_up;obtain⟨acc,ha,MU⟩:=Ik.2 pr Vc;simp only[GR,if_false]at MU;obtain⟨pj,Oo,jG⟩:=Ci.get Ms (j:=pr) (l:=acc.map (Ce fine)) (by rw[D0,ha];rfl);have Va:=sE _ _ jG;have W5:pr/sh.1<o:=(NX G.p0).mpr Vc;have hd2:pr %sh.1<sh.1:=D5 _ G.p0;obtain⟨va,hva,lva⟩:=AX.get' m8 _ (pr/sh.1) ((Jh sh k g (pr/sh.1) i j).map (im fine)) lA2 (by rw[D0,UD W5];rfl);obtain⟨vb,c_,lvb⟩:=AX.get' m9 _ (pr %sh.1) ((Mo sh k x (pr %sh.1) i j).map (im fine)) j8 (by rw[D0,UD hd2];rfl);fin2;have SS:acc.length=i*k+j:=by have:=C3 MU;rwa[BJ]at this
    have LP:i*k+j<k*k:=by
     calc i*k+j<i*k+k:=by lia
      _=(i+1)*k:=by rw[BE,BQ]
      _<=_:=Bj _ LO
    have WG:k*k<=25:=GQ k5 k5;have akM:(i*k+j)/k=i:=by rw[BV,Gz (by lia),Ff KS,JE]
    have akO:(i*k+j) %k=j:=by rw[BV,Kn,Fh KS]
    lk;repeat (simp only[E6 T Sz,Dw T Sz,E4 T Sz,Dv T Sz,Dx T Sz,Dy T Sz,DX T gz,DY T gz,DW T gz,KQ T Sk,MT T Sk,KP T Sk,JV T Sk];lk)
    have ej:(0:Int)+(pr:Int)=((pr:Nat):Int):=IW _;rw[ej,show((pr:Nat):Int)/((sh.1:Nat):Int)=((pr/sh.1:Nat):Int)from(IT ..).symm,show((pr:Nat):Int) %((sh.1:Nat):Int)=((pr %sh.1:Nat):Int)from(aeW ..).symm];have c0p:=G.p0;refine⟨⟨by lia,G7 (by lia)⟩,_,va,A4.of (SE _ _ akk),by rw[Cj];exact hva,_,.ref pj,A4.of gQ,by rw[Cj,D0,Oo];rfl,A6 ⟨rfl,_,A4.of Va⟩,z,dz,_,rfl,Sk,by kernel_rfl,_,Ce fine 0,A4.of (SE _ _ (VN _ _ (s2 _ _ l0))),rfl,by lia,_,vb,A4.of (SE _ _ VB),by rw[Cj];exact c_,?_⟩;have ayu:(Jh sh k g (pr/sh.1) i j).length<=4096:=Ao (Y6 _ _ _ _ _ _ _ OG OG) Oe;have sk:∀y∈Jh sh k g (pr/sh.1) i j,y∈g:=λy hy=>Hn (GO (MP hy));have so:∀y∈Mo sh k x (pr %sh.1) i j,y∈x:=λy hy=>Hn (GO (MP hy));refine⟨z,dz,_,_,_,fine,0,Jh sh k g (pr/sh.1) i j,Mo sh k x (pr %sh.1) i j,rfl,Sk,rfl,lva.mono SE,lvb.mono SE,HY,λy hy=>fg y (sk y hy),λy hy=>fx y (so y hy),ok.b7 (C5.mpr rfl) sk so (by rw[Br];lia),?_⟩;have Pn:JS sh k g x pr (i*k+j)=Bf 0 ((Jh sh k g (pr/sh.1) i j).zip (Mo sh k x (pr %sh.1) i j)):=by unfold JS;rw[akM,akO]
    cases ec:Bf 0 ((Jh sh k g (pr/sh.1) i j).zip (Mo sh k x (pr %sh.1) i j))with
    |none=>
     have:SF sh o k g x=none:=mapM_none _ _ pr (BD.mpr Vc) (mapM_none _ _ (i*k+j) (BD.mpr LP) (by rw[Pn,ec]));rw[this]at q;exact λH' s'=>q H' (Fb.trans (VN.trans (SE.trans s')))
    |some zz=>
     intro fz Me HF sF;have jH:=sF _ _ Va;have jps:pj∈ps:=DS Oo;refine⟨_,jH,J8 (by rw[AV];lia),?_,⟨_,_,rfl⟩,Pu.set pr (acc++[zz]),?_,Ik.put Vc ha MU (by rw[Pn,ec])⟩
     .refine(Sq (SE.trans sF)).trans ?_;rw[<-GH (o:=.lst (acc.map (Ce fine)++[Ce fine zz])) jps];exact E7
     .have:=Ci.put (acc.map (Ce fine)++[Ce fine zz]) ((Ms.mono sE).mono sF) gX Oo;rw[ZU,E9];exact this
   .intro σ HD AG;w_up;obtain⟨SD,⟨o7,o8,rfl⟩,Pu,Ms,Ik⟩:=AG;fin2;refine⟨Pt.trans SD,⟨_,_,_,_,_,_,_,_,rfl⟩,Pu,Ms,⟨Ik.1,λpl T3=>?_⟩⟩;w_up;obtain⟨acc,h1,h2⟩:=Ik.2 pl T3;fin2;simp only[BJ,T3,if_true]at h2;exact⟨acc,h1,h2⟩
  .intro σ H6 AG;w_up;obtain⟨S6,⟨o2,o3,o4,o5,o6,o7,o8,o9,rfl⟩,BH,ra,ri⟩:=AG;fin2;refine⟨S6,⟨_,_,_,_,_,_,_,_,_,rfl⟩,BH,ra,?_⟩;rw[BE,BQ];rw[BJ]at ri;exact ri
 .intro σ H4 AG;w_up;obtain⟨S4,⟨o1,o2,o3,o4,o5,o6,o7,o8,o9,rfl⟩,BH,ra,ri⟩:=AG;fin2;lk;rw[BJ]at ri;have ri:Iq (o*sh.1) (JS sh k g x) (λ_=>k*k) BH:=ri;have B9:SF sh o k g x=some BH:=ri.all;rw[B9]at q;have LM:=O6 ri.bz;rw[ri.1]at LM;have LL:o*sh.1*(k*k)<=65536:=by rw[B6];exact Ja
  have fj:=Zn.trans S4;have vH:=fj _ _ (s2 _ _ hz);have AZ:∀y∈BH.flatten,AI y/\(fine=true->y≠2^31):=by
   intro y hy;w_up;obtain⟨pl,qq,h1,h2,h3⟩:=ri.mem hy;fin2;refine qc (ok.b7 (xs:=Jh sh k g (pl/sh.1) (qq/k) (qq %k)) (C5.mpr rfl) (λy hy=>Hn (GO (MP hy))) (λy hy=>Hn (GO (MP hy))) ?_) HY h3;have:(Jh sh k g (pl/sh.1) (qq/k) (qq %k)).length<=4096:=Ao (Y6 _ _ _ _ _ _ _ OG OG) Oe;rw[Br];lia
  refine⟨z,dz,_,rfl,vH,by kernel_rfl,?_⟩;refine⟨_,_,⟨md,rfl,S4 _ _ Rx⟩,ra.ls,by rw[<-UH,AV,LM];lia,λe H5 s5 n5 he=>?_⟩;rw[<-UH]at he;have q:DB H Q (Nv BH.flatten):=q;have sT:=Fb.trans (fj.trans s5);refine⟨z,dz,_,_,_,fine,BH.flatten,rfl,s5 _ _ vH,⟨e,rfl,he⟩,by rw[LM];lia,AZ,λef=>?_,λ_=>q.mono sT⟩;subst ef;exact q e H5 sT ((Fb.trans fj).free n5) he
def ah1(v k:Nat):(Ar k [V.int (v:Int)]).flatten=Nv (Ar k v):=by
 induction k with
 |zero=>rfl
 |succ k ih=>rw[Ln,Ln,GP,ih];rfl
def WN(s:Cu)(o k:Nat)(x g:List Nat):Option (List Nat):=(SF s o k g x).bind λgw=>(KY (Ar o 0) g (Ar (s.2.1*s.2.2) ED)).map λgb=>gw.flatten++gb
def at0(a:Ad):Sp:=D9 λv1 v2 v3 H Q E=>Es λs o k x g=>Cn (QC a H v1 s o k) (GoodC s o k) (AL H v2 (Nv x)) (x.length=AK s) (AL H v3 (Nv g)) (g.length=o*(s.2.1*s.2.2)) ((∀y∈x,AI y)) (((∀y∈g,AI y))/\EF a (WN s o k x g) H Q E)
def aiX:AI ED:=by unfold AI HK ED;decide
def anG(T:Txt K mg a):A_ P w K mg base 7 a.eI ["self","numbers","g"] (at0 a):=by
 refine T.ahq.Dc aql λAF A outer s H p0 p1 p2 Q E hr h nd=>?_;obtain⟨sh,o,k,x,g,CV,G,h2,hx,h3,hg,fx,fg,q⟩:=h;obtain⟨p,dx,gv,mv,u,cv,rfl,hp,⟨bg,dg,rfl,W9⟩,⟨bm,dm,rfl,Qr⟩,hu⟩:=id CV;obtain⟨sm,o4,Oe⟩:=G.small;obtain⟨Xe,_,_⟩:=(tS G).small;refine⟨_,(A7 (AW (i:=3) nd rfl (A6 rfl) (AM TV (Bn (A1 (Au T.ONE) A3)) (Cf (kX T) T.FQ T.iV hr AD (AH (pv 0) rfl)))) (AE (Aa (AM OX (Bb (anZ T) T.Ew T.amx hr AD (pv 0) (A1 (pv 1) (A1 (pv 2) A3))) (Ag (k_ T) T.iA hr AD (A1 (AM TV (Bn (A1 (Au T.KD) A3)) (AH (AH (pv 0) rfl) rfl)) (A1 (pv 2) (A1 (pv 3) A3)))))))).Ak,?_⟩;have WI:=G.hm;have Ja:=G.hw;refine cut λU hU=>?_;lk;refine⟨by decide,λc nc=>?_⟩;have s0:=A2.one (o:=.lst [V.int 1065353216]) nc;have OJ:=s0 _ _ hp;repeat (simp only[E6 T OJ,Dw T OJ,E4 T OJ,Dv T OJ,Dx T OJ,Dy T OJ];lk)
 refine⟨bm,dm,_,rfl,s0 _ _ Qr,by kernel_rfl,(o,sh.2.1,sh.2.2),⟨bm,dm,rfl,s0 _ _ Qr⟩,Xe,?_⟩;lk;refine⟨_,AB,by lia,by lia,B_ (by show 1*((sh.2.1*sh.2.2:Nat):Int).toNat<=_;rw[show((sh.2.1*sh.2.2:Nat):Int).toNat=sh.2.1*sh.2.2 from rfl];lia),λd BX=>?_⟩;rw[show((sh.2.1*sh.2.2:Nat):Int).toNat=sh.2.1*sh.2.2 from rfl,show(Ar (sh.2.1*sh.2.2) [V.int 1065353216]).flatten=Nv (Ar (sh.2.1*sh.2.2) ED)from ah1 ED _];have s1:=s0.new (o:=.lst (Nv (Ar (sh.2.1*sh.2.2) ED))) BX;generalize akn:upd (upd H c (.lst [V.int 1065353216])) d (.lst (Nv (Ar (sh.2.1*sh.2.2) ED)))=H1 at*;have W5:H1 d=some (.lst (Nv (Ar (sh.2.1*sh.2.2) ED))):=by rw[<-akn,AB]
 subst hU;lk;refine⟨p,dx,_,rfl,s1 _ _ hp,by kernel_rfl,?_⟩;refine⟨sh,o,k,x,g,CV.mono s1,G,h2.mono s1,hx,h3.mono s1,hg,fx,fg,?_⟩;cases ew:SF sh o k g x with
 |none=>
  unfold WN at q;rw[ew]at q;exact λH' s'=>q H' (s1.trans s')
 |some gw=>
  have qb:EF a ((KY (Ar o 0) g (Ar (sh.2.1*sh.2.2) ED)).map λgb=>gw.flatten++gb) H Q E:=by
   unfold WN at q;rw[ew]at q;exact q
  intro e H2 s2 n2 he;have Fb:=s1.trans s2;lk;refine⟨by decide,λf nf=>?_⟩;have s3:=A2.one (o:=.lst [V.int 0]) nf;have Mw:=Fb.trans s3;have Av:=Mw _ _ hp;have gP:=Mw _ _ Qr;repeat (simp only[E6 T Av,Dw T Av,E4 T Av,Dv T Av,Dx T Av,Dy T Av,DX T gP,DY T gP,DW T gP];lk)
  refine⟨_,AB,by lia,by lia,B_ (by show 1*((o:Nat):Int).toNat<=_;rw[show((o:Nat):Int).toNat=o from rfl];lia),λh nh=>?_⟩;rw[show((o:Nat):Int).toNat=o from rfl,Ul];have s4:=s3.new (o:=.lst (Nv (Ar o 0))) nh;generalize ako:upd (upd H2 f (.lst [V.int 0])) h (.lst (Nv (Ar o 0)))=H4 at*;have WD:H4 h=some (.lst (Nv (Ar o 0))):=by rw[<-ako,AB]
  have Of:=Fb.trans s4;have h9:gw.flatten.length<=65536:=by
   have h1:=C3 ew;rw[BJ]at h1;have h2:∀l∈gw,l.length=k*k:=λl hl=>by
    obtain⟨pr,_,hp⟩:=NS ew hl;have:=C3 hp;rwa[BJ]at this
   rw[O6 h2,h1,B6];exact Ja
  refine⟨Ar o 0,g,Ar (sh.2.1*sh.2.2) ED,⟨h,rfl,WD⟩,h3.mono Of,⟨d,rfl,s4 _ _ (s2 _ _ W5)⟩,by rw[GN];lia,by lia,by rw[GN];lia,Q0,fg,λy hy=>by rw[(aeG.mp hy).2];exact aiX,?_⟩;cases er:KY (Ar o 0) g (Ar (sh.2.1*sh.2.2) ED)with
  |none=>
   rw[er]at qb;exact λH' s'=>qb H' (Of.trans s')
  |some gb=>
   rw[er]at qb;intro i H5 s5 n5 hi5;have qb:DB H Q (Nv (gw.flatten++gb)):=qb;have MZ:gb.length=o:=by
    have:=C3 er;rwa[JB,GN]at this
   have Wf:=Of.trans s5;lk;refine⟨_,_,s5 _ _ (s4 _ _ he),hi5,B_ (by rw[AV,AV,MZ];lia),λj nj=>qb j _ (Wf.trans (A2.one nj)) (Wf.free nj) (by rw[AB,VI])⟩
def flatMap_nil(l:List α):(l.flatMap λ_=>([]:List β))=[]:=P5.mpr λ_ _=>rfl
def ahC(h:b-t=0\/r-l=0):Ex xs s t b l r=[]:=by
 unfold Ex;rcases h with h|h
 .rw[h];exact flatMap_nil _
 .rw[h];simp only[oI];refine P5.mpr λ_ _=>flatMap_nil _
def av3{α:Type}(F:Nat->Nat->Nat->Nat->α):
 ((A8 R).flatMap λy=>(A8 C).filterMap λc=>(CL R k y i).bind λyy=>(CL C k c j).map λcc=>F y c yy cc)=
  (A8 (Aj k R R i-AQ k i)).flatMap λy=>(A8 (Aj k C C j-AQ k j)).map λc=>F (AQ k i+y) (AQ k j+c) (i+(AQ k i+y)-k/2) (j+(AQ k j+c)-k/2):=by
 have sw:((A8 R).flatMap λy=>(A8 C).filterMap λc=>(CL R k y i).bind λyy=>(CL C k c j).map λcc=>F y c yy cc)=((A8 R).flatMap λy=>(A8 C).filterMap λc=>(CL R k i y).bind λyy=>(CL C k j c).map λcc=>F y c yy cc):=by
  refine Gi λy _=>?_;congr 1;funext c;rw[vz R k y i,vz C k c j]
 rw[sw];by_cases h1:k/2<=R+i
 .by_cases h2:k/2<=C+j
  .exact acT h1 h2 F
  .rw[show Aj k C C j-AQ k j=0 from YH (Rg.2 ⟨Az _,Ao (NY ..) (YL (Ht (UR.1 h2)))⟩)];rw[show(λy=>(A8 0).map λc=>F (AQ k i+y) (AQ k j+c) (i+(AQ k i+y)-k/2) (j+(AQ k j+c)-k/2))=λ_=>([]:List α)from rfl,flatMap_nil];refine P5.mpr λy _=>?_;rw[adN];intro c hc;have hc:=BD.mp hc;have:CL C k j c=none:=by unfold CL;rw[if_neg (by lia)]
   rw[this];cases CL R k i y<;>rfl
 .rw[show Aj k R R i-AQ k i=0 from YH (Rg.2 ⟨Az _,Ao (NY ..) (YL (Ht (UR.1 h1)))⟩)];refine P5.mpr λy hy=>?_;have hy:=BD.mp hy;rw[adN];intro c _;have:CL R k i y=none:=by unfold CL;rw[if_neg (by lia)]
  rw[this];rfl
def u_:CM (1,R,C) 0 y c=y*C+c:=by
 show(0*R+y)*C+c=_;rw[Du,EM]
def ah2(hk:0<k)(hx:x.length=AK s)(hg:g.length=o*(s.2.1*s.2.2))(h1:kk<o)(h2:p<s.1)(h3:i<k)(h4:j<k):
 JS s k g x (kk*s.1+p) (i*k+j)=Bf 0 (((A8 s.2.1).flatMap λy=>(A8 s.2.2).map λc=>(y,c)).filterMap λq=>(CL s.2.1 k q.1 i).bind λy=>(CL s.2.2 k q.2 j).map λc=>(Ab g (CM (o,s.2.1,s.2.2) kk q.1 q.2),Ab x (CM s p y c))):=by
 have DZ:x.length=s.1*(s.2.1*s.2.2):=by rw[hx];exact B6 ..
 have d1:(kk*s.1+p)/s.1=kk:=by rw[BV,Gz (by lia),Ff h2,JE]
 have d2:(kk*s.1+p) %s.1=p:=by rw[BV,Kn,Fh h2]
 have d3:(i*k+j)/k=i:=by rw[BV,Gz hk,Ff h4,JE]
 have d4:(i*k+j) %k=j:=by rw[BV,Kn,Fh h4]
 unfold JS;rw[d1,d2,d3,d4];congr 1;have e:(((A8 s.2.1).flatMap λy=>(A8 s.2.2).map λc=>(y,c)).filterMap λq=>(CL s.2.1 k q.1 i).bind λy=>(CL s.2.2 k q.2 j).map λc=>(Ab g (CM (o,s.2.1,s.2.2) kk q.1 q.2),Ab x (CM s p y c)))=(A8 s.2.1).flatMap λy=>(A8 s.2.2).filterMap λc=>(CL s.2.1 k y i).bind λyy=>(CL s.2.2 k c j).map λcc=>(Ab g (CM (o,s.2.1,s.2.2) kk y c),Ab x (CM s p yy cc)):=by
  rw[List.filterMap_flatMap];refine Gi λy _=>?_;rw[aeE];rfl
 rw[e,av3 λy c yy cc=>(Ab g (CM (o,s.2.1,s.2.2) kk y c),Ab x (CM s p yy cc))];unfold Jh Mo;by_cases Bx:AQ k i<Aj k s.2.1 s.2.1 i/\AQ k j<Aj k s.2.2 s.2.2 j
 .have a1:k/2<=AQ k i+i:=NV (Az _);have a2:k/2<=AQ k j+j:=NV (Az _);have b1:Aj k s.2.1 s.2.1 i<=s.2.1/\Aj k s.2.1 s.2.1 i+i-k/2<=s.2.1:=⟨(aw Bx.1).1,acU Bx.1 (aw Bx.1).2⟩;have b2:Aj k s.2.2 s.2.2 j<=s.2.2/\Aj k s.2.2 s.2.2 j+j-k/2<=s.2.2:=⟨(aw Bx.2).1,acU Bx.2 (aw Bx.2).2⟩;rw[rh (s:=(1,s.2.1,s.2.2)) (s':=(1,s.2.1,s.2.2)) rfl (by rw[IF hg h1];show _=1*s.2.1*s.2.2;rw[BQ]) (by rw[IF DZ h2];show _=1*s.2.1*s.2.2;rw[BQ]) b1.1 b2.1 b1.2 b2.2 (XG a1 (Ht Bx.1)) (XG a2 (Ht Bx.2))];rw[show(A8 (1,s.2.1,s.2.2).1)=[0]from rfl,nF];refine Gi λy hy=>Lm λc hc=>?_;have hy:=BD.mp hy;have hc:=BD.mp hc;have sp:∀y' c',y'<s.2.1->c'<s.2.2->y'*s.2.2+c'<s.2.1*s.2.2:=λy' c' u v=>by
   calc y'*s.2.2+c'<y'*s.2.2+s.2.2:=by lia
    _=(y'+1)*s.2.2:=by rw[BE,BQ]
    _<=_:=Bj _ u
  rw[u_,u_,WQ hg h1 (sp _ _ (XI b1.1 hy) (XI b2.1 hc)),WQ DZ h2 (sp _ _ (acV a1 Bx.1 b1.2 hy) (acV a2 Bx.2 b2.2 hc)),R7,show CM s p (i+(AQ k i+y)-k/2) (j+(AQ k j+c)-k/2)=p*(s.2.1*s.2.2)+((i+(AQ k i+y)-k/2)*s.2.2+(j+(AQ k j+c)-k/2))from R7 (o:=s.1),XH a1,XH a2]
 .have hh:Aj k s.2.1 s.2.1 i-AQ k i=0\/Aj k s.2.2 s.2.2 j-AQ k j=0:=by
   by_cases h:AQ k i<Aj k s.2.1 s.2.1 i
   .exact .inr (YH (Nj.1 λc=>Bx ⟨h,c⟩))
   .exact .inl (YH (Nj.1 h))
  rw[ahC hh,List.zip_nil_left];rcases hh with h|h
  .rw[h];rfl
  .rw[h];exact(flatMap_nil _).symm
def aou(a b:Nat):A8 (a*b)=(A8 a).flatMap λp=>(A8 b).map λy=>p*b+y:=by
 have h:=fC (λi=>[i]) b a;rw[<-iY (λi=>i),af9]at h;rw[h];refine Gi λp _=>?_;rw[iY]
def vg{β:Type}(f:Nat->Option β)(a b:Nat):(A8 (a*b)).mapM f=((A8 a).mapM λx=>(A8 b).mapM λy=>f (x*b+y)).map Lx:=by
 rw[aou,iW];congr 1;refine mapM_congr λp _=>?_;rw[OQ]
def aib(gw:List (List (List (List Nat)))):((gw.map (M4 Lx)).flatten).flatten=(gw.map λa=>(a.map λb=>b.flatten).flatten).flatten:=by
 induction gw with
 |nil=>rfl
 |cons x gw ih=>rw[BW,GP,nU,ih,BW,GP]
def anx(G:GoodC s o k)(hx:x.length=AK s)(hg:g.length=o*(s.2.1*s.2.2)):F8 s (.conv o k) x g=WN s o k x g:=by
 have hk:0<k:=by rcases G.hk with h|h|h<;>lia
 unfold F8 WN SF;simp only;rw[vg _ o s.1];have e1:(λkk=>(A8 s.1).mapM λp=>(A8 (k*k)).mapM λq=>JS s k g x (kk*s.1+p) q)=λkk=>((A8 s.1).mapM λp=>(A8 k).mapM λi=>(A8 k).mapM λj=>JS s k g x (kk*s.1+p) (i*k+j)).map (M4 Lx):=by
  funext kk;rw[<-cD];refine mapM_congr λp _=>?_;rw[vg _ k k]
 rw[e1,cD];have e2:((A8 o).mapM λkk=>(A8 s.1).mapM λp=>(A8 k).mapM λi=>(A8 k).mapM λj=>JS s k g x (kk*s.1+p) (i*k+j))=(A8 o).mapM λkk=>(A8 s.1).mapM λp=>(A8 k).mapM λi=>(A8 k).mapM λj=>Bf 0 (((A8 s.2.1).flatMap λy=>(A8 s.2.2).map λc=>(y,c)).filterMap λq=>(CL s.2.1 k q.1 i).bind λy=>(CL s.2.2 k q.2 j).map λc=>(Ab g (CM (o,s.2.1,s.2.2) kk q.1 q.2),Ab x (CM s p y c))):=
  mapM_congr λkk h1=>mapM_congr λp h2=>mapM_congr λi h3=>mapM_congr λj h4=>ah2 hk hx hg (BD.mp h1) (BD.mp h2) (BD.mp h3) (BD.mp h4)
 rw[e2];have e3:KY (Ar o 0) g (Ar (s.2.1*s.2.2) ED)=(A8 o).mapM λkk=>Bf 0 (((A8 s.2.1).flatMap λy=>(A8 s.2.2).map λc=>(y,c)).map λq=>(Ab g (CM (o,s.2.1,s.2.2) kk q.1 q.2),ED)):=by
  unfold KY;rw[mD,show(Ar o 0).length=o from GN];refine mapM_congr λkk WG=>?_;have WG:=BD.mp WG;have hl:kk*(s.2.1*s.2.2)+s.2.1*s.2.2<=g.length:=by
   rw[hg]
   calc _=(kk+1)*(s.2.1*s.2.2):=by rw[BE,BQ]
    _<=_:=Bj _ WG
  show Bf (Ab (Ar o 0) kk) _=_;rw[Dh (by simpa using WG),ml,GN,sO hl,Wb (λy c=>(y,c)),CA];congr 1;refine FE (by simp) λi h1 h2=>?_;have hi:i<s.2.1*s.2.2:=by simpa using h2
  simp only[Z4,Jm,FC,ml,af0];rw[R7,show i/s.2.2*s.2.2+i %s.2.2=i from by rw[BV];exact Gx i s.2.2]
 rw[e3];cases((A8 o).mapM λkk=>(A8 s.1).mapM λp=>(A8 k).mapM λi=>(A8 k).mapM λj=>Bf 0 (((A8 s.2.1).flatMap λy=>(A8 s.2.2).map λc=>(y,c)).filterMap λq=>(CL s.2.1 k q.1 i).bind λy=>(CL s.2.2 k q.2 j).map λc=>(Ab g (CM (o,s.2.1,s.2.2) kk q.1 q.2),Ab x (CM s p y c))))with
 |none=>rfl
 |some gw=>
  show U_ _ _=U_ _ _;congr 1;funext gb;rw[<-aib]
def C2.SI(T:Txt K mg a)(h:C2 a H v s l)(ht:Bv s l=some t):∃p C dx fs g m,v=.ref p/\H p=some (.ins C dx fs)/\S5 K C/\fs.lookup ("given":Str)=some g/\fs.lookup ("made":Str)=some m/\fs.lookup ("own_count":Str)=some (.int ((Bk s l:Nat):Int))/\BB a H g s/\BB a H m t:=by
 cases l with
 |dense o=>
  w_up;obtain⟨p,dx,g,m,rfl,h1,h2,h3⟩:=h;fin2;cases ht;exact⟨p,a.FN,dx,_,g,m,rfl,h1,wC T,V2 ..,V3 ..,V4 ..,h2,h3⟩
 |relu=>
  w_up;obtain⟨p,dx,g,rfl,h1,h2⟩:=h;fin2;cases ht;exact⟨p,a.G6,dx,_,g,g,rfl,h1,wF T,V2 ..,V3 ..,V4 ..,h2,h2⟩
 |pool=>
  w_up;obtain⟨p,dx,g,m,rfl,h1,h2,h3⟩:=h;fin2;rw[Bv]at ht;split at ht
  .cases ht;exact⟨p,a.Ed,dx,_,g,m,rfl,h1,wD T,V2 ..,V3 ..,V4 ..,h2,h3⟩
  .cases ht
 |conv o k=>
  w_up;obtain⟨p,dx,g,m,u,rfl,h1,h2,h3,h4⟩:=h;fin2;rw[Bv]at ht;split at ht
  .cases ht;exact⟨p,a.Conv,dx,_,g,m,rfl,h1,wB T,rL ..,rM ..,rN ..,h2,h3⟩
  .cases ht
def lH(a:Ad):Sp:=CS λv H Q _=>Eb λs l t=>Fm (C2 a H v s l) (Bv s l=some t) (Bk s l<=2^20) (DB H Q (Nv (Ar (Bk s l) 0)))
def QW(T:Txt K mg a):A_ P w K mg base 1 a.zeros ["layer"] (lH a):=by
 refine T.aiU.Cy ate λAF A outer s H p0 Q E hr h nd=>?_;obtain⟨s0,l,t,L,ht,hw,q⟩:=h;obtain⟨p,C,dx,fs,g,m,rfl,hp,LC,f1,f2,f3,sg,JH⟩:=L.SI T ht;refine⟨_,(AE (Aa (AM TV (Bn (A1 (Au T.KD) A3)) (AH (pv 0) rfl)))).Ak,?_⟩;lk;refine⟨by decide,λc nc=>?_⟩;rw[Bq (A2.one nc _ _ hp) LC.c LC.o f3];lk;refine⟨_,AB,by lia,by lia,B_ (by show 1*((Bk s0 l:Nat):Int).toNat<=_;rw[show((Bk s0 l:Nat):Int).toNat=Bk s0 l from rfl];lia),λd BX=>?_⟩;rw[show((Bk s0 l:Nat):Int).toNat=Bk s0 l from rfl,Ul];exact q d _ ((A2.one nc).new BX) ((A2.one (o:=.lst [V.int 0]) nc).free BX) AB
def Bw(H:Hp)(p:A0)(rows:List (List Nat)):Prop:=∃vs,H p=some (.lst vs)/\AX H vs (rows.map Nv)
def Bw.mono(h:Bw H p rows)(s:A2 H H'):Bw H' p rows:=let⟨vs,h1,h2⟩:=h;⟨vs,s _ _ h1,h2.mono s⟩
def EO(a:Ad)(H:Hp)(p:A0)(zs:List (BA×Cb)):Prop:=∃vs,H p=some (.lst vs)/\BG (λz v=>C2 a H v z.1 z.2) zs vs
def EO.mono(h:EO a H p zs)(s:A2 H H'):EO a H' p zs:=let⟨vs,h1,h2⟩:=h;⟨vs,s _ _ h1,BG.mono (λ_ _ e=>e.mono s) h2⟩
inductive FL:BA->List (BA×Cb)->BA->Prop
 |nil (s:BA):FL s [] s
 |cons {s t u:BA} {l:Cb} {r:List (BA×Cb)}:Good s l->Bv s l=some t->FL t r u->FL s ((s,l)::r) u
def FL.good(h:FL s zs u):∀z∈zs,Good z.1 z.2:=by
 induction h with
 |nil=>intro z hz;simp at hz
 |cons g _ _ ih=>
  intro z hz;rcases B2.mp hz with rfl|hz
  .exact g
  .exact ih z hz
structure Fits(zs:List (BA×Cb))(rows:List (List Nat)):Prop where
 len:BG (λz r=>r.length=Bk z.1 z.2) zs rows
 fin:∀r∈rows,∀y∈r,AI y
structure Fo(n:CI):Prop where
 chain:FL n.plan.first n.plan.layers n.plan.last
 first:0<AK n.plan.first/\AK n.plan.first<=4096
 EZ:n.plan.layers.length<=8
 w:Fits n.plan.layers n.w
 v:Fits n.plan.layers n.v
 m:Fits n.plan.layers n.m
 s:Fits n.plan.layers n.s
structure FO(a:Ad)(H:Hp)(n:CI)(p dx:A0)(g:V)(l o v m s:A0):Prop where
 at_:H p=some (.ins a.Net dx (Cw g (.ref l) (.ref o) (.ref v) (.ref m) (.ref s)))
 gv:BB a H g n.plan.first
 ly:EO a H l n.plan.layers
 ow:Bw H o n.w
 vv:Bw H v n.v
 mm:Bw H m n.m
 ss:Bw H s n.s
 nd:[l,o,v,m,s].Nodup
def Dl(a:Ad)(H:Hp)(x:V)(n:CI):Prop:=∃p dx g l o v m s,x=.ref p/\FO a H n p dx g l o v m s
def Dl.mono(h:Dl a H x n)(e:A2 H H'):Dl a H' x n:=by
 obtain⟨p,dx,g,l,o,v,m,s,rfl,N⟩:=h;exact⟨p,dx,g,l,o,v,m,s,rfl,e _ _ N.at_,N.gv.mono e,N.ly.mono e,N.ow.mono e,N.vv.mono e,N.mm.mono e,N.ss.mono e,N.nd⟩
def FL.last(h:FL s zs u):(zs=[]/\u=s)\/∃z,zs[zs.length-1]? =some z/\Bv z.1 z.2=some u:=by
 induction h with
 |nil=>exact A6 ⟨rfl,rfl⟩
 | @cons s t u l r g ha hc ih=>
  right;rcases ih with⟨rfl,rfl⟩|⟨z,h1,h2⟩
  .exact⟨(s,l),rfl,ha⟩
  .refine⟨z,?_,h2⟩;cases r with
   |nil=>simp at h1
   |cons y r=>simpa using h1
def asc(a:Ad):Sp:=CS λv H Q _=>∃n,D1 (Dl a H v n) (Fo n) (∀u,BB a H u n.plan.last->Q u H)
def yT(T:Txt K mg a):A_ P w K mg base 1 a.dO ["self"] (asc a):=by
 refine T.aiB.Cy asQ λAF A outer s H p0 Q E hr h nd=>?_;obtain⟨n,⟨p,dx,g,l,o,v,m,ss,rfl,N⟩,O,q⟩:=h;have hp:=N.at_;obtain⟨vs,hl,al⟩:=N.ly;refine⟨_,(A7 (BR (Bc Fs (CG EH (by rfl) T.E0 Dt (A1 (AH (pv 0) rfl) A3)) Am (BU _)) (AE (Aa (AH (pv 0) rfl))) BO) (AE (Aa (AH (BL BM (AH (pv 0) rfl) (Hf Hj Am) (λ_ _=>rfl)) rfl)))).Ak,?_⟩;have hlen:=al.length;lk;repeat (simp only[Ea T hp,Ee T hp,Eh T hp,Ej T hp,Eg T hp,Ei T hp];lk)
 refine⟨_,A6 (A4.of hl),?_⟩;rcases O.chain.last with⟨e,eu⟩|⟨z,hz,ha⟩
 .rw[e]at hlen;rw[if_pos (by rw[<-hlen];rfl)];exact q g (by rw[eu];exact N.gv)
 .have Bx:0<n.plan.layers.length:=by
   rcases Nat.eq_zero_or_pos n.plan.layers.length with h|h
   .rw[U7 (by lia)]at hz;cases hz
   .exact h
  rw[if_neg (by lia)];w_up;obtain⟨y,hy,ly⟩:=al.get' _ hz;obtain⟨py,C,dy,fs,gy,my,rfl,DF,LC,f1,f2,f3,sg,JH⟩:=ly.SI T ha;fin2;refine⟨_,.ref py,A4.of hl,?_,?_⟩
  .unfold FP Gr;rw[if_neg (by decide),if_pos (by lia),show(-1+(vs.length:Int)).toNat=vs.length-1 by rw[Int.add_comm];exact o_ vs.length 1];rw[<-hlen];exact hy
  .rw[Bq DF LC.c LC.m f2];exact q my JH
def atA(a:Ad):Sp:=D9 λv1 v2 v3 H Q _=>Eb λ(n:CI)(k many:Int)=>Im (Dl a H v1 n) (Fo n) (v2=.int k) (v3=.int many) (Q (.bl (Ng n k many).isSome) H)
def yU(T:Txt K mg a):A_ P w K mg base 1 a.dP ["self","layer","count"] (atA a):=by
 refine T.aiC.Dc asR λAF A outer s H p0 p1 p2 Q E hr h nd=>?_;obtain⟨n,k,many,⟨p,dx,g,l,o,v,m,ss,rfl,N⟩,O,rfl,rfl,q⟩:=h;have hp:=N.at_;obtain⟨vs,hl,al⟩:=N.ly;refine⟨_,(A7 (BR (Mr (Bc OY (pv 1) Am (BU _)) (Od (Bc Y0 (pv 1) (CG EH (by rfl) T.E0 Dt (A1 (AH (pv 0) rfl) A3)) (BU _)))).pt (AE (Aa apO)) BO) (AE (Aa (QZ Fs (AH (BL BM (AH (pv 0) rfl) (pv 1) (λ_ _=>rfl)) rfl) (pv 2) (BU _))))).Ak,?_⟩;have hlen:=al.length;lk;repeat (simp only[Ea T hp,Ee T hp,Eh T hp,Ej T hp,Eg T hp,Ei T hp];lk)
 unfold Ng at q;split
 .rename_i c;rw[if_neg (by lia)]at q;exact q
 .rename_i c;refine⟨_,A6 (A4.of hl),?_⟩;split
  .rename_i c2;rw[if_neg (by lia)]at q;exact q
  .rename_i c2;w_up;obtain⟨kn,rfl⟩:=NU (show 0<=k by lia);have hk:kn<n.plan.layers.length:=by lia
   obtain⟨z,hz⟩:∃z,n.plan.layers[kn]? =some z:=⟨_,E8 hk⟩;obtain⟨y,hy,ly⟩:=al.get' _ hz;have cj:z∈n.plan.layers:=DS hz;obtain⟨t,ht,_,_⟩:=(O.chain.good z cj).t;obtain⟨py,C,dy,fs,gy,my,rfl,DF,LC,f1,f2,f3,sg,JH⟩:=ly.SI T ht;obtain⟨r,FX,GG⟩:=O.w.len.get' _ hz;fin2;refine⟨_,.ref py,A4.of hl,by rw[Cj];exact hy,?_⟩;rw[Bq DF LC.c LC.o f3];lk;have hw:n.w.getD (((kn:Nat):Int)).toNat []=r:=by
    rw[show(((kn:Nat):Int)).toNat=kn from rfl,IQ,FX];rfl
   rw[hw]at q;rw[show decide (((Bk z.1 z.2:Nat):Int)=many)=(if 0<=((kn:Nat):Int)/\((kn:Nat):Int)<(n.plan.layers.length:Int)/\many=(r.length:Int)then some (((kn:Nat):Int)).toNat else none).isSome from ?_]
   .exact q
   .by_cases e:((Bk z.1 z.2:Nat):Int)=many
    .rw[decide_eq_true e,if_pos ⟨by lia,by lia,by lia⟩];rfl
    .rw[decide_eq_false e,if_neg (by lia)];rfl
def WK(h0:0<AK s)(h:AK s<=4096):Small s:=by
 unfold AK at*;have a1:s.1≠0:=λz=>by rw[z,Du,Du]at h0;lia
 have a2:s.2.1≠0:=λz=>by rw[z,RY,Du]at h0;lia
 have a3:s.2.2≠0:=λz=>by rw[z,RY]at h0;lia
 have b3:s.2.2<=s.1*s.2.1*s.2.2:=Hm _ (EC (by lia) (by lia));have b12:s.1*s.2.1<=s.1*s.2.1*s.2.2:=Ep _ (by lia);have b1:s.1<=s.1*s.2.1:=Ep _ (by lia);have b2:s.2.1<=s.1*s.2.1:=Hm _ (by lia);exact⟨by lia,by lia,by lia⟩
def Fo.wA(O:Fo n):0<AK n.plan.last/\AK n.plan.last<=4096:=by
 rcases O.chain.last with⟨e,eu⟩|⟨z,hz,ha⟩
 .rw[eu];exact O.first
 .obtain⟨t,ht,h0,h1⟩:=(O.chain.good z (DS hz)).t;rw[ha]at ht;cases ht;exact⟨h0,h1⟩
def count_eq(s:BA):s.1*(s.2.1*s.2.2)=AK s:=(B6 ..).symm
def BG.zip:∀{xs:List β}{ys:List γ},BG R xs ys->(ys.zip xs).map HN=ys/\(ys.zip xs).map Jw=xs/\∀p∈ys.zip xs,R p.2 p.1
 |[],[],_=>⟨rfl,rfl,λ_ h=>by simp at h⟩
 |x::xs,y::ys,h=>by
  obtain⟨h1,h2,h3⟩:=BG.zip h.2;refine⟨by rw[EA,BW,h1],by rw[EA,BW,h2],λp hp=>?_⟩;rw[EA]at hp;rcases B2.mp hp with rfl|hp
  .exact h.1
  .exact h3 p hp
def Fits.bz(h:Fits zs rows):rows.map (λr=>r.length)=zs.map λz=>Bk z.1 z.2:=by
 have:=h.len;clear h;induction zs generalizing rows with
 |nil=>cases rows with|nil=>rfl|cons=>exact this.elim
 |cons z zs ih=>
  cases rows with
  |nil=>exact this.elim
  |cons r rows=>rw[BW,BW,this.1,ih this.2]
def aue(a:Ad):Sp:=CS λv H Q _=>∃n,D1 (Dl a H v n) (Fo n) (DB H Q (Nv (n.plan.layers.length::AK n.plan.first::AK n.plan.last::n.w.map λr=>r.length)))
def aof(T:Txt K mg a):A_ P w K mg base 3 a.dS ["self"] (aue a):=by
 refine T.ahT.Cy asU λAF A outer s H p0 Q E hr h nd=>?_;obtain⟨n,NA,O,q⟩:=h;obtain⟨p,dx,g,l,o,v,m,ss,rfl,N⟩:=id NA;have hp:=N.at_;obtain⟨vs,hl,al⟩:=N.ly;refine⟨_,(A7 (AW (i:=1) nd rfl (A6 rfl) (Bn (A1 (CG EH (by rfl) T.E0 Dt (A1 (AH (pv 0) rfl) A3)) (A1 (Cf (LW T) T.FQ T.L6 hr AD (AH (pv 0) rfl)) (A1 (Cf (LW T) T.FQ T.L6 hr AD (Cf (yT T) T.D3 T.vZ hr AD (pv 0))) A3))))) (AE (Aa (AM OX (pv 1) (Q_ (own:=[("layer",2)]) rfl nd (De (AH (pv 0) rfl)) (Ck (by kernel_rfl)) (λ_ _ _ _ _=>(Ay (i:=2) nd rfl (A6 rfl))) (λ_ _ _ _ _=>Cg) (λ_ _ _ _ _=>(O_ (K:=K) rfl (pv 2)))))))).Ak,?_⟩;have hlen:=al.length;lk;repeat (simp only[Ea T hp,Ee T hp,Eh T hp,Ej T hp,Eg T hp,Ei T hp];lk)
 refine⟨_,A6 (A4.of hl),?_⟩;w_up;obtain⟨bg,dg,rfl,hg⟩:=id N.gv;fin2;refine⟨bg,dg,_,rfl,hg,by kernel_rfl,n.plan.first,N.gv,WK O.first.1 O.first.2,p,dx,_,rfl,hp,by kernel_rfl,?_⟩;refine⟨n,NA,O,λu hu=>?_⟩;w_up;obtain⟨bu,du,rfl,gZ⟩:=id hu;fin2;lk;refine⟨bu,du,_,rfl,gZ,by kernel_rfl,n.plan.last,hu,WK O.wA.1 O.wA.2,(by show 3<=Al;decide),λc nc=>?_⟩;have s1:=A2.one (o:=.lst [.int (vs.length:Int),.int ((n.plan.first.1*(n.plan.first.2.1*n.plan.first.2.2):Nat):Int),.int ((n.plan.last.1*(n.plan.last.2.1*n.plan.last.2.2):Nat):Int)]) nc;have BS:=s1 _ _ hp;repeat (simp only[Ea T BS,Ee T BS,Eh T BS,Ej T BS,Eg T BS,Ei T BS];lk)
 refine⟨⟨_,A4.of (s1 _ _ hl)⟩,?_⟩;w_up;obtain⟨z1,z2,z3⟩:=al.zip;fin2;have EZ:=O.EZ;refine K0 (its:=vs.zip n.plan.layers) (λit=> .int ((Bk it.2.1 it.2.2:Nat):Int)) (CJ.of_map HN (by rw[z1];exact Lc (A4.of (s1 _ _ hl)))) (λ_ _=>rfl) ?_ (λit hi H1 s2 Q' hq=>?_) λd H1 s2 n2 hd=>?_
 .rw[<-AV (f:=Jw),z2];exact B_ (by lia)
 .have hz:it.2∈n.plan.layers:=by rw[<-z2];exact Ca.mpr ⟨it,hi,rfl⟩
  w_up;obtain⟨t,ht,_,_⟩:=(O.chain.good _ hz).t;obtain⟨py,C,dy,fs,gy,my,e,DF,LC,f1,f2,f3,sg,JH⟩:=(z3 it hi).SI T ht;fin2;rw[e];lk;rw[Bq (s2 _ _ (s1 _ _ DF)) LC.c LC.o f3];exact hq _ (A2.refl _)
 .have D4:((vs.zip n.plan.layers).map λit=>V.int ((Bk it.2.1 it.2.2:Nat):Int))=Nv (n.w.map λr=>r.length):=by
   rw[O.w.bz,<-z2,Nv,CA,CA,z2];rfl
  rw[D4]at hd;refine⟨_,_,s2 _ _ AB,hd,?_,λe ne=>q e _ (s1.trans (s2.trans (A2.one ne))) ((s1.trans s2).free ne) ?_⟩
  .rw[AV,O.w.bz,AV];exact B_ (by show 3+_<=_;lia)
  .rw[AB,count_eq,count_eq,<-hlen];rfl
def Zx{w:List Nat}(f:∀y∈w,AI y)(i:Nat):AI (Ab w i):=by
 by_cases h:i<w.length
 .rw[Dh h];exact f _ (IU h)
 .unfold Ab;rw[IQ,U7 (by lia)];exact HY
def Em{ι β:Type}{f:ι->Option β}{Pr:β->Prop}{l:List ι}{ys:List β}(h:l.mapM f=some ys)(hf:∀x∈l,∀y,f x=some y->Pr y):∀y∈ys,Pr y:=λy hy=>by
 obtain⟨x,hx,e⟩:=NS h hy;exact hf x hx y e
def places_len(s:BA):(Hz s).length=AK s:=by rw[places_eq,AV,BJ,count_eq]
def rG{l:Cb}{w x y:List Nat}(ha:Bv s l=some t)(hx:x.length=AK s)(fw:∀v∈w,AI v)(fx:∀v∈x,AI v)(h:HM s l w x=some y):y.length=AK t/\∀v∈y,AI v:=by
 cases l with
 |relu=>
  cases ha;have h:some (x.map λv=>if Jt 0 v=true then v else 0)=some y:=h;cases h;refine⟨by rw[AV];exact hx,λv hv=>?_⟩;obtain⟨u,hu,rfl⟩:=Ca.mp hv;split
  .exact fx u hu
  .exact HY
 |pool=>
  have h:some ((Hz (s.1,s.2.1/2,s.2.2/2)).map λz=>Ab x (Lp s x z.1 z.2.1 z.2.2))=some y:=h;cases h;rw[Bv]at ha;split at ha
  .cases ha;refine⟨by rw[AV,places_len],λv hv=>?_⟩;obtain⟨u,hu,rfl⟩:=Ca.mp hv;exact Zx fx _
  .cases ha
 |dense o=>
  cases ha;have h:(A8 o).mapM (λk=>Bf (Ab w (o*AK s+k)) ((A8 (AK s)).map λi=>(Ab w (k*AK s+i),Ab x i)))=some y:=h;refine⟨by rw[C3 h,BJ];show o=o*1*1;lia,Em h λk _ v e=>ML (Zx fw _) e⟩
 |conv o k=>
  rw[Bv]at ha;split at ha
  .cases ha;have h:(Hz (o,s.2.1,s.2.2)).mapM _=some y:=h;exact⟨by rw[C3 h,places_len],Em h λz _ v e=>ML (Zx fw _) e⟩
  .cases ha
def BG.vk:∀{xs:List β}{ys:List γ},BG R xs ys->∀p∈xs.zip ys,R p.1 p.2
 |[],[],_,p,hp=>by simp at hp
 |x::xs,y::ys,h,p,hp=>by
  rw[EA]at hp;rcases B2.mp hp with rfl|hp
  .exact h.1
  .exact BG.vk h.2 p hp
def rH(z:(BA×Cb)×EE)(r:List ((BA×Cb)×EE))(x:List Nat):JC (z::r) x=(HM z.1.1 z.1.2 z.2 x).bind λy=>(JC r y).map λf=>(x::f.1,f.2):=rfl
def Og(zs:List ((BA×Cb)×EE))(x:List Nat):Option (List (List Nat)):=(JC zs x).map λf=>f.1++[f.2]
def auj(a:Ad):Sp:=Dq λv1 v2 H Q E=>EN λn x=>S_ (Dl a H v1 n) (Fo n) (AL H v2 (Nv x)) (x.length=AK n.plan.first) ((∀y∈x,AI y)) (match Og (n.plan.layers.zip n.w) x with
 |some rows=>∀p H',A2 H H'->H p=none->Bw H' p rows->Q (.ref p) H'
 |none=>∀H',A2 H H'->E (.ref a.DC) none H')
def yV(T:Txt K mg a):A_ P w K mg base 8 a.dU ["self","numbers"] (auj a):=by
 refine T.ahU.En asV λAF A outer s H p0 p1 Q E hr h nd=>?_;obtain⟨n,x,NA,O,hx,DZ,fx,q⟩:=h;obtain⟨p,dx,g,l,o,v,m,ss,rfl,N⟩:=id NA;have hp:=N.at_;obtain⟨vs,hl,al⟩:=N.ly;obtain⟨ws,ho,lo⟩:=N.ow;refine⟨_,(A7 (AW (i:=2) nd rfl (A6 rfl) (Bn (A1 (pv 1) A3))) (A7 (E5 Dd rfl (Mn (by rfl) T.LZ (A1 (AH (pv 0) rfl) (A1 (AH (pv 0) rfl) A3))) (Lg (n:=2) rfl (Cs (Ay (i:=3) nd rfl (A6 rfl)) (Cs (Ay (i:=4) nd rfl (A6 rfl)) Hg))) (AE (Df (Fu Fd Gv Hk IB (pv 2) (A1 (PE.or (PE.or (PE.or (Bb (aoT T) T.Pw T.amz hr AD (pv 3) (A1 (pv 4) (A1 (BL BM (pv 2) (Hf Hj Am) (λ_ _=>rfl)) A3))) (Bb (aon T) T.Zf T.amW hr AD (pv 3) (A1 (pv 4) (A1 (BL BM (pv 2) (Hf Hj Am) (λ_ _=>rfl)) A3)))) (Bb (aoi T) T.MO T.anB hr AD (pv 3) (A1 (pv 4) (A1 (BL BM (pv 2) (Hf Hj Am) (λ_ _=>rfl)) A3)))) (Bb (wa T) T.Ew T.vW hr AD (pv 3) (A1 (pv 4) (A1 (BL BM (pv 2) (Hf Hj Am) (λ_ _=>rfl)) A3)))) A3))))) (AE (Aa (pv 2))))).Ak,?_⟩;lk;refine⟨(by show 1<=Al;decide),λc nc=>?_⟩;have s1:=A2.one (o:=.lst [p1]) nc;have BS:=s1 _ _ hp;repeat (simp only[Ea T BS,Ee T BS,Eh T BS,Ej T BS,Eg T BS,Ei T BS];lk)
 refine⟨_,_,A4.of (s1 _ _ hl),A4.of (s1 _ _ ho),?_⟩;w_up;obtain⟨z1,z2,z3⟩:=al.zip;obtain⟨y1,y2,y3⟩:=AX.X8 Nv lo;fin2;have EZ:=O.EZ;have hit:((vs.zip n.plan.layers).zip (ws.zip n.w)).map (λit=>(it.1.2,it.2.2))=n.plan.layers.zip n.w:=by
  have h:=ZT (f:=Jw) (g:=Jw) (l₁:=vs.zip n.plan.layers) (l₂:=ws.zip n.w);rw[z2,y2]at h;rw[h];rfl
 refine HU (H0:=H) (its:=(vs.zip n.plan.layers).zip (ws.zip n.w)) (Mb HN HN (A4.of (by rw[z1];exact hl)) (A4.of (by rw[y1];exact ho))) (λr σ H'=>A2 H H'/\(∃o1 o2,σ=[some (.ref p),some p1,some (.ref c),o1,o2])/\∃t ds init y,H' c=some (.lst ds)/\AX (Aw H' [c]) ds ((init++[y]).map Nv)/\ds.length+r.length<=10/\FL t (r.map λit=>it.1.2) n.plan.last/\y.length=AK t/\(∀v∈y,AI v)/\
  (JC (r.map λit=>(it.1.2,it.2.2)) y).map (λf=>init++(f.1++[f.2]))=Og (n.plan.layers.zip n.w) x) ?_ (λ_ _ _ h=>h.1) ?_ ?_
 .refine⟨s1,⟨none,none,rfl⟩,n.plan.first,[p1],[],x,AB,⟨?_,trivial⟩,?_,?_,DZ,fx,?_⟩
  .obtain⟨b,rfl,hb⟩:=hx;exact⟨b,rfl,EJ (s1 _ _ hb) (by rw[C5];exact Dm hb nc)⟩
  .have:((vs.zip n.plan.layers).zip (ws.zip n.w)).length<=n.plan.layers.length:=by rw[Br,Br];lia
   show 1+_<=_;lia
  .have:((vs.zip n.plan.layers).zip (ws.zip n.w)).map (λit=>it.1.2)=n.plan.layers:=by
    have h:=congrArg (M4 HN) hit;rw[CA,List.map_fst_zip (by rw[O.w.len.length];exact Az _)]at h;exact h
   rw[this];exact O.chain
  .rw[hit];unfold Og;congr 1
 .intro it r σ H2 H3 hm AG s3;w_up;obtain⟨s2,⟨o1,o2,rfl⟩,t,ds,init,y,hc,Hd,si,ch,FK,fy,B9⟩:=AG;obtain⟨⟨lv,z⟩,⟨wv,r0⟩⟩:=it;obtain⟨gO,Qs⟩:=GX hm;have LA:=(z3 _ gO).mono (s2.trans s3);have WA:=(y3 _ Qs).mono (s2.trans s3);simp only at LA WA;have ig:(z,r0)∈n.plan.layers.zip n.w:=by rw[<-hit];exact Ca.mpr ⟨_,hm,rfl⟩
  have CC:=O.w.len.vk _ ig;have LH:∀v∈r0,AI v:=O.w.fin r0 (GX ig).2;simp only[BW]at ch B9;rw[rH]at B9;simp only at B9 CC;obtain⟨sz,lz⟩:=z;fin2;cases ch with
  | @cons _ t' _ _ _ gd ha fS=>
  rw[B4]at si;have Ek:=s3 _ _ hc;have last:∃yv,FP ds (-1)=some yv/\AL H3 yv (Nv y):=by
   have hlen:=Hd.length;rw[AV,Bo,Km]at hlen;w_up;obtain⟨yv,h1,h2⟩:=AX.get' ds _ init.length (Nv y) Hd (by rw[D0,U2 (Az _),RX];rfl);fin2;refine⟨yv,?_,(h2.mono E7).mono s3⟩;unfold FP Gr;rw[if_neg (by decide),if_pos (by lia),show(-1+(ds.length:Int)).toNat=init.length from by lia];exact h1
  w_up;obtain⟨yv,Ow,c8⟩:=last;fin2;have fin:∀y',HM t lz r0 y=some y'->∀b H4,A2 H3 H4->H3 b=none->H4 b=some (.lst (Nv y'))->∃xs,H4 c=some (.lst xs)/\xs.length<Al/\(A2 H (upd H4 c (.lst (xs++[.ref b])))/\(∃o1 o2,[some (.ref p),some p1,some (.ref c),some lv,some wv]=[some (.ref p),some p1,some (.ref c),o1,o2])/\∃t ds init y,upd H4 c (.lst (xs++[.ref b])) c=some (.lst ds)/\AX (Aw (upd H4 c (.lst (xs++[.ref b]))) [c]) ds ((init++[y]).map Nv)/\ds.length+r.length<=10/\FL t (r.map λit=>it.1.2) n.plan.last/\y.length=AK t/\(∀v∈y,AI v)/\
   (JC (r.map λit=>(it.1.2,it.2.2)) y).map (λf=>init++(f.1++[f.2]))=Og (n.plan.layers.zip n.w) x):=by
   intro y' ey b H4 s4 nb hb;obtain⟨f1,f2⟩:=rG ha FK LH fy ey;have bc:b≠c:=λe=>by rw[e,Ek]at nb;cases nb
   refine⟨ds,s4 _ _ Ek,by unfold Al;lia,((s2.trans s3).trans s4).own nc,⟨_,_,rfl⟩,t',_,init++[y],y',AB,?_,by rw[Bo,Km];lia,fS,f1,f2,?_⟩
   .rw[GH (C5.mpr rfl),E9];exact AX.snoc (Hd.mono (F6 (s3.trans s4))) ⟨b,rfl,EJ hb (by rw[C5];exact bc)⟩
   .rw[ey,Aq,RP]at B9;rw[<-B9];congr 1;funext f;show init++[y]++(f.1++[f.2])=init++(y::f.1++[f.2]);rw[Hs];rfl
  have bad:HM t lz r0 y=none->∀H4,A2 H3 H4->E (.ref a.DC) none H4:=by
   intro ey H4 s4;rw[ey]at B9;have e:Og (n.plan.layers.zip n.w) x=none:=B9.symm;rw[e]at q;exact q H4 ((s2.trans s3).trans s4)
  lk;refine⟨A6 ⟨rfl,_,A4.of Ek⟩,?_⟩;have ans:∀{Q':VK},(∀y',HM t lz r0 y=some y'->∀b H4,A2 H3 H4->H3 b=none->H4 b=some (.lst (Nv y'))->Q' (.ref b) H4)->EF a (HM t lz r0 y) H3 Q' E:=by
   intro Q' h;cases ey:HM t lz r0 y with
   |none=>exact bad ey
   |some y'=>exact λb H4 s4 nb hb=>h y' ey b H4 s4 nb hb
  cases lz with
  |dense o'=>
   w_up;obtain⟨py,dy,gy,my,rfl,DF,g1,g2⟩:=id LA;fin2;exact A6 (A6 (A6 ⟨py,dy,_,rfl,DF,by kernel_rfl,_,yv,A4.of Ek,Ow,t,_,r0,y,⟨o',rfl⟩,LA,gd,WA,CC,c8,FK,LH,fy,ans fin⟩))
  |relu=>
   w_up;obtain⟨py,dy,gy,rfl,DF,g1⟩:=id LA;fin2;exact A6 (A6 (C1 ⟨py,dy,_,rfl,DF,by kernel_rfl,_,yv,A4.of Ek,Ow,t,_,r0,y,rfl,LA,gd,WA,CC,c8,FK,LH,fy,ans fin⟩))
  |pool=>
   w_up;obtain⟨py,dy,gy,my,rfl,DF,g1,g2⟩:=id LA;fin2;exact A6 (C1 ⟨py,dy,_,rfl,DF,by kernel_rfl,_,yv,A4.of Ek,Ow,t,_,r0,y,rfl,LA,gd,WA,CC,c8,FK,LH,fy,ans fin⟩)
  |conv o' k'=>
   w_up;obtain⟨py,dy,gy,my,uy,rfl,DF,g1,g2,g3⟩:=id LA;fin2;exact C1 ⟨py,dy,_,rfl,DF,by kernel_rfl,_,yv,A4.of Ek,Ow,t,o',k',r0,y,LA,tT gd,WA,by rw[CC];show o'*t.1*k'*k'+o'=_;rw[B6 (o'*t.1),B6 o'],c8,FK,LH,fy,ans fin⟩
 .intro σ H2 AG;w_up;obtain⟨s2,⟨o1,o2,rfl⟩,t,ds,init,y,hc,Hd,si,ch,FK,fy,B9⟩:=AG;fin2;lk;have e:Og (n.plan.layers.zip n.w) x=some (init++[y]):=B9.symm;rw[e]at q;exact q c H2 s2 nc ⟨ds,hc,Hd.mono E7⟩
def apH(x0 x1 x2 x3 x4 x5:V):AS "s" x5 (AS "m" x4 (AS "v" x3 (AS "own" x2 (AS "layers" x1 (AS "given" x0 [])))))=Cw x0 x1 x2 x3 x4 x5:=by kernel_rfl
def NC(zs:List (BA×Cb)):List (List Nat):=zs.map λz=>Ar (Bk z.1 z.2) 0
def Sr(hp:H p=some (.ins C dx []))(hb:H b=some (.ins C' db fs))(hn:fs≠[]):C8 H p b=some (.ins C' db fs):=Jb hb λz=>by
 rw[z,hp]at hb;injection hb with hb
 injection hb with _ _ hb
 exact hn hb.symm
def j6(hp:H p=some (.ins C dx []))(hb:H b=some (.lst vs)):C8 H p b=some (.lst vs):=Jb hb λz=>by rw[z,hp]at hb;cases hb
def BB.less(hp:H p=some (.ins C dx []))(h:BB a H v s):BB a (C8 H p) v s:=by
 obtain⟨b,db,rfl,hb⟩:=h;exact⟨b,db,rfl,Sr hp hb (by unfold JU;simp)⟩
def C2.less(hp:H p=some (.ins C dx []))(h:C2 a H v s l):C2 a (C8 H p) v s l:=by
 cases l with
 |dense o=>obtain⟨b,db,g,m,rfl,h1,h2,h3⟩:=h;exact⟨b,db,g,m,rfl,Sr hp h1 (by unfold E_;simp),h2.less hp,h3.less hp⟩
 |relu=>obtain⟨b,db,g,rfl,h1,h2⟩:=h;exact⟨b,db,g,rfl,Sr hp h1 (by unfold E_;simp),h2.less hp⟩
 |pool=>obtain⟨b,db,g,m,rfl,h1,h2,h3⟩:=h;exact⟨b,db,g,m,rfl,Sr hp h1 (by unfold E_;simp),h2.less hp,h3.less hp⟩
 |conv o k=>obtain⟨b,db,g,m,u,rfl,h1,h2,h3,h4⟩:=h;exact⟨b,db,g,m,u,rfl,Sr hp h1 (by unfold G9;simp),h2.less hp,h3.less hp,h4.less hp⟩
def EO.less(hp:H p=some (.ins C dx []))(h:EO a H l zs):EO a (C8 H p) l zs:=let⟨vs,h1,h2⟩:=h;⟨vs,j6 hp h1,BG.mono (λ_ _ e=>e.less hp) h2⟩
def AX.keep(hp:H p=some (.ins C dx fs))(k:Ac p H H'):∀{vs:List V}{ls:List (List V)},AX H vs ls->AX H' vs ls
 |[],[],_=>trivial
 |_::_,_::_,h=>⟨h.1.keep hp k,AX.keep hp k h.2⟩
def Bw.keep(h:Bw H d rows)(hp:H p=some (.ins C dx fs))(k:Ac p H H'):Bw H' d rows:=by
 obtain⟨vs,h1,h2⟩:=h;exact⟨vs,k d _ h1 (λz=>by rw[z,hp]at h1;cases h1),h2.keep hp k⟩
def YD(hl:EO a H1 l zs)(ch:FL s zs u)(EZ:zs.length<=8)
 (q:∀d H2,A2 H1 H2->H1 d=none->Bw H2 d (NC zs)->Q (.ref d) H2):(∃xs,A4 K H1 l xs)/\ON (S3 K l) (DD 3) Oi (T9 (lH a) [] E (mO (RB 3) RA)) [3] [A,B,C,none] H1 Q:=by
 w_up;obtain⟨vs,hv,al⟩:=hl;obtain⟨z1,z2,z3⟩:=al.zip;fin2;refine⟨⟨_,A4.of hv⟩,j3 (its:=vs.zip zs) (λit=>Nv (Ar (Bk it.2.1 it.2.2) 0)) (CJ.of_map HN (by rw[z1];exact Lc (A4.of hv))) (λ_ _=>rfl) ?_ (λit hi H' s' Q' hq=>?_) λd ws H2 s2 n2 hd ls=>?_⟩
 .rw[<-AV (f:=Jw),z2];exact B_ (by lia)
 .have hz:it.2∈zs:=by rw[<-z2];exact Ca.mpr ⟨it,hi,rfl⟩
  have gd:=ch.good _ hz;w_up;obtain⟨t,ht,_,_⟩:=gd.t;fin2;lk;exact⟨it.2.1,it.2.2,t,(z3 it hi).mono s',ht,by have:=gd.w;lia,hq⟩
 .refine q d H2 s2 n2 ⟨ws,hd,?_⟩;have:(vs.zip zs).map (λit=>Nv (Ar (Bk it.2.1 it.2.2) 0))=(NC zs).map Nv:=by
   rw[NC,CA,<-z2,CA,z2];rfl
  rw[<-this];exact ls
def atG(a:Ad):Sp:=D9 λv1 v2 v3 H Q _=>Et λ(p dx l:A0)(s u:BA)(zs:List (BA×Cb))=>Cn (v1=.ref p) (H p=some (.ins a.Net dx [])) (BB a H v2 s) (v3=.ref l) (EO a H l zs) (FL s zs u) (zs.length<=8) (∀o v m t H',Ac p H H'->H' p=some (.ins a.Net dx (Cw v2 (.ref l) (.ref o) (.ref v) (.ref m) (.ref t)))->Bw H' o (NC zs)->Bw H' v (NC zs)->Bw H' m (NC zs)->Bw H' t (NC zs)->[l,o,v,m,t].Nodup->EO a H' l zs->BB a H' v2 s->Q .Ah H')
def aod(T:Txt K mg a):A_ P w K mg base 2 a.dQ ["self","given","layers"] (atG a):=by
 refine T.aiD.Dc asS λAF A outer s H p0 p1 p2 Q E hr h nd=>?_;obtain⟨p,dx,l,s0,u,zs,rfl,hp,hs,rfl,hl,ch,EZ,q⟩:=h;refine⟨_,(A7 (C9 (pv 0) (pv 1) rfl) (A7 (C9 (pv 0) (pv 2) rfl) (A7 (C9 (pv 0) (FZ (own:=[("layer",3)]) rfl rfl rfl CD rfl nd (De (pv 2)) (Ck (by kernel_rfl)) (λ_ _ _ _ _=>(Ay (i:=3) nd rfl (A6 rfl))) (λ_ _ _ _ _=>Cg) (λ_ _ _ _ _ _ _ An=>(Ag (QW T) T.Q7 hr An (A1 (pv 3) A3)))) rfl) (A7 (C9 (pv 0) (FZ (own:=[("layer",3)]) rfl rfl rfl CD rfl nd (De (pv 2)) (Ck (by kernel_rfl)) (λ_ _ _ _ _=>(Ay (i:=3) nd rfl (A6 rfl))) (λ_ _ _ _ _=>Cg) (λ_ _ _ _ _ _ _ An=>(Ag (QW T) T.Q7 hr An (A1 (pv 3) A3)))) rfl) (A7 (C9 (pv 0) (FZ (own:=[("layer",3)]) rfl rfl rfl CD rfl nd (De (pv 2)) (Ck (by kernel_rfl)) (λ_ _ _ _ _=>(Ay (i:=3) nd rfl (A6 rfl))) (λ_ _ _ _ _=>Cg) (λ_ _ _ _ _ _ _ An=>(Ag (QW T) T.Q7 hr An (A1 (pv 3) A3)))) rfl) (AE (C9 (pv 0) (FZ (own:=[("layer",3)]) rfl rfl rfl CD rfl nd (De (pv 2)) (Ck (by kernel_rfl)) (λ_ _ _ _ _=>(Ay (i:=3) nd rfl (A6 rfl))) (λ_ _ _ _ _=>Cg) (λ_ _ _ _ _ _ _ An=>(Ag (QW T) T.Q7 hr An (A1 (pv 3) A3)))) rfl))))))).Ak,?_⟩;refine cut λU hU=>?_;lk;refine⟨p,_,_,_,rfl,hp,T.D3,T.xR,by decide,?_⟩;subst hU;refine cut λU hU=>?_;lk;refine⟨p,_,_,_,rfl,AB,T.D3,T.xS,(by show 1<1000;decide),?_⟩;rw[Ds];subst hU;refine cut λU hU=>?_;lk;have MC:=hl.less hp;have hsB:=hs.less hp;have k0:Ac p H (upd H p (.ins a.Net dx (AS "layers" (.ref l) (AS "given" p1 [])))):=(Ac.refl p H).upd;refine YD (MC.mono (Jc k0)) ch EZ λo1 S0 kr kQ z6=>?_;have Y7:S0 p=some (.ins a.Net dx (AS "layers" (.ref l) (AS "given" p1 []))):=kr _ _ (AB);refine⟨p,_,_,_,rfl,Y7,T.D3,T.OT,(by show 2<1000;decide),?_⟩;have uK:Ac p H (upd S0 p (.ins a.Net dx (AS "own" (.ref o1) (AS "layers" (.ref l) (AS "given" p1 []))))):=(k0.same kr).upd;have axZ:o1≠p:=λz=>by rw[z,AB]at kQ;cases kQ
 subst hU;refine cut λU hU=>?_;lk;refine YD (MC.mono (Jc uK)) ch EZ λo2 S1 Xf Xr z7=>?_;have T_:S1 p=some (.ins a.Net dx (AS "own" (.ref o1) (AS "layers" (.ref l) (AS "given" p1 [])))):=Xf _ _ (AB);refine⟨p,_,_,_,rfl,T_,T.D3,T.kI,(by show 3<1000;decide),?_⟩;have ug:Ac p H (upd S1 p (.ins a.Net dx (AS "v" (.ref o2) (AS "own" (.ref o1) (AS "layers" (.ref l) (AS "given" p1 [])))))):=(uK.same Xf).upd;have axb:o2≠p:=λz=>by rw[z,AB]at Xr;cases Xr
 subst hU;refine cut λU hU=>?_;lk;refine YD (MC.mono (Jc ug)) ch EZ λo3 S2 WL Wk z8=>?_;have Ob:S2 p=some (.ins a.Net dx (AS "v" (.ref o2) (AS "own" (.ref o1) (AS "layers" (.ref l) (AS "given" p1 []))))):=WL _ _ (AB);refine⟨p,_,_,_,rfl,Ob,T.D3,T.jB,(by show 4<1000;decide),?_⟩;have w9:Ac p H (upd S2 p (.ins a.Net dx (AS "m" (.ref o3) (AS "v" (.ref o2) (AS "own" (.ref o1) (AS "layers" (.ref l) (AS "given" p1 []))))))):=(ug.same WL).upd;have axc:o3≠p:=λz=>by rw[z,AB]at Wk;cases Wk
 subst hU;lk;refine YD (MC.mono (Jc w9)) ch EZ λo4 VC Wi Tu ro4=>?_;have WW:VC p=some (.ins a.Net dx (AS "m" (.ref o3) (AS "v" (.ref o2) (AS "own" (.ref o1) (AS "layers" (.ref l) (AS "given" p1 [])))))):=Wi _ _ (AB);refine⟨p,_,_,_,rfl,WW,T.D3,T.kH,(by show 5<1000;decide),?_⟩;have bh:Ac p H (upd VC p (.ins a.Net dx (AS "s" (.ref o4) (AS "m" (.ref o3) (AS "v" (.ref o2) (AS "own" (.ref o1) (AS "layers" (.ref l) (AS "given" p1 [])))))))):=(w9.same Wi).upd;have axd:o4≠p:=λz=>by rw[z,AB]at Tu;cases Tu
 rw[apH]at bh⊢;have kA:∀(fs:List (Str×V)),Ac p S0 (upd S0 p (.ins a.Net dx fs)):=λfs=>(Ac.refl p S0).upd;have kB:∀(fs:List (Str×V)),Ac p S1 (upd S1 p (.ins a.Net dx fs)):=λfs=>(Ac.refl p S1).upd;have kC:∀(fs:List (Str×V)),Ac p S2 (upd S2 p (.ins a.Net dx fs)):=λfs=>(Ac.refl p S2).upd;have kD:∀(fs:List (Str×V)),Ac p VC (upd VC p (.ins a.Net dx fs)):=λfs=>(Ac.refl p VC).upd;have xo:=(z6.keep Y7 (kA _)).mono Xf;have xp:=(xo.keep T_ (kB _)).mono WL;have r14:=(xp.keep Ob (kC _)).mono Wi;have xq:=(z7.keep T_ (kB _)).mono WL;have r24:=(xq.keep Ob (kC _)).mono Wi;have r34:=(z8.keep Ob (kC _)).mono Wi;have ne:∀{Hx:Hp}{d e:A0}{vs:List V}{fs:List (Str×V)},Hx d=some (.lst vs)->Hx p=some (.ins a.Net dx fs)->∀gs,upd Hx p (.ins a.Net dx gs) e=none->d≠e:=by
  intro Hx d e vs fs hd hp gs he z;have dp:d≠p:=λz=>by rw[z,hp]at hd;cases hd
  rw[<-z,AY dp,hd]at he;cases he
 w_up;obtain⟨lv,ax,_⟩:=hl;have lp:l≠p:=λz=>by rw[z,hp]at ax;cases ax
 have l1:S0 l=some (.lst lv):=kr _ _ (by rw[AY lp];exact ax);have l2:S1 l=some (.lst lv):=Xf _ _ (by rw[AY lp];exact l1);have l3:S2 l=some (.lst lv):=WL _ _ (by rw[AY lp];exact l2);obtain⟨v1,a1,_⟩:=id z6;obtain⟨v2,a2,_⟩:=id xo;obtain⟨v3,a3,_⟩:=id xp;obtain⟨v4,a4,_⟩:=id z7;obtain⟨v5,a5,_⟩:=id xq;obtain⟨v6,a6,_⟩:=id z8;fin2;have n1:=ne ax hp _ kQ;have n2:=ne l1 Y7 _ Xr;have n3:=ne l2 T_ _ Wk;have n4:=ne l3 Ob _ Tu;have n5:=ne a1 Y7 _ Xr;have n6:=ne a2 T_ _ Wk;have n7:=ne a3 Ob _ Tu;have n8:=ne a4 T_ _ Wk;have n9:=ne a5 Ob _ Tu;have J6:=ne a6 Ob _ Tu;refine q o1 o2 o3 o4 _ bh AB (r14.keep WW (kD _)) (r24.keep WW (kD _)) (r34.keep WW (kD _)) (ro4.keep WW (kD _)) ?_ (MC.mono (Jc bh)) (hsB.mono (Jc bh));simp only[DT,B2,DG,or_false,not_or,UE,not_false_eq_true,and_true];exact⟨⟨n1,n2,n3,n4⟩,⟨n5,n6,n7⟩,⟨n8,n9⟩,J6⟩
def Pq(xs:List V):Prop:=∃b r,xs=.ref b::r
section
variable{H:Hp}{o:A0}{xs:List V}(ho:H o=some (.lst xs))(hr:Pq xs)
include ho hr
def AL.C4(h:AL H v (Nv r)):AL (C8 H o) v (Nv r):=by
 obtain⟨b,rfl,hb⟩:=h;refine⟨b,rfl,Jb hb λz=>?_⟩;rw[z,ho]at hb;injection hb with hb
 injection hb with hb
 obtain⟨c,t,rfl⟩:=hr;cases r with
 |nil=>cases hb
 |cons y r=>cases hb
def AX.C4:∀{vs:List V}{rows:List (List Nat)},AX H vs (rows.map Nv)->AX (C8 H o) vs (rows.map Nv)
 |[],[],_=>trivial
 |_::_,[],h=>h.elim
 |[],_::_,h=>h.elim
 |_::_,_::_,h=>⟨AL.C4 ho hr h.1,AX.C4 h.2⟩
def Bw.C4(h:Bw H d rows)(n:d≠o):Bw (C8 H o) d rows:=let⟨vs,h1,h2⟩:=h;⟨vs,Jb h1 n,AX.C4 ho hr h2⟩
omit hr
def NM(h:H b=some (.ins C db fs)):C8 H o b=some (.ins C db fs):=Jb h λz=>by rw[z,ho]at h;cases h
def BB.C4(h:BB a H v s):BB a (C8 H o) v s:=let⟨b,db,e,hb⟩:=h;⟨b,db,e,NM ho hb⟩
def C2.C4(h:C2 a H v s l):C2 a (C8 H o) v s l:=by
 cases l with
 |dense o'=>obtain⟨b,db,g,m,rfl,h1,h2,h3⟩:=h;exact⟨b,db,g,m,rfl,NM ho h1,h2.C4 ho,h3.C4 ho⟩
 |relu=>obtain⟨b,db,g,rfl,h1,h2⟩:=h;exact⟨b,db,g,rfl,NM ho h1,h2.C4 ho⟩
 |pool=>obtain⟨b,db,g,m,rfl,h1,h2,h3⟩:=h;exact⟨b,db,g,m,rfl,NM ho h1,h2.C4 ho,h3.C4 ho⟩
 |conv o' k=>obtain⟨b,db,g,m,u,rfl,h1,h2,h3,h4⟩:=h;exact⟨b,db,g,m,u,rfl,NM ho h1,h2.C4 ho,h3.C4 ho,h4.C4 ho⟩
def EO.C4(h:EO a H l zs)(n:l≠o):EO a (C8 H o) l zs:=let⟨vs,h1,h2⟩:=h;⟨vs,Jb h1 n,BG.mono (λ_ _ e=>e.C4 ho) h2⟩
end
def Wc(h:AX H vs (rows.map Nv))(hn:rows≠[]):Pq vs:=by
 cases rows with
 |nil=>exact absurd rfl hn
 |cons r rows=>
  cases vs with
  |nil=>exact h.elim
  |cons v vs=>
   obtain⟨b,rfl,_⟩:=h.1;exact⟨b,vs,rfl⟩
def AX.set(hx:AL H x r):∀{vs:List V}{ls:List (List V)}(i:Nat),AX H vs ls->AX H (vs.set i x) (ls.set i r)
 |[],[],_,_=>trivial
 |_::_,_::_,0,h=>⟨hx,h.2⟩
 |_::_,_::_,i+1,h=>⟨h.1,AX.set hx i h.2⟩
def Bw.put{rows:List (List Nat)}{x:V}{r:List Nat}{i:Nat}(ho:H o=some (.lst xs))(h:AX H xs (rows.map Nv))(hi:i<rows.length)(hx:AL H x (Nv r)):Bw (upd H o (.lst (xs.set i x))) o (rows.set i r)/\A2 (C8 H o) (upd H o (.lst (xs.set i x))):=by
 have hr:Pq xs:=Wc h (by intro z;rw[z]at hi;cases hi);have sm:A2 (C8 H o) (upd H o (.lst (xs.set i x))):=Jc (Ac.refl o H).upd;refine⟨⟨_,AB,?_⟩,sm⟩;rw[ZU];exact AX.set ((AL.C4 ho hr hx).mono sm) i ((AX.C4 ho hr h).mono sm)
def FO.Y9(N:FO a H n p dx g l o v m s)(ho:H o=some (.lst xs))(hl:AX H xs (n.w.map Nv))(hi:i<n.w.length)(hx:AL H x (Nv r)):FO a (upd H o (.lst (xs.set i x))) {n with w:=n.w.set i r} p dx g l o v m s:=by
 have hr:Pq xs:=Wc hl (by intro z;rw[z]at hi;cases hi);obtain⟨R1,R2⟩:=Bw.put ho hl hi hx;refine⟨R2 _ _ (NM ho N.at_),(N.gv.C4 ho).mono R2,(N.ly.C4 ho (by have:=N.nd;simp only[DT,B2,DG,or_false,not_or]at this;obtain⟨⟨n1,n2,n3,n4⟩,_⟩:=this;assumption)).mono R2,R1,(N.vv.C4 ho hr (by have:=N.nd;simp only[DT,B2,DG,or_false,not_or]at this;obtain⟨⟨n1,n2,n3,n4⟩,⟨n5,n6,n7⟩,⟨n8,n9⟩,J6,_⟩:=this;first|assumption|exact Ct (by assumption))).mono R2,(N.mm.C4 ho hr (by have:=N.nd;simp only[DT,B2,DG,or_false,not_or]at this;obtain⟨⟨n1,n2,n3,n4⟩,⟨n5,n6,n7⟩,⟨n8,n9⟩,J6,_⟩:=this;first|assumption|exact Ct (by assumption))).mono R2,(N.ss.C4 ho hr (by have:=N.nd;simp only[DT,B2,DG,or_false,not_or]at this;obtain⟨⟨n1,n2,n3,n4⟩,⟨n5,n6,n7⟩,⟨n8,n9⟩,J6,_⟩:=this;first|assumption|exact Ct (by assumption))).mono R2,N.nd⟩
def FO.k7(N:FO a H n p dx g l o v m s)(ho:H v=some (.lst xs))(hl:AX H xs (n.v.map Nv))(hi:i<n.v.length)(hx:AL H x (Nv r)):FO a (upd H v (.lst (xs.set i x))) {n with v:=n.v.set i r} p dx g l o v m s:=by
 have hr:Pq xs:=Wc hl (by intro z;rw[z]at hi;cases hi);obtain⟨R1,R2⟩:=Bw.put ho hl hi hx;refine⟨R2 _ _ (NM ho N.at_),(N.gv.C4 ho).mono R2,(N.ly.C4 ho (by have:=N.nd;simp only[DT,B2,DG,or_false,not_or]at this;obtain⟨⟨n1,n2,n3,n4⟩,_⟩:=this;assumption)).mono R2,(N.ow.C4 ho hr (by have:=N.nd;simp only[DT,B2,DG,or_false,not_or]at this;obtain⟨⟨n1,n2,n3,n4⟩,⟨n5,n6,n7⟩,⟨n8,n9⟩,J6,_⟩:=this;first|assumption|exact Ct (by assumption))).mono R2,R1,(N.mm.C4 ho hr (by have:=N.nd;simp only[DT,B2,DG,or_false,not_or]at this;obtain⟨⟨n1,n2,n3,n4⟩,⟨n5,n6,n7⟩,⟨n8,n9⟩,J6,_⟩:=this;first|assumption|exact Ct (by assumption))).mono R2,(N.ss.C4 ho hr (by have:=N.nd;simp only[DT,B2,DG,or_false,not_or]at this;obtain⟨⟨n1,n2,n3,n4⟩,⟨n5,n6,n7⟩,⟨n8,n9⟩,J6,_⟩:=this;first|assumption|exact Ct (by assumption))).mono R2,N.nd⟩
def FO.jy(N:FO a H n p dx g l o v m s)(ho:H m=some (.lst xs))(hl:AX H xs (n.m.map Nv))(hi:i<n.m.length)(hx:AL H x (Nv r)):FO a (upd H m (.lst (xs.set i x))) {n with m:=n.m.set i r} p dx g l o v m s:=by
 have hr:Pq xs:=Wc hl (by intro z;rw[z]at hi;cases hi);obtain⟨R1,R2⟩:=Bw.put ho hl hi hx;refine⟨R2 _ _ (NM ho N.at_),(N.gv.C4 ho).mono R2,(N.ly.C4 ho (by have:=N.nd;simp only[DT,B2,DG,or_false,not_or]at this;obtain⟨⟨n1,n2,n3,n4⟩,_⟩:=this;assumption)).mono R2,(N.ow.C4 ho hr (by have:=N.nd;simp only[DT,B2,DG,or_false,not_or]at this;obtain⟨⟨n1,n2,n3,n4⟩,⟨n5,n6,n7⟩,⟨n8,n9⟩,J6,_⟩:=this;first|assumption|exact Ct (by assumption))).mono R2,(N.vv.C4 ho hr (by have:=N.nd;simp only[DT,B2,DG,or_false,not_or]at this;obtain⟨⟨n1,n2,n3,n4⟩,⟨n5,n6,n7⟩,⟨n8,n9⟩,J6,_⟩:=this;first|assumption|exact Ct (by assumption))).mono R2,R1,(N.ss.C4 ho hr (by have:=N.nd;simp only[DT,B2,DG,or_false,not_or]at this;obtain⟨⟨n1,n2,n3,n4⟩,⟨n5,n6,n7⟩,⟨n8,n9⟩,J6,_⟩:=this;first|assumption|exact Ct (by assumption))).mono R2,N.nd⟩
def FO.jz(N:FO a H n p dx g l o v m s)(ho:H s=some (.lst xs))(hl:AX H xs (n.s.map Nv))(hi:i<n.s.length)(hx:AL H x (Nv r)):FO a (upd H s (.lst (xs.set i x))) {n with s:=n.s.set i r} p dx g l o v m s:=by
 have hr:Pq xs:=Wc hl (by intro z;rw[z]at hi;cases hi);obtain⟨R1,R2⟩:=Bw.put ho hl hi hx;refine⟨R2 _ _ (NM ho N.at_),(N.gv.C4 ho).mono R2,(N.ly.C4 ho (by have:=N.nd;simp only[DT,B2,DG,or_false,not_or]at this;obtain⟨⟨n1,n2,n3,n4⟩,_⟩:=this;assumption)).mono R2,(N.ow.C4 ho hr (by have:=N.nd;simp only[DT,B2,DG,or_false,not_or]at this;obtain⟨⟨n1,n2,n3,n4⟩,⟨n5,n6,n7⟩,⟨n8,n9⟩,J6,_⟩:=this;first|assumption|exact Ct (by assumption))).mono R2,(N.vv.C4 ho hr (by have:=N.nd;simp only[DT,B2,DG,or_false,not_or]at this;obtain⟨⟨n1,n2,n3,n4⟩,⟨n5,n6,n7⟩,⟨n8,n9⟩,J6,_⟩:=this;first|assumption|exact Ct (by assumption))).mono R2,(N.mm.C4 ho hr (by have:=N.nd;simp only[DT,B2,DG,or_false,not_or]at this;obtain⟨⟨n1,n2,n3,n4⟩,⟨n5,n6,n7⟩,⟨n8,n9⟩,J6,_⟩:=this;first|assumption|exact Ct (by assumption))).mono R2,R1,N.nd⟩
def FO.mono(N:FO a H n p dx g l o v m s)(e:A2 H H'):FO a H' n p dx g l o v m s:=⟨e _ _ N.at_,N.gv.mono e,N.ly.mono e,N.ow.mono e,N.vv.mono e,N.mm.mono e,N.ss.mono e,N.nd⟩
def aub(a:Ad):Sp:=D9 λv1 v2 v3 H Q _=>Et λ(n:CI)(i:Nat)(x:List Nat)(p dx:A0)(g:V)=>Es λ(l o v m s:A0)=>Cn (v1=.ref p) (FO a H n p dx g l o v m s) (Fo n) (v2=.int (i:Int)) (i<n.plan.layers.length) (AL H v3 (Nv x)) (x.length=(n.w.getD i []).length) (∀H',(∀b ob,H b=some ob->b≠o->b≠v->b≠m->b≠s->H' b=some ob)->FO a H' {n with w:=n.w.set i x,v:=n.v.set i (Ar x.length 0),m:=n.m.set i (Ar x.length 0),s:=n.s.set i (Ar x.length 0)} p dx g l o v m s->Q .Ah H')
def aoe(T:Txt K mg a):A_ P w K mg base 2 a.dR ["self","layer","numbers"] (aub a):=by
 refine T.ahS.Dc asT λAF A outer s H p0 p1 p2 Q E hr h nd=>?_;obtain⟨n,i,x,p,dx,g,l,o,v,m,ss,rfl,N,O,rfl,hi,hx,DZ,q⟩:=h;refine⟨_,(A7 (WY (pv 2) (WT (AH (pv 0) rfl) (pv 1) set_list)) (A7 (WY (Ag (QW T) T.Q7 hr AD (A1 (BL BM (AH (pv 0) rfl) (pv 1) (λ_ _=>rfl)) A3)) (WT (AH (pv 0) rfl) (pv 1) set_list)) (A7 (WY (Ag (QW T) T.Q7 hr AD (A1 (BL BM (AH (pv 0) rfl) (pv 1) (λ_ _=>rfl)) A3)) (WT (AH (pv 0) rfl) (pv 1) set_list)) (AE (WY (Ag (QW T) T.Q7 hr AD (A1 (BL BM (AH (pv 0) rfl) (pv 1) (λ_ _=>rfl)) A3)) (WT (AH (pv 0) rfl) (pv 1) set_list)))))).Ak,?_⟩;have hp:=N.at_;refine cut λU hU=>?_;lk;unfold SK Tf;lk;repeat (simp only[Ea T hp,Ee T hp,Eh T hp,Ej T hp,Eg T hp,Ei T hp];lk)
 have Sj:=O.w.len.length;have v8:=O.v.len.length;have hml:=O.m.len.length;have Ot:=O.s.len.length;have bY:∀{xs:List V}{rows:List (List Nat)}{H:Hp},AX H xs (rows.map Nv)->rows.length=n.plan.layers.length->Gr xs.length (i:Int)=some i:=by
  intro xs rows H h e;have:=h.length;rw[AV]at this;unfold Gr;rw[if_pos (by lia),if_pos (by lia)];rfl
 w_up;obtain⟨z,hz⟩:∃z,n.plan.layers[i]? =some z:=⟨_,E8 hi⟩;have cj:z∈n.plan.layers:=DS hz;obtain⟨t,ht,_,_⟩:=(O.chain.good z cj).t;have ig:=(O.chain.good z cj).w;obtain⟨r0,CC,GG⟩:=O.w.len.get' _ hz;fin2;have hxw:Bk z.1 z.2=x.length:=by rw[DZ,<-GG,IQ,CC];rfl
 have mC:∀{H1:Hp}{N1:CI}{Q':VK},FO a H1 N1 p dx g l o v m ss->N1.plan=n.plan->(∀d H2,A2 H1 H2->H1 d=none->H2 d=some (.lst (Nv (Ar x.length 0)))->Q' (.ref d) H2)->∃xs y,A4 K H1 l xs/\FP xs (i:Int)=some y/\lH a [y] H1 Q' E:=by
  intro H1 N1 Q' NI e h;w_up;obtain⟨vs,hl,al⟩:=NI.ly;rw[e]at al;obtain⟨y,hy,ly⟩:=al.get' _ hz;fin2;refine⟨vs,y,A4.of hl,by rw[Cj];exact hy,z.1,z.2,t,ly,ht,by lia,?_⟩;rw[hxw];exact λd H2 s2 n2 hd=>h d H2 s2 n2 hd
 w_up;obtain⟨ac_,a1,b1⟩:=id N.ow;fin2;refine⟨ac_,i,a1,bY (rows:=n.w) b1 Sj.symm,?_⟩;have N1:=N.Y9 a1 b1 (by show i<n.w.length;lia) hx;have F1:∀b ob,H b=some ob->b≠o->b≠v->b≠m->b≠ss->upd H o (.lst (ac_.set i p2)) b=some ob:=λb ob e n1 _ _ _=>by rw[AY n1];exact e
 subst hU;refine cut λU hU=>?_;lk;unfold SK Tf;lk;have BS:=N1.at_;repeat (simp only[Ea T BS,Ee T BS,Eh T BS,Ej T BS,Eg T BS,Ei T BS];lk)
 refine mC N1 rfl λd2 H2 s2 L7 hd2=>?_;have N2:=N1.mono s2;have T5:=N2.at_;lk;repeat (simp only[Ea T T5,Ee T T5,Eh T T5,Ej T T5,Eg T T5,Ei T T5];lk)
 w_up;obtain⟨aca,a2,b2⟩:=id N2.vv;fin2;refine⟨aca,i,a2,bY (rows:=n.v) b2 v8.symm,?_⟩;have N3:=N2.k7 a2 b2 (by show i<n.v.length;lia) ⟨d2,rfl,hd2⟩;have F2:∀b ob,H b=some ob->b≠o->b≠v->b≠m->b≠ss->upd H2 v (.lst (aca.set i (.ref d2))) b=some ob:=λb ob e n1 n2 n3 n4=>by rw[AY n2];exact s2 _ _ (F1 b ob e n1 n2 n3 n4)
 subst hU;refine cut λU hU=>?_;lk;unfold SK Tf;lk;have Av:=N3.at_;repeat (simp only[Ea T Av,Ee T Av,Eh T Av,Ej T Av,Eg T Av,Ei T Av];lk)
 refine mC N3 rfl λd4 H4 s4 nd4 SW=>?_;have N4:=N3.mono s4;have T6:=N4.at_;lk;repeat (simp only[Ea T T6,Ee T T6,Eh T T6,Ej T T6,Eg T T6,Ei T T6];lk)
 w_up;obtain⟨acb,a4,b4⟩:=id N4.mm;fin2;refine⟨acb,i,a4,bY (rows:=n.m) b4 hml.symm,?_⟩;have N5:=N4.jy a4 b4 (by show i<n.m.length;lia) ⟨d4,rfl,SW⟩;have F4:∀b ob,H b=some ob->b≠o->b≠v->b≠m->b≠ss->upd H4 m (.lst (acb.set i (.ref d4))) b=some ob:=λb ob e n1 n2 n3 n4=>by rw[AY n3];exact s4 _ _ (F2 b ob e n1 n2 n3 n4)
 subst hU;lk;unfold SK Tf;lk;have Cd:=N5.at_;repeat (simp only[Ea T Cd,Ee T Cd,Eh T Cd,Ej T Cd,Eg T Cd,Ei T Cd];lk)
 refine mC N5 rfl λd6 H6 s6 Tq akX=>?_;have N6:=N5.mono s6;have T7:=N6.at_;lk;repeat (simp only[Ea T T7,Ee T T7,Eh T T7,Ej T T7,Eg T T7,Ei T T7];lk)
 w_up;obtain⟨xs6,a6,b6⟩:=id N6.ss;fin2;refine⟨xs6,i,a6,bY (rows:=n.s) b6 Ot.symm,?_⟩;have N7:=N6.jz a6 b6 (by show i<n.s.length;lia) ⟨d6,rfl,akX⟩;exact q _ (λb ob e n1 n2 n3 n4=>by rw[AY n4];exact s6 _ _ (F4 b ob e n1 n2 n3 n4)) N7
def bF{Pr:β->Prop}{ls:List (List β)}(h:∀l∈ls,∀y∈l,Pr y):∀y∈ls.flatten,Pr y:=λy hy=>by
 obtain⟨l,hl,hy⟩:=nv.mp hy;exact h l hl y hy
def Uy:∀{ls:List (List β)},(∀l∈ls,l.length=k)->ls.flatten.length=ls.length*k
 |[],_=>by simp
 |l::ls,h=>by
  rw[GP,Bo,h l (Bu ..),Uy (λl' h'=>h l' (Ba _ h')),B4,aev];lia
def anz{l:Cb}{x g y:List Nat}(ha:Bv s l=some t)(hx:x.length=AK s)(hg:g.length=AK t)(fx:∀v∈x,AI v)(fg:∀v∈g,AI v)(h:F8 s l x g=some y):y.length=Bk s l/\∀v∈y,AI v:=by
 cases l with
 |relu=>cases h;exact⟨rfl,λv hv=>by simp at hv⟩
 |pool=>cases h;exact⟨rfl,λv hv=>by simp at hv⟩
 |dense o=>
  cases ha;have hg:g.length=o:=by rw[hg];show o*1*1=o;lia
  have h:(g.mapM λk=>x.mapM λi=>BC k i).map (λgw=>gw.flatten++g)=some y:=h;cases e:g.mapM λk=>x.mapM λi=>BC k i with
  |none=>rw[e]at h;cases h
  |some gw=>
   rw[e]at h;cases h;refine⟨?_,λv hv=>?_⟩
   .rw[Bo,Uy (k:=AK s) (Em e λk _ r er=>by rw[C3 er,hx]),C3 e,hg];rfl
   .rcases Hr.mp hv with hv|hv
    .exact bF (Em e λk _ r er=>Em er λi _ z ez=>OS ez) v hv
    .exact fg v hv
 |conv o k=>
  rw[Bv]at ha;split at ha
  .cases ha;unfold F8 at h;simp only at h;generalize he:(pO _ (A8 o):Option (List (List (List (List Nat)))))=gw at h;cases gw with
   |none=>cases h
   |some gw=>
    rw[Aq]at h;generalize W6:(pO _ (A8 o):Option (List Nat))=gb at h;cases gb with
    |none=>cases h
    |some gb=>
     cases h;refine⟨?_,λv hv=>?_⟩
     .have h1:∀A∈gw,(A.map λb=>b.flatten).flatten.length=s.1*(k*k):=Em he λkk _ A eA=>by
       rw[Uy (k:=k*k) λl hl=>by
        obtain⟨b,hb,rfl⟩:=Ca.mp hl;have:=Em (Pr:=λb=>b.flatten.length=k*k) eA (λp _ b eb=>by
         rw[Uy (k:=k) (Em eb λi _ c ec=>by rw[C3 ec,BJ]),C3 eb,BJ]) b hb
        exact this]
       rw[AV,C3 eA,BJ]
      rw[Bo,Uy (k:=s.1*(k*k)) λl hl=>by obtain⟨A,hA,rfl⟩:=Ca.mp hl;exact h1 A hA];rw[AV,C3 he,C3 W6,BJ];show _=o*s.1*k*k+o;rw[B6 (o*s.1),B6 o]
     .rcases Hr.mp hv with hv|hv
      .refine bF (λl hl=>?_) v hv;obtain⟨A,hA,rfl⟩:=Ca.mp hl;refine bF λl hl=>?_;obtain⟨b,hb,rfl⟩:=Ca.mp hl;refine bF λc hc=>?_;obtain⟨kk,_,eA⟩:=NS he hA;obtain⟨p,_,eb⟩:=NS eA hb;obtain⟨i,_,ec⟩:=NS eb hc;exact Em ec λj _ z ez=>ML HY ez
      .exact Em W6 (λkk _ z ez=>ML HY ez) v hv
  .cases ha
def tR(ha:Bv s l=some t)(hx:x.length=AK s)(hg:g.length=AK t)(fg:∀v∈g,AI v)(h:H_ s l w x g=some y):y.length=AK s/\∀v∈y,AI v:=by
 cases l with
 |relu=>
  cases ha;cases h;refine⟨by rw[AV,Br];lia,λv hv=>?_⟩;obtain⟨p,hp,rfl⟩:=Ca.mp hv;split
  .exact fg _ (GX hp).2
  .exact HY
 |pool=>
  cases h;refine⟨by rw[AV,places_len],λv hv=>?_⟩;obtain⟨p,hp,rfl⟩:=Ca.mp hv;split
  .exact Zx fg _
  .exact HY
 |dense o=>
  exact⟨by rw[C3 h,BJ],Em h λi _ z ez=>ML HY ez⟩
 |conv o k=>exact⟨by rw[C3 h,places_len],Em h λi _ z ez=>ML HY ez⟩
abbrev gG:=((BA×Cb)×EE)×EE
def Zz(z:gG)(r:List gG)(g:List Nat):Fj (z::r) g=(Fj r g).bind λy=>(aez z.1.1.1 z.1.1.2 z.1.2 z.2 y.2).map λb=>(b.1::y.1,b.2):=rfl
def pq(g:List Nat):∀(l r:List gG),Fj (l++r) g=(Fj r g).bind λz=>(Fj l z.2).map λy=>(y.1++z.1,y.2)
 |[],r=>by
  cases h:Fj r g with
  |none=>rw[Ko,h];rfl
  |some z=>rw[Ko,h];rfl
 |x::l,r=>by
  rw[Yw,Zz,pq g l r];cases Fj r g with
  |none=>rfl
  |some z=>
   rw[Aq,Aq,Zz];cases Fj l z.2 with
   |none=>rfl
   |some y=>
    show U_ _ _=U_ _ (U_ _ _);rw[RP];rfl
def Qh(zs:List (BA×Cb))(u:BA)(i:Nat):BA:=(zs[i]?.map HN).getD u
def FL.at(h:FL s zs u):∀i z,zs[i]? =some z->Good z.1 z.2/\Bv z.1 z.2=some (Qh zs u (i+1)):=by
 induction h with
 |nil=>intro i z h;simp at h
 | @cons s t u l r g ha ch ih=>
  intro i z hz;cases i with
  |zero=>
   cases hz;refine⟨g,?_⟩;show _=some (Qh r u 0);rw[ha];cases ch with
   |nil=>rfl
   |cons _ _ _=>rfl
  |succ i=>
   obtain⟨h1,h2⟩:=ih i z hz;exact⟨h1,by rw[h2];rfl⟩
def bJ:∀{zs:List (BA×Cb)}{ws:List EE}{s u:BA}{x:List Nat}{f:List EE×EE},FL s zs u->Fits zs ws->x.length=AK s->(∀v∈x,AI v)->JC (zs.zip ws) x=some f->
 BG (λz r=>r.length=AK z.1) zs f.1/\(∀r∈f.1,∀v∈r,AI v)/\f.2.length=AK u/\∀v∈f.2,AI v
 |[],ws,s,u,x,f,ch,ft,hx,fx,h=>by
  have h:some (([]:List EE),x)=some f:=h;cases h;cases ch;exact⟨trivial,λr hr=>by simp at hr,hx,fx⟩
 |z::zs,[],s,u,x,f,ch,ft,hx,fx,h=>absurd ft.len (by intro q;exact q)
 |z::zs,w::ws,s,u,x,f,ch,ft,hx,fx,h=>by
  cases ch with
  | @cons _ t _ l _ g ha ch=>
  rw[EA,rH]at h;simp only at h;cases e:HM s l w x with
  |none=>rw[e]at h;cases h
  |some y=>
   rw[e,Aq]at h;cases e2:JC (zs.zip ws) y with
   |none=>rw[e2]at h;cases h
   |some f2=>
    rw[e2]at h;cases h;w_up;obtain⟨h1,h2⟩:=rG ha hx (ft.fin w (Bu ..)) fx e;obtain⟨q1,q2,q3,q4⟩:=bJ ch ⟨ft.len.2,λr hr=>ft.fin r (Ba _ hr)⟩ h1 h2 e2;fin2;refine⟨⟨hx,q1⟩,λr hr=>?_,q3,q4⟩;rcases B2.mp hr with rfl|hr
    .exact fx
    .exact q2 r hr
def agA(a:Ad)(o:Option (List (List Nat)))(H:Hp)(Q:VK)(E:XK):Prop:=match o with
 |some rows=>∀p H',A2 H H'->H p=none->Bw H' p rows->Q (.ref p) H'
 |none=>∀H',A2 H H'->E (.ref a.DC) none H'
def AX.rev:∀{vs:List V}{ls:List (List V)},AX H vs ls->AX H vs.reverse ls.reverse
 |[],[],_=>trivial
 |v::vs,l::ls,h=>by rw[PH,PH];exact AX.snoc (AX.rev h.2) h.1
def aul(a:Ad):Sp:=D9 λv1 v2 v3 H Q E=>Es λn xs y g p=>Cn (Dl a H v1 n) (Fo n) (v2=.ref p) (Bw H p (xs++[y])) (BG (λz r=>r.length=AK z.1) n.plan.layers xs) ((∀r∈xs,∀v∈r,AI v)) (AL H v3 (Nv g)) (D1 (g.length=AK n.plan.last) ((∀v∈g,AI v)) (agA a ((Fj ((n.plan.layers.zip n.w).zip xs) g).map HN) H Q E))
def aoJ(T:Txt K mg a):A_ P w K mg base 9 a.mS ["net","stages","out_g"] (aul a):=by
 refine T.aj6.Dc atU λAF A outer s H p0 p1 p2 Q E hr h nd=>?_;obtain⟨n,xs,y,g0,ps,NA,O,rfl,⟨sv,hs,ls⟩,vG,ajw,W9,h9,fg,q⟩:=h;obtain⟨p,dx,gv,l,o,v,m,ss,rfl,N⟩:=id NA;have hp:=N.at_;obtain⟨vs,hl,al⟩:=N.ly;obtain⟨ws,ho,lo⟩:=N.ow;refine⟨_,(A7 (AW (i:=3) nd rfl (A6 rfl) (pv 2)) (A7 (AW (i:=4) nd rfl (A6 rfl) (Bn A3)) (A7 (E5 Dd rfl (Y5 (by rfl) T.Iu (A1 (AM Dn (CG EH (by rfl) T.E0 Dt (A1 (AH (pv 0) rfl) A3)) Am) (A1 (Hf Hj Am) (A1 (Hf Hj Am) A3)))) (Ay (i:=5) nd rfl (A6 rfl)) (A7 (AW (i:=6) nd rfl (A6 rfl) (BL BM (AH (pv 0) rfl) (pv 5) (λ_ _=>rfl))) (A7 (Df (Fu Fd Gv Hk IB (pv 4) (A1 (PE.or (PE.or (PE.or (Bb (aoU T) T.Pw T.an0 hr AD (pv 6) (A1 (BL BM (pv 1) (pv 5) (λ_ _=>rfl)) (A1 (pv 3) A3))) (Bb (xM T) T.Zf T.amX hr AD (pv 6) (A1 (BL BM (pv 1) (pv 5) (λ_ _=>rfl)) (A1 (pv 3) A3)))) (Bb (xM T) T.MO T.anC hr AD (pv 6) (A1 (BL BM (pv 1) (pv 5) (λ_ _=>rfl)) (A1 (pv 3) A3)))) (Bb (anG T) T.Ew T.amu hr AD (pv 6) (A1 (BL BM (pv 1) (pv 5) (λ_ _=>rfl)) (A1 (pv 3) A3)))) A3))) (AE (AW (i:=3) nd rfl (A6 rfl) (PE.or (PE.or (PE.or (Bb (aoR T) T.Pw T.amy hr AD (pv 6) (A1 (BL BM (AH (pv 0) rfl) (pv 5) (λ_ _=>rfl)) (A1 (BL BM (pv 1) (pv 5) (λ_ _=>rfl)) (A1 (pv 3) A3)))) (Bb (aol T) T.Zf T.amV hr AD (pv 6) (A1 (BL BM (AH (pv 0) rfl) (pv 5) (λ_ _=>rfl)) (A1 (BL BM (pv 1) (pv 5) (λ_ _=>rfl)) (A1 (pv 3) A3))))) (Bb (aog T) T.MO T.anA hr AD (pv 6) (A1 (BL BM (AH (pv 0) rfl) (pv 5) (λ_ _=>rfl)) (A1 (BL BM (pv 1) (pv 5) (λ_ _=>rfl)) (A1 (pv 3) A3))))) (Bb (anF T) T.Ew T.amt hr AD (pv 6) (A1 (BL BM (AH (pv 0) rfl) (pv 5) (λ_ _=>rfl)) (A1 (BL BM (pv 1) (pv 5) (λ_ _=>rfl)) (A1 (pv 3) A3)))))))))) (AE (Aa (yD (pv 4) (Hf Hj Am))))))).Ak,?_⟩;lk;refine⟨by decide,λc nc=>?_⟩;have s1:=A2.one (o:=.lst []) nc;have BS:=s1 _ _ hp;repeat (simp only[Ea T BS,Ee T BS,Eh T BS,Ej T BS,Eg T BS,Ei T BS];lk)
 have v8:n.plan.layers.length=vs.length:=al.length;have EZ:=O.EZ;refine⟨_,A6 (A4.of (s1 _ _ hl)),vs.length,?_,?_⟩
 .have:=S7.neg (i:=(vs.length:Int)-1) (j:= -1) (by lia) (by lia) (by decide) (by decide);rw[show((vs.length:Int)-1- -1).toNat=vs.length from by lia]at this;exact this
 refine MR (H0:=H) (its:=A8 vs.length) XC (λk σ H'=>A2 H H'/\k<=vs.length/\∃gv o5 o6 acc g ds,σ=[some (.ref p),some (.ref ps),some p2,some gv,some (.ref c),o5,o6]/\H' c=some (.lst ds)/\AX (Aw H' [c]) ds (acc.reverse.map Nv)/\acc.length=k/\AL (Aw H' [c]) gv (Nv g)/\g.length=AK (Qh n.plan.layers n.plan.last (vs.length-k))/\(∀v∈g,AI v)/\Fj (((n.plan.layers.zip n.w).zip xs).drop (vs.length-k)) g0=some (acc,g)) ?_ (λ_ _ _ h=>h.1) ?_ ?_
 .obtain⟨b,rfl,hb⟩:=W9;refine⟨s1,Er _,.ref b,none,none,[],g0,[],rfl,AB,trivial,rfl,⟨b,rfl,EJ (s1 _ _ hb) (by rw[C5];exact Dm hb nc)⟩,?_,fg,?_⟩
  .rw[h9];unfold Qh;rw[aen,U7 (by lia)];rfl
  .rw[adj (by rw[Br,Br];lia)];rfl
 .intro k it σ H2 H3 hit AG s3;w_up;obtain⟨s2,hk,gw,o5,o6,acc,g,ds,rfl,hc,Hd,SS,wU,MB,O5,B9⟩:=AG;obtain⟨IM,rfl⟩:=Gu.mp hit;fin2;rw[BJ]at IM;rw[FC];generalize hi:vs.length-1-k=i at*;have ake:vs.length-k=i+1:=by lia
  have alB:((vs.length:Int)-1+(k:Nat)*(-1))=((i:Nat):Int):=by lia
  rw[alB];rw[ake]at MB B9;have LO:i<n.plan.layers.length:=by lia
  have DZ:=vG.length;have Sj:=O.w.len.length;w_up;obtain⟨⟨sz,lz⟩,hz⟩:∃z,n.plan.layers[i]? =some z:=⟨_,E8 LO⟩;obtain⟨lv,i7,LA⟩:=al.get' i hz;obtain⟨r0,CC,GG⟩:=O.w.len.get' i hz;obtain⟨x0,Qz,NG⟩:=vG.get' i hz;obtain⟨wv,Ou,WA⟩:=AX.get' ws _ i (Nv r0) lo (by rw[D0,CC];rfl);obtain⟨xv,Ov,XA⟩:=AX.get' sv _ i (Nv x0) ls (by rw[D0,nL (by lia),Qz];rfl);obtain⟨gd,ha⟩:=O.chain.at i _ hz;fin2;simp only at LA GG NG gd ha;have LH:=O.w.fin r0 (DS CC);have Q5:=ajw x0 (DS Qz);have C7:=s2.trans s3;have hzs:((n.plan.layers.zip n.w).zip xs).drop i=(((sz,lz),r0),x0)::((n.plan.layers.zip n.w).zip xs).drop (i+1):=by
   rw[YQ (by rw[Br,Br];lia)];congr 1;have:((n.plan.layers.zip n.w).zip xs)[i]? =some (((sz,lz),r0),x0):=by
    rw[Kl,Kl];exact⟨⟨hz,CC⟩,Qz⟩
   rw[E8 (by rw[Br,Br];lia)]at this;exact GW this
  have jV:Fj (((n.plan.layers.zip n.w).zip xs).drop i) g0=(F8 sz lz x0 g).bind λA=>(H_ sz lz r0 x0 g).map λB=>(A::acc,B):=by
   rw[hzs,Zz,B9,Aq];simp only;rw[pk NG (λo e=>by
    rw[e]at ha;have ha:some (o,1,1)=some (Qh n.plan.layers n.plan.last (i+1)):=ha;rw[MB,<-GW ha];show o*1*1=o;lia)]
   cases F8 sz lz x0 g with
   |none=>rfl
   |some A=>
    rw[Aq,Aq,RP];rfl
  have tF:Fj (((n.plan.layers.zip n.w).zip xs).drop i) g0=none->∀H4,A2 H H4->E (.ref a.DC) none H4:=by
   intro e H4 s4;have e':Fj ((n.plan.layers.zip n.w).zip xs) g0=none:=by
    rw[<-mr i ((n.plan.layers.zip n.w).zip xs),pq,e];rfl
   rw[e']at q;exact q H4 s4
  have Ek:=s3 _ _ hc;have Av:=C7 _ _ hp;lk;repeat (simp only[Ea T Av,Ee T Av,Eh T Av,Ej T Av,Eg T Av,Ei T Av];lk)
  refine⟨_,lv,A4.of (C7 _ _ hl),by rw[Cj];exact i7,?_⟩;lk;refine⟨A6 ⟨rfl,_,A4.of Ek⟩,?_⟩;have ans:∀{Q':VK},(∀A,F8 sz lz x0 g=some A->∀b H4,A2 H3 H4->H3 b=none->H4 b=some (.lst (Nv A))->Q' (.ref b) H4)->EF a (F8 sz lz x0 g) H3 Q' E:=by
   intro Q' h;cases ey:F8 sz lz x0 g with
   |none=>exact λH4 s4=>tF (by rw[jV,ey];rfl) H4 (C7.trans s4)
   |some y'=>exact λb H4 s4 nb hb=>h y' ey b H4 s4 nb hb
  have Zw:∀{Q':VK}{H5:Hp},A2 H H5->(∀B,H_ sz lz r0 x0 g=some B->∀d H6,A2 H5 H6->H5 d=none->H6 d=some (.lst (Nv B))->Q' (.ref d) H6)->EF a (H_ sz lz r0 x0 g) H5 Q' E:=by
   intro Q' H5 s5 h;cases ey:H_ sz lz r0 x0 g with
   |none=>exact λH4 s4=>tF (by rw[jV,ey];cases F8 sz lz x0 g<;>rfl) H4 (s5.trans s4)
   |some y'=>exact λb H4 s4 nb hb=>h y' ey b H4 s4 nb hb
  have wV:=wU.mono (F6 s3);have wW:=wV.mono E7;have dl:ds.length<Al:=J8 (by have:=Hd.length;rw[AV,RK]at this;lia);have s5:∀{H4:Hp}{b:A0},A2 H3 H4->A2 H (upd H4 c (.lst (ds++[.ref b]))):=λs4=>(C7.trans s4).own nc;have l5:∀{H4:Hp}{b:A0},A2 H3 H4->AL (upd H4 c (.lst (ds++[.ref b]))) gw (Nv g):=λ{H4 b}s4=>by
   have:=wV.mono (F6 s4);rw[<-GH (o:=.lst (ds++[.ref b])) (C5.mpr rfl)]at this;exact this.mono E7
  have fin:∀A,F8 sz lz x0 g=some A->∀b H4,A2 H3 H4->H3 b=none->H4 b=some (.lst (Nv A))->∀B,H_ sz lz r0 x0 g=some B->∀d H6,A2 (upd H4 c (.lst (ds++[.ref b]))) H6->upd H4 c (.lst (ds++[.ref b])) d=none->H6 d=some (.lst (Nv B))->
   A2 H H6/\k+1<=vs.length/\∃gv o5 o6 acc g ds,[some (.ref p),some (.ref ps),some p2,some (.ref d),some (.ref c),some (.int ((i:Nat):Int)),some lv]=[some (.ref p),some (.ref ps),some p2,some gv,some (.ref c),o5,o6]/\H6 c=some (.lst ds)/\AX (Aw H6 [c]) ds (acc.reverse.map Nv)/\acc.length=k+1/\AL (Aw H6 [c]) gv (Nv g)/\g.length=AK (Qh n.plan.layers n.plan.last (vs.length-(k+1)))/\(∀v∈g,AI v)/\Fj (((n.plan.layers.zip n.w).zip xs).drop (vs.length-(k+1))) g0=some (acc,g):=by
   intro A eA b H4 s4 nb hb B eB d H6 s6 Tq hd;have bc:b≠c:=λe=>by rw[e,Ek]at nb;cases nb
   have dc:d≠c:=λe=>by rw[e,AB]at Tq;cases Tq
   obtain⟨g1,g2⟩:=tR ha NG MB O5 eB;have s_:vs.length-(k+1)=i:=by lia
   refine⟨(s5 s4).trans s6,by lia,.ref d,_,_,A::acc,B,ds++[.ref b],rfl,s6 _ _ AB,?_,by rw[B4,SS],⟨d,rfl,EJ hd (by rw[C5];exact dc)⟩,?_,g2,?_⟩
   .rw[PH,E9];refine AX.snoc (Hd.mono ?_) ⟨b,rfl,EJ (s6 _ _ (by rw[AY bc];exact hb)) (by rw[C5];exact bc)⟩;have:=F6 (ds:=[c]) s6;rw[GH (C5.mpr rfl)]at this;exact(F6 (s3.trans s4)).trans this
   .rw[s_,g1];unfold Qh;rw[hz];rfl
   .rw[s_,jV,eA,eB];rfl
  cases lz with
  |dense o'=>
   w_up;obtain⟨py,dy,gy,my,rfl,DF,g1,g2⟩:=id LA;fin2;refine A6 (A6 (A6 ⟨py,dy,_,rfl,C7 _ _ DF,by kernel_rfl,_,xv,A4.of (C7 _ _ hs),by rw[Cj];exact Ov,sz,_,x0,g,_,⟨o',rfl⟩,LA.mono C7,gd,XA.mono C7,NG,wW,ha,MB,Q5,O5,ans λA eA b H4 s4 nb hb=>?_⟩));exact⟨ds,s4 _ _ Ek,dl,A6 (A6 (A6 ⟨py,dy,_,rfl,s5 s4 _ _ DF,by kernel_rfl,p,a.Net,dx,_,_,rfl,s5 s4 _ _ hp,T.D3,T.OT,V5 ..,_,wv,A4.of (s5 s4 _ _ ho),by rw[Cj];exact Ou,_,xv,A4.of (s5 s4 _ _ hs),by rw[Cj];exact Ov,sz,_,r0,x0,g,_,⟨o',rfl⟩,LA.mono (s5 s4),gd,WA.mono (s5 s4),GG,XA.mono (s5 s4),NG,l5 s4,ha,MB,LH,Q5,O5,Zw (s5 s4) (fin A eA b H4 s4 nb hb)⟩))⟩
  |relu=>
   w_up;obtain⟨py,dy,gy,rfl,DF,g1⟩:=id LA;fin2;refine A6 (A6 (C1 ⟨py,dy,_,rfl,C7 _ _ DF,by kernel_rfl,_,xv,A4.of (C7 _ _ hs),by rw[Cj];exact Ov,λb H4 s4 nb hb=>?_⟩));exact⟨ds,s4 _ _ Ek,dl,A6 (A6 (C1 ⟨py,dy,_,rfl,s5 s4 _ _ DF,by kernel_rfl,p,a.Net,dx,_,_,rfl,s5 s4 _ _ hp,T.D3,T.OT,V5 ..,_,wv,A4.of (s5 s4 _ _ ho),by rw[Cj];exact Ou,_,xv,A4.of (s5 s4 _ _ hs),by rw[Cj];exact Ov,sz,_,r0,x0,g,_,rfl,LA.mono (s5 s4),gd,WA.mono (s5 s4),GG,XA.mono (s5 s4),NG,l5 s4,ha,MB,LH,Q5,O5,Zw (s5 s4) (fin [] rfl b H4 s4 nb hb)⟩))⟩
  |pool=>
   w_up;obtain⟨py,dy,gy,my,rfl,DF,g1,g2⟩:=id LA;fin2;refine A6 (C1 ⟨py,dy,_,rfl,C7 _ _ DF,by kernel_rfl,_,xv,A4.of (C7 _ _ hs),by rw[Cj];exact Ov,λb H4 s4 nb hb=>?_⟩);exact⟨ds,s4 _ _ Ek,dl,A6 (C1 ⟨py,dy,_,rfl,s5 s4 _ _ DF,by kernel_rfl,p,a.Net,dx,_,_,rfl,s5 s4 _ _ hp,T.D3,T.OT,V5 ..,_,wv,A4.of (s5 s4 _ _ ho),by rw[Cj];exact Ou,_,xv,A4.of (s5 s4 _ _ hs),by rw[Cj];exact Ov,sz,_,r0,x0,g,_,rfl,LA.mono (s5 s4),gd,WA.mono (s5 s4),GG,XA.mono (s5 s4),NG,l5 s4,ha,MB,LH,Q5,O5,Zw (s5 s4) (fin [] rfl b H4 s4 nb hb)⟩)⟩
  |conv o' k'=>
   have GC:=tT gd;have ar:g.length=o'*(sz.2.1*sz.2.2):=by
    rw[MB];rw[Bv,if_pos (by rcases GC.hk with h|h|h<;>rw[h])]at ha;rw[<-GW ha];show o'*sz.2.1*sz.2.2=_;rw[B6]
   have ur:r0.length=o'*(sz.1*(k'*k'))+o':=by rw[GG];show o'*sz.1*k'*k'+o'=_;rw[B6 (o'*sz.1),B6 o']
   w_up;obtain⟨py,dy,gy,my,uy,rfl,DF,g1,g2,g3⟩:=id LA;fin2;refine C1 ⟨py,dy,_,rfl,C7 _ _ DF,by kernel_rfl,_,xv,A4.of (C7 _ _ hs),by rw[Cj];exact Ov,sz,o',k',x0,g,⟨py,dy,gy,my,uy,_,rfl,C7 _ _ DF,g1.mono C7,g2.mono C7,g3.mono C7⟩,GC,XA.mono C7,NG,wW,ar,Q5,O5,?_⟩;rw[<-anx GC NG ar];refine ans λA eA b H4 s4 nb hb=>?_;exact⟨ds,s4 _ _ Ek,dl,C1 ⟨py,dy,_,rfl,s5 s4 _ _ DF,by kernel_rfl,p,a.Net,dx,_,_,rfl,s5 s4 _ _ hp,T.D3,T.OT,V5 ..,_,wv,A4.of (s5 s4 _ _ ho),by rw[Cj];exact Ou,_,xv,A4.of (s5 s4 _ _ hs),by rw[Cj];exact Ov,sz,o',k',r0,g,LA.mono (s5 s4),GC,WA.mono (s5 s4),ur,l5 s4,ar,LH,O5,by rw[<-ajC (x:=x0) GC ur ar];exact Zw (s5 s4) (fin A eA b H4 s4 nb hb)⟩⟩
 .intro σ H2 AG;w_up;obtain⟨s2,hk,gw,o5,o6,acc,g,ds,rfl,hc,Hd,SS,wU,MB,O5,B9⟩:=AG;fin2;rw[BJ,RX,Nh]at B9;lk;rw[B9]at q;refine⟨ds,A4.of hc,λd L7=>q d _ (s2.new L7) (s2.free L7) ⟨_,AB,?_⟩⟩;have:=(Hd.mono E7).rev;rw[<-aea,List.reverse_reverse]at this;exact this.mono (A2.one L7)
def Ans.bind(q:Ans a (o.bind f) H Q E)(h:∀z,o=some z->Ans a (f z) H Q E->Q' (.int ((z:Nat):Int)) H):Ans a o H Q' E:=by
 cases o with
 |none=>exact q
 |some z=>exact h z rfl q
def EF.one(q:EF a (o.bind f) H Q E)(h:∀z,o=some z->EF a (f z) H Q E->Q' (.int ((z:Nat):Int)) H):Ans a o H Q' E:=by
 cases o with
 |none=>exact q H (A2.refl H)
 |some z=>exact h z rfl q
def Uu(w m s rate eps:Nat):Option Nat:=(BC rate m).bind λu=>(Ju s).bind λr=>(DJ r eps).bind λr=>(L0 u r).bind λu=>Ia w u
def at4(a:Ad):Sp:=Qi λv1 v2 v3 v4 v5 H Q E=>Es λ(w m s rate eps:Nat)=>Cn (v1=.int (w:Int)) (v2=.int (m:Int)) (v3=.int (s:Int)) (v4=.int (rate:Int)) (v5=.int (eps:Int)) (AI w) (AI m) (Fm (AI s) (AI rate) (AI eps) (Ans a (Uu w m s rate eps) H Q E))
def ao7(T:Txt K mg a):A_ P w K mg base 5 a.eased ["w","m","s","rate","eps"] (at4 a):=by
 refine T.aik.Xs as9 λAF A outer s H p0 p1 p2 p3 p4 Q E hr h nd=>?_;obtain⟨w0,m,s0,rate,eps,rfl,rfl,rfl,rfl,rfl,hw,hm,hs,CC,he,q⟩:=h;refine⟨_,(AE (Aa (Ag (Xy T) T.aR hr AD (A1 (pv 0) (A1 (Ag (aoB T) T.ajV hr AD (A1 (Ag (OV T) T.O9 hr AD (A1 (pv 3) (A1 (pv 1) A3))) (A1 (Ag (TN T) T.SO hr AD (A1 (Ag (aoH T) T.aja hr AD (A1 (pv 2) A3)) (A1 (pv 4) A3))) A3))) A3))))).Ak,?_⟩;unfold Uu at q;lk;refine⟨CC.1,hm.1,q.bind λu eu q=>?_⟩;lk;refine⟨hs.1,q.bind λr er q=>?_⟩;lk;refine⟨(ar1 hs er).1,he.1,q.bind λr2 agP q=>?_⟩;lk;refine⟨(OS eu).1,(MM agP).1,q.bind λu2 agQ q=>?_⟩;lk;exact⟨hw.1,agc agQ,q⟩
def QP(b:Nat)(xs ys:List Nat):Option (List Nat):=(Ia ED b).bind λr=>(xs.zip ys).mapM λp=>(BC b p.1).bind λu=>(BC r p.2).bind λv=>DJ u v
def atF(a:Ad):Sp:=D9 λv1 v2 v3 H Q E=>Eb λ(b:Nat)(xs ys:List Nat)=>Cn (v1=.int (b:Int)) (AL H v2 (Nv xs)) (AL H v3 (Nv ys)) (AI b) ((∀x∈xs,AI x)) ((∀x∈ys,AI x)) (xs.length<=2^17) (EF a (QP b xs ys) H Q E)
def yZ(T:Txt K mg a):A_ P w K mg base 5 a.mixed ["b","before","added"] (atF a):=by
 refine T.aiq.Dc arb λAF A outer s H p0 p1 p2 Q E hr h nd=>?_;obtain⟨b,xs,ys,rfl,⟨b1,rfl,h1⟩,⟨b2,rfl,h2⟩,hb,fx,fy,hl,q⟩:=h;refine⟨_,(A7 (AW (i:=3) nd rfl (C1 rfl) (Ag (Xy T) T.aR hr AD (A1 (Au T.ONE) (A1 (pv 0) A3)))) (AE (Aa (FZ (own:=[("old",4),("new",5)]) rfl rfl rfl CD rfl nd (Mn (by rfl) T.LZ (A1 (pv 1) (A1 (pv 2) A3))) (Ck (by kernel_rfl)) (λ_ _ _ _ _=>(TZ (K:=K) (n:=2) rfl rfl (Cs (Ay (i:=4) nd rfl (A6 rfl)) (Cs (Ay (i:=5) nd rfl (A6 rfl)) Hg)))) (λ_ _ _ _ _=>Cg) (λ_ _ _ _ _ _ _ An=>(Ag (TN T) T.SO hr An (A1 (Ag (OV T) T.O9 hr An (A1 (pv 0) (A1 (pv 4) A3))) (A1 (Ag (OV T) T.O9 hr An (A1 (pv 3) (A1 (pv 5) A3))) A3)))))))).Ak,?_⟩;unfold QP at q;refine cut λU hU=>?_;lk;refine⟨1065353216,b,rfl,rfl,by decide,hb,q.one λr er q=>?_⟩;subst hU;lk;refine⟨_,_,A4.of h1,A4.of h2,?_⟩;refine Oz (its:=xs.zip ys) (λp=>(BC b p.1).bind λu=>(BC r p.2).bind λv=>DJ u v) (λH'=>E (.ref a.DC) none H') (Mb _ _ (A4.of h1) (A4.of h2)) (λ_ _=>rfl) (B_ (by rw[Br];lia)) (λit hi HH sH Q' hq he=>?_) (λe HH sH=>?_) λzs e d H3 s3 n3 hd=>?_
 .obtain⟨i1,i2⟩:=GX hi;have q':Ans a ((BC b it.1).bind λu=>(BC r it.2).bind λv=>DJ u v) HH Q' E:=by
   cases e:(BC b it.1).bind λu=>(BC r it.2).bind λv=>DJ u v with
   |none=>exact he e _ (A2.refl _)
   |some z=>exact hq z e _ (A2.refl _)
  lk;refine⟨hb.1,(fx _ i1).1,q'.bind λu eu q'=>?_⟩;lk;refine⟨(Wz er).1,(fy _ i2).1,q'.bind λv ev q'=>?_⟩;lk;exact⟨(OS eu).1,(OS ev).1,q'⟩
 .rw[e]at q;exact q HH sH
 .rw[e]at q;exact q d H3 s3 n3 hd
def apG(x y:V):AS "own_g" y (AS "error" x [])=Q3 x y:=by kernel_rfl
def AX.less(hp:H p=some (.ins C dx [])):∀{vs:List V}{ls:List (List V)},AX H vs ls->AX (C8 H p) vs ls
 |[],[],_=>trivial
 |_::_,_::_,h=>⟨let⟨b,e,hb⟩:=h.1;⟨b,e,j6 hp hb⟩,AX.less hp h.2⟩
def Bw.less(hp:H p=some (.ins C dx []))(h:Bw H d rows):Bw (C8 H p) d rows:=by
 obtain⟨vs,h1,h2⟩:=h;exact⟨vs,j6 hp h1,h2.less hp⟩
def Dl.less(hp:H p=some (.ins C dx []))(h:Dl a H x n):Dl a (C8 H p) x n:=by
 obtain⟨q,dq,g,l,o,v,m,s,rfl,N⟩:=h;exact⟨q,dq,g,l,o,v,m,s,rfl,Sr hp N.at_ (by unfold Cw;simp),N.gv.less hp,N.ly.less hp,N.ow.less hp,N.vv.less hp,N.mm.less hp,N.ss.less hp,N.nd⟩
def ar4(d:List Nat):KY [0] d d=(Bf 0 (d.map λx=>(x,x))).map λz=>[z]:=by
 have e:(d.zip d)=d.map λx=>(x,x):=by
  induction d with
  |nil=>rfl
  |cons x d ih=>rw[EA,BW,ih]
 unfold KY;rw[ni,oS,Cm,aey];simp only[Du,Nh,Z1];rw[e];cases Bf 0 (d.map λx=>(x,x))<;>rfl
def FL.alr(h:FL s zs u):0<AK s/\AK s<=4096->0<AK u/\AK u<=4096:=by
 induction h with
 |nil=>exact id
 |cons g ha _ ih=>
  intro _;obtain⟨t',uw,h⟩:=g.t;rw[ha]at uw;cases uw;exact ih h
def Fo.last(O:Fo n):0<AK n.plan.last/\AK n.plan.last<=4096:=O.chain.alr O.first
def atE(a:Ad):Sp:=Hi λv1 v2 v3 v4 H Q E=>Es λ(p dx:A0)(n:CI)(x t:List Nat)=>Cn (v1=.ref p) (H p=some (.ins a.G4 dx [])) (Dl a H v2 n) (Fo n) (AL H v3 (Nv x)) (x.length=AK n.plan.first) ((∀y∈x,AI y)) (Fm (AL H v4 (Nv t)) (t.length=AK n.plan.last) ((∀y∈t,AI y)) (match UW n x t with
 |some r=>∀og H',Ac p H H'->H' p=some (.ins a.G4 dx (Q3 (.int ((r.1:Nat):Int)) (.ref og)))->Bw H' og r.2->Q .Ah H'
 |none=>∀H',Ac p H H'->E (.ref a.DC) none H'))
def aoc(T:Txt K mg a):A_ P w K mg base 10 a.dM ["self","net","numbers","wanted"] (atE a):=by
 refine T.aiA.J7 asP λAF A outer s H p0 p1 p2 p3 Q E hr h nd=>?_;obtain⟨p,dx,n,x,t,rfl,hp,NA,O,hx,DZ,fx,⟨bt,rfl,ht⟩,htl,ft,q⟩:=h;obtain⟨pn,dn,gv,l,o,v,m,ss,rfl,N⟩:=id NA;refine⟨_,(A7 (AW (i:=4) nd rfl (A6 rfl) (Bb (yV T) T.D3 T.vc hr AD (pv 1) (A1 (pv 2) A3))) (A7 (Y8 (i:=5) (own:=[("out",6),("aim",7)]) rfl rfl rfl CD rfl nd rfl rfl (T8 rfl rfl rfl (by kernel_rfl)) (Mn (by rfl) T.LZ (A1 (BL BM (pv 4) (Hf Hj Am) (λ_ _=>rfl)) (A1 (pv 3) A3))) (Ck (by kernel_rfl)) (λ_ _ _ _ _=>(TZ (K:=K) (n:=2) rfl rfl (Cs (Ay (i:=6) nd rfl (A6 rfl)) (Cs (Ay (i:=7) nd rfl (A6 rfl)) Hg)))) (λ_ _ _ _ _=>Cg) (λ_ _ _ _ _ _ _ An=>(Ag (Xy T) T.aR hr An (A1 (pv 6) (A1 (pv 7) A3))))) (A7 (C9 (pv 0) (BL BM (Ag (k_ T) T.iA hr AD (A1 (Bn (A1 (Au T.KD) A3)) (A1 (pv 5) (A1 (pv 5) A3)))) Am (λ_ _=>rfl)) rfl) (AE (C9 (pv 0) (Ag (aoJ T) T.ajc hr AD (A1 (pv 1) (A1 (pv 4) (A1 (FZ (own:=[("each",8)]) rfl rfl rfl CD rfl nd (De (pv 5)) (Ck (by kernel_rfl)) (λ_ _ _ _ _=>(Ay (i:=8) nd rfl (A6 rfl))) (λ_ _ _ _ _=>Cg) (λ_ _ _ _ _ _ _ An=>(Ag (TN T) T.SO hr An (A1 (pv 8) (A1 (pv 8) A3))))) A3)))) rfl))))).Ak,?_⟩;have Oq:=N.at_;have NL:=NA.less hp;unfold UW at q;refine cut λU hU=>?_;lk;refine⟨pn,dn,_,rfl,Oq,by kernel_rfl,n,x,NA,O,hx,DZ,fx,?_⟩;unfold Og;cases ef:JC (n.plan.layers.zip n.w) x with
 |none=>
  rw[ef]at q;exact λH' s'=>q H' ((Ac.refl p H).same s')
 |some f=>
 rw[ef,Aq]at q;w_up;obtain⟨q1,q2,q3,q4⟩:=bJ O.chain O.w DZ fx ef;fin2;have EZ:=O.EZ;intro ps H1 s1 nps rs;subst hU;refine cut λU hU=>?_;lk;w_up;obtain⟨sv,Vh,NR⟩:=id rs;have hlen:=NR.length;rw[AV,Bo,Km]at hlen;obtain⟨yv,Ow,⟨yb,rfl,cf⟩⟩:=AX.get' sv _ f.1.length (Nv f.2) NR (by rw[D0,U2 (Az _),RX];rfl);fin2;refine⟨_,.ref yb,A4.of Vh,?_,?_⟩
 .unfold FP Gr;rw[if_neg (by decide),if_pos (by lia),show(-1+(sv.length:Int)).toNat=f.1.length from by lia];exact Ow
 refine⟨_,_,A4.of cf,A4.of (s1 _ _ ht),?_⟩;have c4:AK n.plan.last<=2^16:=Ao O.last.2 (by decide);refine Oz (its:=f.2.zip t) (λp=>Ia p.1 p.2) (λH'=>E (.ref a.DC) none H') (Mb _ _ (A4.of cf) (A4.of (s1 _ _ ht))) (λ_ _=>rfl) (B_ (by rw[Br];lia)) (λit hi HH sH Q' hq he=>?_) (λe HH sH=>?_) λd ed dd H2 s2 ndd ak=>?_
 .obtain⟨i1,i2⟩:=GX hi;lk;refine⟨(q4 _ i1).1,ft _ i2,?_⟩;cases em:Ia it.1 it.2 with
  |none=>exact he em _ (A2.refl _)
  |some z=>exact hq z em _ (A2.refl _)
 .rw[e]at q;exact q HH ((Ac.refl p H).same (s1.trans sH))
 rw[ed,Aq]at q;have fd:∀y∈d,AI y:=Em ed λ_ _ y e=>Wz e;have dl:d.length=AK n.plan.last:=by rw[C3 ed,Br];lia
 have Fb:=s1.trans s2;subst hU;refine cut λU hU=>?_;lk;refine⟨(by show 1<=Al;decide),λb0 kK=>⟨[0],d,d,⟨b0,rfl,AB⟩,⟨dd,rfl,A2.one kK _ _ ak⟩,⟨dd,rfl,A2.one kK _ _ ak⟩,by decide,by lia,by lia,λy hy=>by rw[C5.mp hy];exact HY,fd,fd,?_⟩⟩;have s3:=A2.one (o:=.lst [V.int 0]) kK;rw[ar4];cases el:Bf 0 (d.map λx=>(x,x))with
 |none=>
  rw[el]at q;exact λH' s'=>q H' ((Ac.refl p H).same ((Fb.trans s3).trans s'))
 |some QL=>
 rw[el,Aq]at q;intro b4 H4 s4 nb4 al2;have Of:=(Fb.trans s3).trans s4;refine⟨_,_,A4.of al2,rfl,p,_,_,_,rfl,Of _ _ hp,T.Ze,T.xP,by decide,?_⟩;have k4:Ac p H4 (upd H4 p (.ins a.G4 dx (AS "error" (.int ((QL:Nat):Int)) []))):=(Ac.refl p H4).upd;have k0:Ac p H (upd H4 p (.ins a.G4 dx (AS "error" (.int ((QL:Nat):Int)) []))):=((Ac.refl p H).same Of).upd;have ao:AL (upd H4 p (.ins a.G4 dx (AS "error" (.int ((QL:Nat):Int)) []))) (.ref dd) (Nv d):=AL.keep ⟨dd,rfl,(s3.trans s4) _ _ ak⟩ (Of _ _ hp) k4;have rs5:=(rs.mono ((s2.trans s3).trans s4)).keep (Of _ _ hp) k4;have ag9:=NL.mono (Jc k0);have Cd:upd H4 p (.ins a.G4 dx (AS "error" (.int ((QL:Nat):Int)) [])) p=some (.ins a.G4 dx (AS "error" (.int ((QL:Nat):Int)) [])):=AB;generalize upd H4 p (.ins a.G4 dx (AS "error" (.int ((QL:Nat):Int)) []))=H5 at*;w_up;obtain⟨Us,e',ao⟩:=ao;fin2;cases e';subst hU;lk;refine⟨⟨_,A4.of ao⟩,Oz (its:=d) (λx=>DJ x x) (λH'=>E (.ref a.DC) none H') (IJ _ (A4.of ao)) (λ_ _=>rfl) (B_ (by lia)) (λit hi HH sH Q' hq he=>?_) (λe HH sH=>?_) λg eg gg H6 s6 ngg akF=>?_⟩
 .lk;refine⟨(fd _ hi).1,(fd _ hi).1,?_⟩;cases em:DJ it it with
  |none=>exact he em _ (A2.refl _)
  |some z=>exact hq z em _ (A2.refl _)
 .rw[e]at q;exact q HH (k0.same sH)
 rw[eg,Aq]at q;refine⟨n,f.1,f.2,g,ps,ag9.mono s6,O,rfl,rs5.mono s6,q1,q2,⟨gg,rfl,akF⟩,by rw[C3 eg,dl],Em eg λ_ _ y e=>MM e,?_⟩;cases eb:Fj ((n.plan.layers.zip n.w).zip f.1) g with
 |none=>
  rw[eb]at q;exact λH' s'=>q H' ((k0.same s6).same s')
 |some B=>
  rw[eb]at q;intro og H7 s7 nog ro;have JY:=s7 _ _ (s6 _ _ Cd);refine⟨p,_,_,_,rfl,JY,T.Ze,T.xQ,(by show 1<1000;decide),?_⟩;rw[apG];exact q og _ (((k0.same s6).same s7).upd) AB (ro.keep JY ((Ac.refl p H7).upd))
variable{P:Bs}{w:Bg}{K:Ae}{mg:Str->Option A5}{base:B5}{a:Ad}
def vF(rate mu:Nat)(p:Nat×Nat):Option Nat:=(BC mu p.1).bind λu=>(BC rate p.2).bind λb=>Ia u b
def KG(p:Nat×Nat):Option Nat:=DJ p.1 p.2
def ap8(rate mu w v g:Nat):UX rate mu w v g=(vF rate mu (v,g)).bind λv'=>(KG (w,v')).map λw'=>(w',v'):=by
 unfold UX vF KG;cases BC mu v with
 |none=>rfl
 |some x=>
  simp only[Aq];cases BC rate g with
  |none=>rfl
  |some y=>rfl
def jv(rate mu:Nat):∀(w v g:List Nat),w.length=v.length->g.length=v.length->
 ZZ (UX rate mu) w v g=((v.zip g).mapM (vF rate mu)).bind λv'=>((w.zip v').mapM KG).map λw'=>(w',v')
 |[],[],[],_,_=>rfl
 |x::w,y::v,z::g,h1,h2=>by
  have ih:=jv rate mu w v g (by simpa using h1) (by simpa using h2);unfold ZZ at ih⊢;rw[EA,EA,Cm,Cm];simp only;rw[ap8];cases h:vF rate mu (y,z)with
  |none=>rfl
  |some y'=>
   simp only[Yf,Aq,Yq];cases hb:(v.zip g).mapM (vF rate mu)with
   |none=>
    rw[hb]at ih;simp only[Option.bind_none]at ih⊢;cases KG (x,y')with
    |none=>rfl
    |some x'=>
     simp only[Gy,Aq];rw[adk]at ih;rw[ih];rfl
   |some v'=>
    rw[hb]at ih;simp only[Aq]at ih⊢;rw[EA,Cm];cases KG (x,y')with
    |none=>rfl
    |some x'=>
     simp only[Gy,Aq,Yf,Yq];cases hc:(w.zip v').mapM KG with
     |none=>
      rw[hc]at ih;rw[oM,adk]at ih;rw[ih];rfl
     |some w'=>
      rw[hc,Gy,nG]at ih;obtain⟨l,e1,e2⟩:=ih;rw[e1];cases e2;rfl
 |[],_::_,_,h,_=>by simp at h
 |_::_,[],_,h,_=>by simp at h
 |_,[],_::_,_,h=>by simp at h
 |_,_::_,[],_,h=>by simp at h
abbrev W3:=EE×EE×EE
def Ji(rate mu:Nat)(p:W3):Option (EE×EE):=ZZ (UX rate mu) p.1 p.2.1 p.2.2
def k7(x0 x1 x2 x3 x4 x5 y:V):AS "v" y (Cw x0 x1 x2 x3 x4 x5)=Cw x0 x1 x2 y x4 x5:=by kernel_rfl
def Y9(x0 x1 x2 x3 x4 x5 y:V):AS "own" y (Cw x0 x1 x2 x3 x4 x5)=Cw x0 x1 y x3 x4 x5:=by kernel_rfl
def jy(x0 x1 x2 x3 x4 x5 y:V):AS "m" y (Cw x0 x1 x2 x3 x4 x5)=Cw x0 x1 x2 x3 y x5:=by kernel_rfl
def jz(x0 x1 x2 x3 x4 x5 y:V):AS "s" y (Cw x0 x1 x2 x3 x4 x5)=Cw x0 x1 x2 x3 x4 y:=by kernel_rfl
def Ts{H:Hp}{p dx b C' db:A0}(hp:H p=some (.ins a.Net dx (Cw x0 x1 x2 x3 x4 x5)))(hb:H b=some (.ins C' db fs))(hn:fs.lookup ("v":Str)=none):b≠p:=λz=>by
 rw[z,hp]at hb;injection hb with hb
 injection hb with _ _ hb
 rw[<-hb,rP]at hn;cases hn
def BB.Hc{H H':Hp}{p dx:A0}(hp:H p=some (.ins a.Net dx (Cw x0 x1 x2 x3 x4 x5)))(k:Ac p H H')(h:BB a H v s):BB a H' v s:=by
 obtain⟨b,db,rfl,hb⟩:=h;exact⟨b,db,rfl,k _ _ hb (Ts hp hb (by kernel_rfl))⟩
def C2.Hc{H H':Hp}{p dx:A0}(hp:H p=some (.ins a.Net dx (Cw x0 x1 x2 x3 x4 x5)))(k:Ac p H H')(h:C2 a H v s l):C2 a H' v s l:=by
 cases l with
 |dense o=>obtain⟨b,db,g,m,rfl,h1,h2,h3⟩:=h;exact⟨b,db,g,m,rfl,k _ _ h1 (Ts hp h1 (by kernel_rfl)),h2.Hc hp k,h3.Hc hp k⟩
 |relu=>obtain⟨b,db,g,rfl,h1,h2⟩:=h;exact⟨b,db,g,rfl,k _ _ h1 (Ts hp h1 (by kernel_rfl)),h2.Hc hp k⟩
 |pool=>obtain⟨b,db,g,m,rfl,h1,h2,h3⟩:=h;exact⟨b,db,g,m,rfl,k _ _ h1 (Ts hp h1 (by kernel_rfl)),h2.Hc hp k,h3.Hc hp k⟩
 |conv o k'=>obtain⟨b,db,g,m,u,rfl,h1,h2,h3,h4⟩:=h;exact⟨b,db,g,m,u,rfl,k _ _ h1 (Ts hp h1 (by kernel_rfl)),h2.Hc hp k,h3.Hc hp k,h4.Hc hp k⟩
def EO.Hc(hp:H p=some (.ins a.Net dx (Cw x0 x1 x2 x3 x4 x5)))(k:Ac p H H')(h:EO a H q zs):EO a H' q zs:=by
 obtain⟨vs,h1,h2⟩:=h;exact⟨vs,k _ _ h1 (λz=>by rw[z,hp]at h1;cases h1),BG.mono (λ_ _ e=>e.Hc hp k) h2⟩
def Bw.Sm(h:Bw H d rows):H d≠none:=λe=>by obtain⟨_,h,_⟩:=h;rw[e]at h;cases h
def EO.Sm(h:EO a H d zs):H d≠none:=λe=>by obtain⟨_,h,_⟩:=h;rw[e]at h;cases h
def aum(a:Ad):Sp:=D9 λv1 v2 v3 H Q E=>Et λ(n:CI)(p pl dl og:A0)(er:V)=>Eb λ(gs:List (List Nat))(rate mu:Nat)=>Cn (v1=.ref p) (Dl a H (.ref p) n) (Fo n) (v2=.ref pl) (H pl=some (.ins a.G4 dl (Q3 er (.ref og)))) (Bw H og gs) (Fits n.plan.layers gs) (Fm (AL H v3 (Nv [rate,mu])) (AI rate) (AI mu) (match(n.w.zip (n.v.zip gs)).mapM (Ji rate mu)with
 |some l=>∀H',Ac p H H'->Dl a H' (.ref p) {n with w:=l.map λy=>y.1,v:=l.map λy=>y.2}->Q .Ah H'
 |none=>∀H',A2 H H'->E (.ref a.DC) none H'))
def aoL(T:Txt K mg a):A_ P w K mg base 5 a.Xl ["net","lesson","rates"] (aum a):=by
 refine T.aiQ.Dc ata λAF A outer s H p0 p1 p2 Q E hr h nd=>?_;obtain⟨n,p,pl,dl,og,er,gs,rate,mu,rfl,NA,O,rfl,Ax,⟨K4,V_,log⟩,ft,⟨br,rfl,MV⟩,fE,aie,q⟩:=h;obtain⟨p',dx,gv,l,o,v,m,ss,e',N⟩:=id NA;refine⟨_,(A7 (AW (i:=3) nd rfl (C1 rfl) (BL BM (pv 2) Am (λ_ _=>rfl))) (A7 (AW (i:=4) nd rfl (C1 rfl) (BL BM (pv 2) Am (λ_ _=>rfl))) (A7 (AW (i:=5) nd rfl (A6 rfl) (Bn A3)) (A7 (AW (i:=6) nd rfl (A6 rfl) (Bn A3)) (A7 (E5 Dd rfl (WU (by rfl) T.VS (A1 (AH (pv 1) rfl) A3)) (Lg (n:=2) rfl (Cs (Ay (i:=7) nd rfl (A6 rfl)) (Cs (Ay (i:=8) nd rfl (A6 rfl)) Hg))) (A7 (Y8 (i:=9) (own:=[("v",10),("g",11)]) rfl rfl rfl CD rfl nd rfl rfl (T8 rfl rfl rfl (by kernel_rfl)) (Mn (by rfl) T.LZ (A1 (BL BM (AH (pv 0) rfl) (pv 7) (λ_ _=>rfl)) (A1 (pv 8) A3))) (Ck (by kernel_rfl)) (λ_ _ _ _ _=>(TZ (K:=K) (n:=2) rfl rfl (Cs (Ay (i:=10) nd rfl (A6 rfl)) (Cs (Ay (i:=11) nd rfl (A6 rfl)) Hg)))) (λ_ _ _ _ _=>Cg) (λ_ _ _ _ _ _ _ An=>(Ag (Xy T) T.aR hr An (A1 (Ag (OV T) T.O9 hr An (A1 (pv 4) (A1 (pv 10) A3))) (A1 (Ag (OV T) T.O9 hr An (A1 (pv 3) (A1 (pv 11) A3))) A3))))) (A7 (Df (Fu Fd Gv Hk IB (pv 5) (A1 (pv 9) A3))) (AE (Df (Fu Fd Gv Hk IB (pv 6) (A1 (FZ (own:=[("w",12),("v",10)]) rfl rfl rfl CD rfl nd (Mn (by rfl) T.LZ (A1 (BL BM (AH (pv 0) rfl) (pv 7) (λ_ _=>rfl)) (A1 (pv 9) A3))) (Ck (by kernel_rfl)) (λ_ _ _ _ _=>(TZ (K:=K) (n:=2) rfl rfl (Cs (Ay (i:=12) nd rfl (A6 rfl)) (Cs (Ay (i:=10) nd rfl (A6 rfl)) Hg)))) (λ_ _ _ _ _=>Cg) (λ_ _ _ _ _ _ _ An=>(Ag (TN T) T.SO hr An (A1 (pv 12) (A1 (pv 10) A3))))) A3))))))) (A7 (C9 (pv 0) (pv 5) rfl) (AE (C9 (pv 0) (pv 6) rfl)))))))).Ak,?_⟩;cases e';have hp:=N.at_;w_up;obtain⟨vs,hvv,lvv⟩:=N.vv;obtain⟨ws,ho,lo⟩:=N.ow;fin2;have EZ:=O.EZ;lk;refine⟨_,_,A4.of MV,rfl,?_⟩;lk;refine⟨_,_,A4.of MV,rfl,?_⟩;lk;refine⟨by decide,λc1 Mf=>?_⟩;lk;refine⟨by decide,λc2 K3=>?_⟩;have s0:=(A2.one (o:=.lst []) Mf).new (o:=.lst []) K3;have JR:c1≠c2:=λe=>by rw[<-e,AB]at K3;cases K3
 have QR:H c2=none:=by rw[AY JR.symm]at K3;exact K3
 rw[ql T (s0 _ _ Ax)];refine⟨_,A4.of (s0 _ _ V_),?_⟩;have gl:=log.length;rw[AV]at gl;have ajE:=ft.len.length;have wll:=O.w.len.length;have vll:=O.v.len.length;have LU:(n.w.zip (n.v.zip gs)).length=n.plan.layers.length:=by rw[Br,Br];lia
 refine MR (H0:=H) (its:=K4.zipIdx) (mZ (A4.of V_)) (λk σ H'=>A2 H H'/\Et λo7 o8 o9 dv dw ps=>ME (σ=[some (.ref p),some (.ref pl),some (.ref br),some (.int ((rate:Nat):Int)),some (.int ((mu:Nat):Int)),some (.ref c1),some (.ref c2),o7,o8,o9,none,none,none]) (H' c1=some (.lst dv)) (H' c2=some (.lst dw)) (AX (Aw H' [c1,c2]) dv ((ps.map Jw).map Nv)) (AX (Aw H' [c1,c2]) dw ((ps.map HN).map Nv)) (k<=K4.length) (((n.w.zip (n.v.zip gs)).take k).mapM (Ji rate mu)=some ps)) ?_ (λ_ _ _ h=>h.1) ?_ ?_
 .exact⟨s0,none,none,none,[],[],[],rfl,by rw[AY JR];exact AB,AB,trivial,trivial,Er _,rfl⟩
 .intro k it σ H2 H3 hit AG s3;w_up;obtain⟨s2,o7,o8,o9,dv,dw,ps,rfl,Gm,LK,bo,NQ,hk,B9⟩:=AG;have IM:k<K4.length:=by have:=(Gu.mp hit).1;rw[JB]at this;exact this
  obtain⟨iD,OF⟩:∃x,K4[k]? =some x:=⟨_,E8 IM⟩;fin2;have hV:it=(iD,k):=by rw[YJ,OF]at hit;simpa using hit.symm
  subst hV;have C7:=s2.trans s3;w_up;obtain⟨z,hz⟩:∃z,n.plan.layers[k]? =some z:=⟨_,E8 (by lia)⟩;obtain⟨GJ,Qw,alI⟩:=O.w.len.get' k hz;obtain⟨Mt,Ve,az4⟩:=O.v.len.get' k hz;obtain⟨Fv,Qv,alG⟩:=ft.len.get' k hz;obtain⟨wv,Ou,WA⟩:=AX.get' ws _ k (Nv GJ) lo (by rw[D0,Qw];rfl);obtain⟨vv,am3,VA⟩:=AX.get' vs _ k (Nv Mt) lvv (by rw[D0,Ve];rfl);obtain⟨iC,WC,GA⟩:=AX.get' K4 _ k (Nv Fv) log (by rw[D0,Qv];rfl);fin2;rw[OF]at WC;cases WC;have fw:=O.w.fin GJ (DS Qw);have fv:=O.v.fin Mt (DS Ve);have fg:=ft.fin Fv (DS Qv);have w6:Bk z.1 z.2<=65536:=(O.chain.good z (DS hz)).w;w_up;obtain⟨vb,rfl,c_⟩:=VA;obtain⟨wb,rfl,NF⟩:=WA;obtain⟨gb,rfl,MZ⟩:=GA;fin2;have Vq:(n.w.zip (n.v.zip gs))[k]? =some (GJ,Mt,Fv):=by
   rw[Kl,Kl];exact⟨Qw,Ve,Qv⟩
  have FJ:Ji rate mu (GJ,Mt,Fv)=((Mt.zip Fv).mapM (vF rate mu)).bind λv'=>((GJ.zip v').mapM KG).map λw'=>(w',v'):=jv rate mu GJ Mt Fv (by lia) (by lia);have bad:Ji rate mu (GJ,Mt,Fv)=none->∀H',A2 H H'->E (.ref a.DC) none H':=λe=>by
   rw[mapM_none _ _ _ (DS Vq) e]at q;exact q
  have snoc:∀y,Ji rate mu (GJ,Mt,Fv)=some y->((n.w.zip (n.v.zip gs)).take (k+1)).mapM (Ji rate mu)=some (ps++[y]):=λy e=>by
   rw[aek,Vq,oA,OR,B9,e];rfl
  have Av:=C7 _ _ hp;have OB:=s3 _ _ Gm;have SU:=s3 _ _ LK;refine cut λU hU=>?_;lk;repeat (simp only[Ea T Av,Ee T Av,Eh T Av,Ej T Av,Eg T Av,Ei T Av];lk)
  refine⟨_,_,A4.of (C7 _ _ hvv),by rw[Cj];exact am3,?_⟩;refine⟨_,_,A4.of (C7 _ _ c_),A4.of (C7 _ _ MZ),?_⟩;refine Oz (its:=Mt.zip Fv) (vF rate mu) (λH'=>E (.ref a.DC) none H') (Mb _ _ (A4.of (C7 _ _ c_)) (A4.of (C7 _ _ MZ))) (λ_ _=>rfl) (B_ (by rw[Br];lia)) (λit hi HH sH Q' hq he=>?_) (λe HH sH=>bad (by rw[FJ,e];rfl) _ (C7.trans sH)) λv' ev bv H4 s4 cJ ag=>?_
  .obtain⟨i1,i2⟩:=GX hi;have q':Ans a (vF rate mu it) HH Q' E:=by
    cases e:vF rate mu it with
    |none=>exact he e _ (A2.refl _)
    |some z=>exact hq z e _ (A2.refl _)
   unfold vF at q';lk;refine⟨aie.1,(fv _ i1).1,q'.bind λu eu q'=>?_⟩;lk;refine⟨fE.1,(fg _ i2).1,q'.bind λx ex q'=>?_⟩;lk;exact⟨(OS eu).1,OS ex,q'⟩
  have aju:∀y∈v',AI y:=Em ev λx _ y e=>by
   unfold vF at e;cases e1:BC mu x.1 with
   |none=>rw[e1]at e;cases e
   |some u=>
    cases e2:BC rate x.2 with
    |none=>rw[e1,e2]at e;cases e
    |some u2=>rw[e1,e2]at e;exact Wz e
  have Iy:=C7.trans s4;have qN:bv≠c1:=λe=>by rw[e,OB]at cJ;cases cJ
  have afW:bv≠c2:=λe=>by rw[e,SU]at cJ;cases cJ
  subst hU;lk;have i7:=bo.length;have gN:=NQ.length;have T3:=C3 B9;rw[AV,AV]at i7 gN;rw[EW]at T3;refine⟨A6 ⟨rfl,_,A4.of (s4 _ _ OB)⟩,_,s4 _ _ OB,J8 (by lia),?_⟩;have s5:A2 H (upd H4 c1 (.lst (dv++[.ref bv]))):=Iy.own Mf;have Cd:=s5 _ _ hp;have g_:upd H4 c1 (.lst (dv++[.ref bv])) bv=some (.lst (Nv v')):=by rw[AY qN];exact ag
  have uC:upd H4 c1 (.lst (dv++[.ref bv])) c1=some (.lst (dv++[.ref bv])):=AB;have gh:upd H4 c1 (.lst (dv++[.ref bv])) c2=some (.lst dw):=by rw[AY JR.symm];exact s4 _ _ SU
  have l5:A2 (Aw H2 [c1,c2]) (Aw (upd H4 c1 (.lst (dv++[.ref bv]))) [c1,c2]):=by
   rw[GH (by simp)];exact F6 (s3.trans s4)
  generalize upd H4 c1 (.lst (dv++[.ref bv]))=H5 at*;repeat (simp only[Ea T Cd,Ee T Cd,Eh T Cd,Ej T Cd,Eg T Cd,Ei T Cd];lk)
  refine⟨A6 ⟨rfl,_,A4.of gh⟩,_,_,A4.of (s5 _ _ ho),by rw[Cj];exact Ou,?_⟩;refine⟨_,_,A4.of (s5 _ _ NF),A4.of g_,?_⟩;refine Oz (its:=GJ.zip v') KG (λH'=>E (.ref a.DC) none H') (Mb _ _ (A4.of (s5 _ _ NF)) (A4.of g_)) (λ_ _=>rfl) (B_ (by rw[Br];lia)) (λit hi HH sH Q' hq he=>?_) (λe HH sH=>bad (by rw[FJ,ev,Aq,e];rfl) _ (s5.trans sH)) λw' ew bw H6 s6 K2 ah=>?_
  .obtain⟨i1,i2⟩:=GX hi;lk;refine⟨(fw _ i1).1,(aju _ i2).1,?_⟩;show Ans a (KG it) HH Q' E;cases e:KG it with
   |none=>exact he e _ (A2.refl _)
   |some z=>exact hq z e _ (A2.refl _)
  have fM:bw≠c1:=λe=>by rw[e,uC]at K2;cases K2
  have fN:bw≠c2:=λe=>by rw[e,gh]at K2;cases K2
  refine⟨_,s6 _ _ gh,J8 (by lia),(s5.trans s6).own QR,_,_,_,dv++[.ref bv],dw++[.ref bw],ps++[(w',v')],rfl,by rw[AY JR];exact s6 _ _ uC,AB,?_,?_,by lia,snoc _ (by rw[FJ,ev,Aq,ew];rfl)⟩
  .rw[GH (by simp),E9,E9];exact AX.snoc (bo.mono (l5.trans (F6 s6))) ⟨bv,rfl,EJ (s6 _ _ g_) (by simp[qN,afW])⟩
  .rw[GH (by simp),E9,E9];exact AX.snoc (NQ.mono (l5.trans (F6 s6))) ⟨bw,rfl,EJ ah (by simp[fM,fN])⟩
 .intro σ H2 AG;w_up;obtain⟨s2,o7,o8,o9,dv,dw,ps,rfl,Gm,LK,bo,NQ,hk,B9⟩:=AG;fin2;rw[Lk (by rw[LU,JB];lia)]at B9;rw[B9]at q;have An:=s2 _ _ hp;lk;refine⟨p,_,_,_,rfl,An,T.D3,T.kI,(by show 6<1000;decide),?_⟩;rw[k7];refine⟨p,_,_,_,rfl,AB,T.D3,T.OT,(by show 6<1000;decide),?_⟩;rw[Y9,Ds];have k2:Ac p H2 (upd H2 p (.ins a.Net dx (Cw gv (.ref l) (.ref c2) (.ref c1) (.ref m) (.ref ss)))):=(Ac.refl p H2).upd;refine q _ (((Ac.refl p H).same s2).upd) ⟨p,dx,gv,l,c2,c1,m,ss,rfl,AB,?_,?_,?_,?_,?_,?_,?_⟩
  .exact(N.gv.mono s2).Hc An k2
  .exact(N.ly.mono s2).Hc An k2
  .exact Bw.keep ⟨dw,LK,NQ.mono E7⟩ An k2
  .exact Bw.keep ⟨dv,Gm,bo.mono E7⟩ An k2
  .exact(N.mm.mono s2).keep An k2
  .exact(N.ss.mono s2).keep An k2
  .have nd:=N.nd;have f1:=λ(b:A0)(h:H b≠none)=>(⟨λe=>h (e▸Mf),λe=>h (e▸QR)⟩:b≠c1/\b≠c2);have g1:=f1 _ N.ly.Sm;have g2:=f1 _ N.mm.Sm;have g3:=f1 _ N.ss.Sm;simp only[DT,B2,DG,or_false,not_or,not_false_eq_true,UE,and_true,true_and]at nd⊢;w_up;obtain⟨⟨_,_,n1,n2⟩,_,_,n3⟩:=nd;fin2;exact⟨⟨g1.2,g1.1,n1,n2⟩,⟨JR.symm,g2.2.symm,g3.2.symm⟩,⟨g2.1.symm,g3.1.symm⟩,n3⟩
end Sg
namespace Sg
open PySem PySem.Spec PyProof.Rows L2 SN
variable{K:Ae}
def atp{H0:Hp}{a b c:A0}(h:A4 K H0 a xs)(h':A4 K H0 b ys)(Fp:A4 K H0 c zs)(l1:ys.length=xs.length)(l2:zs.length=xs.length):
 CJ (VD K a b c) (O8 K 3 (HZ (DD k) (HZ (DD l) (HZ (DD j) Q6)))) H0 (xs.zip (ys.zip zs)) (λp σ=>((σ.set k (some p.1)).set l (some p.2.1)).set j (some p.2.2))where
 go:=λi H s q=>by
  rw[Br,Br]at q;exact⟨xs,ys,zs,xs[i]'(by lia),ys[i]'(by lia),zs[i]'(by lia),s.seq h,s.seq h',s.seq Fp,by simp,by simp,by simp⟩
 stop:=λi H s q=>⟨xs,s.seq h,by rw[Br,Br]at q;lia⟩
 FA:=λi it H s e v H' y σ R r=>by
  obtain⟨T,x,y,z,rfl,nT,rfl,y1,y2,y3⟩:=y;have e1:=y1 xs (s.seq h);have e2:=y2 ys (s.seq h');have e3:=y3 zs (s.seq Fp);have:(xs.zip (ys.zip zs))[i]? =some (x,y,z):=by rw[Kl,Kl];exact⟨e1,e2,e3⟩
  rw[this]at e;cases e;exact⟨T,[x,y,z],rfl,C6.of AB,rfl,x,[y,z],rfl,y,[z],rfl,z,[],rfl,rfl,r _ (A2.one nT)⟩
def atq{α β γ:Type}{H0:Hp}{a b c:A0}{xs:List α}{ys:List β}{zs:List γ}{k l j:Nat}(f:α->V)(g:β->V)(e:γ->V)(h:A4 K H0 a (xs.map f))(h':A4 K H0 b (ys.map g))(Fp:A4 K H0 c (zs.map e))(l1:ys.length=xs.length)(l2:zs.length=xs.length):
 CJ (VD K a b c) (O8 K 3 (HZ (DD k) (HZ (DD l) (HZ (DD j) Q6)))) H0 (xs.zip (ys.zip zs)) (λp σ=>((σ.set k (some (f p.1))).set l (some (g p.2.1))).set j (some (e p.2.2))):=by
 have:=atp (k:=k) (l:=l) (j:=j) h h' Fp (by simpa using l1) (by simpa using l2);rw[ZT,ZT]at this;exact CJ.of_map (pR f (pR g e)) this
def Vw(f:α->Option β)(g:α->β->Option γ):∀(l:List α),l.mapM (λx=>(f x).bind (g x))=(l.mapM f).bind λys=>(l.zip ys).mapM λp=>g p.1 p.2
 |[]=>rfl
 |x::l=>by
  rw[Cm,Cm,Vw f g l];cases f x with
  |none=>rfl
  |some y=>
   simp only[Yf,Aq,Yq];cases l.mapM f with
   |none=>cases g x y<;>rfl
   |some ys=>
    simp only[Aq];rw[EA,Cm];rfl
def amc{α β γ:Type}(f:α->Option β)(h:α->β->γ)(l:List α):l.mapM (λx=>(f x).map (h x))=(l.mapM f).map λys=>(l.zip ys).map λp=>h p.1 p.2:=by
 have:=Vw f (λx y=>some (h x y)) l;rw[show(λx=>(f x).map (h x))=λx=>(f x).bind λy=>some (h x y)from funext λx=>by cases f x<;>rfl,this];cases l.mapM f with
 |none=>rfl
 |some ys=>exact mapM_pure _ _
def mE(b c:Nat)(p:Nat×Nat):Option Nat:=(BC b p.1).bind λu=>(BC c p.2).bind λv=>DJ u v
def eN(rate eps:Nat)(p:Nat×Nat×Nat):Option Nat:=Uu p.1 p.2.1 p.2.2 rate eps
def JI(x:Nat):Option Nat:=BC x x
abbrev W4:=EE×EE×EE×EE
def Il(rate b1 b2 eps:Nat)(p:W4):Option (List (Nat×Nat×Nat)):=(p.1.zip (p.2.1.zip (p.2.2.1.zip p.2.2.2))).mapM λq=>Ua rate b1 b2 eps q
def sR(h1:Ia ED b1=some c1)(h2:Ia ED b2=some c2)(q:Nat×Nat×Nat×Nat):
 Ua rate b1 b2 eps q=(mE b1 c1 (q.2.1,q.2.2.2)).bind λm'=>(JI q.2.2.2).bind λg2=>(mE b2 c2 (q.2.2.1,g2)).bind λs'=>(eN rate eps (q.1,m',s')).map λw'=>(w',m',s'):=by
 unfold Ua mE JI eN Uu;simp only[h1,h2,Aq];cases BC b1 q.2.1 with
 |none=>rfl
 |some a1=>
  simp only[Aq];cases BC c1 q.2.2.2 with
  |none=>rfl
  |some a2=>
   simp only[Aq];cases DJ a1 a2 with
   |none=>rfl
   |some m'=>
    simp only[Aq];cases BC b2 q.2.2.1 with
    |none=>cases BC q.2.2.2 q.2.2.2<;>rfl
    |some a3=>
     simp only[Aq];cases BC q.2.2.2 q.2.2.2 with
     |none=>rfl
     |some g2=>
      simp only[Aq];cases BC c2 g2 with
      |none=>rfl
      |some a4=>
       simp only[Aq];cases DJ a3 a4 with
       |none=>rfl
       |some s'=>
        simp only[Aq];cases Ju s' with
        |none=>cases BC rate m'<;>rfl
        |some r=>
         simp only[Aq];cases DJ r eps with
         |none=>cases BC rate m'<;>rfl
         |some r2=>
          simp only[Aq];cases BC rate m' with
          |none=>rfl
          |some u=>
           simp only[Aq];cases L0 u r2 with
           |none=>rfl
           |some u2=>rfl
def ago{w m s g:List Nat}(u5:AI b1)(af:AI b2)(l1:m.length=w.length)(l2:s.length=w.length)(l3:g.length=w.length):
 Il rate b1 b2 eps (w,m,s,g)=(QP b1 m g).bind λm'=>(g.mapM JI).bind λgg=>(QP b2 s gg).bind λs'=>((w.zip (m'.zip s')).mapM (eN rate eps)).map λw'=>w'.zip (m'.zip s'):=by
 obtain⟨c1,h1⟩:=sub_one u5;obtain⟨c2,h2⟩:=sub_one af;unfold Il QP;rw[h1];simp only[h2,Aq];show _=((m.zip g).mapM (mE b1 c1)).bind λm'=>(g.mapM JI).bind λgg=>((s.zip gg).mapM (mE b2 c2)).bind λs'=>((w.zip (m'.zip s')).mapM (eN rate eps)).map λw'=>w'.zip (m'.zip s');rw[mapM_congr (λq _=>sR h1 h2 q),Vw];have e1:(w.zip (m.zip (s.zip g))).mapM (λq=>mE b1 c1 (q.2.1,q.2.2.2))=(m.zip g).mapM (mE b1 c1):=by
  rw[<-OQ (λq:Nat×Nat×Nat×Nat=>(q.2.1,q.2.2.2)) (mE b1 c1)];congr 1;exact FE (by simp;lia) (λi _ _=>by simp)
 rw[e1];cases em:(m.zip g).mapM (mE b1 c1)with
 |none=>rfl
 |some m'=>
  have lm:=C3 em;rw[Br]at lm;simp only[Aq];rw[Vw];have e2:((w.zip (m.zip (s.zip g))).zip m').mapM (λp=>JI p.1.2.2.2)=g.mapM JI:=by
   rw[<-OQ (λp:(Nat×Nat×Nat×Nat)×Nat=>p.1.2.2.2) JI];congr 1;exact FE (by simp;lia) (λi _ _=>by simp)
  rw[e2];cases eg:g.mapM JI with
  |none=>rfl
  |some gg=>
   have lg:=C3 eg;simp only[Aq];rw[Vw];have e3:(((w.zip (m.zip (s.zip g))).zip m').zip gg).mapM (λp=>mE b2 c2 (p.1.1.2.2.1,p.2))=(s.zip gg).mapM (mE b2 c2):=by
    rw[<-OQ (λp:((Nat×Nat×Nat×Nat)×Nat)×Nat=>(p.1.1.2.2.1,p.2)) (mE b2 c2)];congr 1;exact FE (by simp;lia) (λi _ _=>by simp)
   rw[e3];cases es:(s.zip gg).mapM (mE b2 c2)with
   |none=>rfl
   |some s'=>
    have ls:=C3 es;rw[Br]at ls;simp only[Aq];have e4:((((w.zip (m.zip (s.zip g))).zip m').zip gg).zip s').map (λp=>(p.1.1.1.1,p.1.1.2,p.2))=w.zip (m'.zip s'):=
     FE (by simp;lia) (λi _ _=>by simp)
    rw[<-e4,OQ,amc];cases ew:((((w.zip (m.zip (s.zip g))).zip m').zip gg).zip s').mapM (λp=>eN rate eps (p.1.1.1.1,p.1.1.2,p.2))with
    |none=>rfl
    |some w'=>
     have lw:=C3 ew;simp only[Br]at lw;simp only[Gy];congr 1;exact FE (by simp;lia) (λi _ _=>by simp)
def vn(h:QP b xs ys=some zs):zs.length=min xs.length ys.length/\∀y∈zs,AI y:=by
 unfold QP at h;cases e:Ia ED b with
 |none=>rw[e]at h;cases h
 |some r=>
  rw[e,Aq]at h;refine⟨by rw[C3 h,Br],Em h λp _ y ey=>?_⟩;cases e1:BC b p.1 with
  |none=>rw[e1]at ey;cases ey
  |some u=>
   cases e2:BC r p.2 with
   |none=>rw[e1,e2]at ey;cases ey
   |some v=>rw[e1,e2]at ey;exact MM ey
def qh(h:∀y,o=some y->DB H Q' (Nv y))(h':o=none->∀H',A2 H H'->E (.ref a.DC) none H'):EF a o H Q' E:=by
 cases o with
 |none=>exact h' rfl
 |some y=>exact h y rfl
def avD{w m s:List Nat}(h1:m.length=w.length)(h2:s.length=w.length):(w.zip (m.zip s)).map (λz=>z.1)=w/\(w.zip (m.zip s)).map (λz=>z.2.1)=m/\(w.zip (m.zip s)).map (λz=>z.2.2)=s:=
 ⟨FE (by simp;lia) (λi _ _=>by simp),FE (by simp;lia) (λi _ _=>by simp),FE (by simp;lia) (λi _ _=>by simp)⟩
def at1(a:Ad):Sp:=D9 λv1 v2 v3 H Q E=>Et λ(n:CI)(p pl dl og:A0)(er:V)=>Es λ(gs:List (List Nat))(rate b1 b2 eps:Nat)=>Cn (v1=.ref p) (Dl a H (.ref p) n) (Fo n) (v2=.ref pl) (H pl=some (.ins a.G4 dl (Q3 er (.ref og)))) (Bw H og gs) (Fits n.plan.layers gs) (S_ (AL H v3 (Nv [rate,b1,b2,eps])) (AI rate) (AI b1) (AI b2) (AI eps) (match(n.w.zip (n.m.zip (n.s.zip gs))).mapM (Il rate b1 b2 eps)with
 |some l=>∀H',Ac p H H'->Dl a H' (.ref p) {n with w:=l.map λy=>y.map λz=>z.1,m:=l.map λy=>y.map λz=>z.2.1,s:=l.map λy=>y.map λz=>z.2.2}->Q .Ah H'
 |none=>∀H',A2 H H'->E (.ref a.DC) none H'))
def ao6(T:Txt K mg a):A_ P w K mg base 6 a.bE ["net","lesson","rates"] (at1 a):=by
 refine T.aho.Dc as8 λAF A outer s H p0 p1 p2 Q E hr h nd=>?_;obtain⟨n,p,pl,dl,og,er,gs,rate,b1,b2,eps,rfl,NA,O,rfl,Ax,⟨K4,V_,log⟩,ft,⟨br,rfl,MV⟩,fE,Uw,Ux,aiV,q⟩:=h;obtain⟨p',dx,gv,l,o,v,m,ss,e',N⟩:=id NA;refine⟨_,(A7 (AW (i:=3) nd rfl (C1 rfl) (BL BM (pv 2) Am (λ_ _=>rfl))) (A7 (AW (i:=4) nd rfl (C1 rfl) (BL BM (pv 2) Am (λ_ _=>rfl))) (A7 (AW (i:=5) nd rfl (A6 rfl) (Bn A3)) (A7 (AW (i:=6) nd rfl (A6 rfl) (Bn A3)) (A7 (AW (i:=7) nd rfl (A6 rfl) (Bn A3)) (A7 (E5 Dd rfl (WU (by rfl) T.VS (A1 (AH (pv 1) rfl) A3)) (Lg (n:=2) rfl (Cs (Ay (i:=8) nd rfl (A6 rfl)) (Cs (Ay (i:=9) nd rfl (A6 rfl)) Hg))) (A7 (AW (i:=10) nd rfl (A6 rfl) (Ag (yZ T) T.qp hr AD (A1 (BL BM (pv 2) Am (λ_ _=>rfl)) (A1 (BL BM (AH (pv 0) rfl) (pv 8) (λ_ _=>rfl)) (A1 (pv 9) A3))))) (A7 (AW (i:=11) nd rfl (A6 rfl) (Ag (yZ T) T.qp hr AD (A1 (BL BM (pv 2) Am (λ_ _=>rfl)) (A1 (BL BM (AH (pv 0) rfl) (pv 8) (λ_ _=>rfl)) (A1 (FZ (own:=[("g",12)]) rfl rfl rfl CD rfl nd (De (pv 9)) (Ck (by kernel_rfl)) (λ_ _ _ _ _=>(Ay (i:=12) nd rfl (A6 rfl))) (λ_ _ _ _ _=>Cg) (λ_ _ _ _ _ _ _ An=>(Ag (OV T) T.O9 hr An (A1 (pv 12) (A1 (pv 12) A3))))) A3))))) (A7 (Df (Fu Fd Gv Hk IB (pv 5) (A1 (pv 10) A3))) (A7 (Df (Fu Fd Gv Hk IB (pv 6) (A1 (pv 11) A3))) (AE (Df (Fu Fd Gv Hk IB (pv 7) (A1 (FZ (own:=[("w",13),("m",14),("s",15)]) rfl rfl rfl CD rfl nd (aph (by rfl) T.LZ (A1 (BL BM (AH (pv 0) rfl) (pv 8) (λ_ _=>rfl)) (A1 (pv 10) (A1 (pv 11) A3)))) (Ck (by kernel_rfl)) (λ_ _ _ _ _=>(TZ (K:=K) (n:=3) rfl rfl (Cs (Ay (i:=13) nd rfl (A6 rfl)) (Cs (Ay (i:=14) nd rfl (A6 rfl)) (Cs (Ay (i:=15) nd rfl (A6 rfl)) Hg))))) (λ_ _ _ _ _=>Cg) (λ_ _ _ _ _ _ _ An=>(Ag (ao7 T) T.ajR hr An (A1 (pv 13) (A1 (pv 14) (A1 (pv 15) (A1 (pv 3) (A1 (pv 4) A3)))))))) A3))))))))) (A7 (C9 (pv 0) (pv 5) rfl) (A7 (C9 (pv 0) (pv 6) rfl) (AE (C9 (pv 0) (pv 7) rfl)))))))))).Ak,?_⟩;cases e';have hp:=N.at_;w_up;obtain⟨ms,sr,lmm⟩:=N.mm;obtain⟨sv,hss,lss⟩:=N.ss;obtain⟨ws,ho,lo⟩:=N.ow;fin2;have EZ:=O.EZ;lk;refine⟨_,_,A4.of MV,rfl,?_⟩;lk;refine⟨_,_,A4.of MV,rfl,?_⟩;lk;refine⟨by decide,λc1 Mf=>?_⟩;lk;refine⟨by decide,λc2 K3=>?_⟩;lk;refine⟨by decide,λc3 QS=>?_⟩;have s0:=((A2.one (o:=.lst []) Mf).new (o:=.lst []) K3).new (o:=.lst []) QS;have JR:c1≠c2:=λe=>by rw[<-e,AB]at K3;cases K3
 have QR:H c2=none:=by rw[AY JR.symm]at K3;exact K3
 have VV:c2≠c3:=λe=>by rw[<-e,AB]at QS;cases QS
 have VU:c1≠c3:=λe=>by rw[<-e,AY JR,AB]at QS;cases QS
 have xc:H c3=none:=by rw[AY VV.symm,AY VU.symm]at QS;exact QS
 rw[ql T (s0 _ _ Ax)];refine⟨_,A4.of (s0 _ _ V_),?_⟩;have gl:=log.length;rw[AV]at gl;have ajE:=ft.len.length;have wll:=O.w.len.length;have mll:=O.m.len.length;have sll:=O.s.len.length;have LU:(n.w.zip (n.m.zip (n.s.zip gs))).length=n.plan.layers.length:=by rw[Br,Br,Br];lia
 refine MR (H0:=H) (its:=K4.zipIdx) (mZ (A4.of V_)) (λk σ H'=>A2 H H'/\Et λo7 o8 o9 kU dm ds=>EN λdw ps=>Cn (σ=[some (.ref p),some (.ref pl),some (.ref br),some (.int ((rate:Nat):Int)),some (.int ((eps:Nat):Int)),some (.ref c1),some (.ref c2),some (.ref c3),o7,o8,o9,kU,none,none,none,none]) (H' c1=some (.lst dm)) (H' c2=some (.lst ds)) (H' c3=some (.lst dw)) (AX (Aw H' [c1,c2,c3]) dm ((ps.map λ(y:List (Nat×Nat×Nat))=>y.map λz=>z.2.1).map Nv)) (AX (Aw H' [c1,c2,c3]) ds ((ps.map λ(y:List (Nat×Nat×Nat))=>y.map λz=>z.2.2).map Nv)) (AX (Aw H' [c1,c2,c3]) dw ((ps.map λ(y:List (Nat×Nat×Nat))=>y.map λz=>z.1).map Nv)) ((k<=K4.length)/\((n.w.zip (n.m.zip (n.s.zip gs))).take k).mapM (Il rate b1 b2 eps)=some ps)) ?_ (λ_ _ _ h=>h.1) ?_ ?_
 .exact⟨s0,none,none,none,none,[],[],[],[],rfl,by rw[AY VU,AY JR];exact AB,by rw[AY VV];exact AB,AB,trivial,trivial,trivial,Er _,rfl⟩
 .intro k it σ H2 H3 hit AG s3;w_up;obtain⟨s2,o7,o8,o9,kU,dm,ds,dw,ps,rfl,Gm,LK,Ek,bj,Hd,NQ,hk,B9⟩:=AG;have IM:k<K4.length:=by have:=(Gu.mp hit).1;rw[JB]at this;exact this
  obtain⟨iD,OF⟩:∃x,K4[k]? =some x:=⟨_,E8 IM⟩;fin2;have hV:it=(iD,k):=by rw[YJ,OF]at hit;simpa using hit.symm
  subst hV;have C7:=s2.trans s3;w_up;obtain⟨z,hz⟩:∃z,n.plan.layers[k]? =some z:=⟨_,E8 (by lia)⟩;obtain⟨GJ,Qw,alI⟩:=O.w.len.get' k hz;obtain⟨Qb,jM,ayv⟩:=O.m.len.get' k hz;obtain⟨Qe,jO,ayx⟩:=O.s.len.get' k hz;obtain⟨Fv,Qv,alG⟩:=ft.len.get' k hz;obtain⟨wv,Ou,WA⟩:=AX.get' ws _ k (Nv GJ) lo (by rw[D0,Qw];rfl);obtain⟨mv,cP,MA⟩:=AX.get' ms _ k (Nv Qb) lmm (by rw[D0,jM];rfl);obtain⟨sv',Vh,SA⟩:=AX.get' sv _ k (Nv Qe) lss (by rw[D0,jO];rfl);obtain⟨iC,WC,GA⟩:=AX.get' K4 _ k (Nv Fv) log (by rw[D0,Qv];rfl);fin2;rw[OF]at WC;cases WC;have fw:=O.w.fin GJ (DS Qw);have fm:=O.m.fin Qb (DS jM);have fs:=O.s.fin Qe (DS jO);have fg:=ft.fin Fv (DS Qv);have w6:Bk z.1 z.2<=65536:=(O.chain.good z (DS hz)).w;w_up;obtain⟨wb,rfl,NF⟩:=WA;obtain⟨gb,rfl,MZ⟩:=GA;fin2;have Vq:(n.w.zip (n.m.zip (n.s.zip gs)))[k]? =some (GJ,Qb,Qe,Fv):=by
   rw[Kl,Kl,Kl];exact⟨Qw,jM,jO,Qv⟩
  have FJ:=ago (rate:=rate) (b1:=b1) (b2:=b2) (eps:=eps) (w:=GJ) (m:=Qb) (s:=Qe) (g:=Fv) Uw Ux (by lia) (by lia) (by lia);have bad:Il rate b1 b2 eps (GJ,Qb,Qe,Fv)=none->∀H',A2 H H'->E (.ref a.DC) none H':=λe=>by
   rw[mapM_none _ _ _ (DS Vq) e]at q;exact q
  have snoc:∀y,Il rate b1 b2 eps (GJ,Qb,Qe,Fv)=some y->((n.w.zip (n.m.zip (n.s.zip gs))).take (k+1)).mapM (Il rate b1 b2 eps)=some (ps++[y]):=λy e=>by
   rw[aek,Vq,oA,OR,B9,e];rfl
  have Av:=C7 _ _ hp;have OB:=s3 _ _ Gm;have SU:=s3 _ _ LK;have gi:=s3 _ _ Ek;refine cut λU hU=>?_;lk;refine⟨_,_,A4.of (C7 _ _ MV),rfl,?_⟩;repeat (simp only[Ea T Av,Ee T Av,Eh T Av,Ej T Av,Eg T Av,Ei T Av];lk)
  refine⟨_,_,A4.of (C7 _ _ sr),by rw[Cj];exact cP,?_⟩;refine⟨b1,Qb,Fv,rfl,MA.mono C7,⟨gb,rfl,C7 _ _ MZ⟩,Uw,fm,fg,by lia,qh (λm' em bm H4 s4 nbm Pk=>?_) λe HH sH=>bad (by rw[FJ,e];rfl) _ (C7.trans sH)⟩;obtain⟨lm',aid⟩:=vn em;have Iy:=C7.trans s4;have J2:=Iy _ _ hp;subst hU;refine cut λU hU=>?_;lk;refine⟨_,_,A4.of (Iy _ _ MV),rfl,?_⟩;repeat (simp only[Ea T J2,Ee T J2,Eh T J2,Ej T J2,Eg T J2,Ei T J2];lk)
  refine⟨_,_,A4.of (Iy _ _ hss),by rw[Cj];exact Vh,?_⟩;lk;refine⟨⟨_,A4.of (Iy _ _ MZ)⟩,?_⟩;refine Oz (its:=Fv) JI (λH'=>E (.ref a.DC) none H') (IJ _ (A4.of (Iy _ _ MZ))) (λ_ _=>rfl) (B_ (by lia)) (λit hi HH sH Q' hq he=>?_) (λe HH sH=>bad (by rw[FJ,em,Aq,e];rfl) _ (Iy.trans sH)) λgg eg bg H5 s5 nbg iT=>?_
  .lk;refine⟨(fg _ hi).1,(fg _ hi).1,?_⟩;show Ans a (JI it) HH Q' E;cases e:JI it with
   |none=>exact he e _ (A2.refl _)
   |some z=>exact hq z e _ (A2.refl _)
  have lgg:=C3 eg;have aiW:∀y∈gg,AI y:=Em eg λx _ y e=>OS e;have Pz:=Iy.trans s5;refine⟨b2,Qe,gg,rfl,SA.mono Pz,⟨bg,rfl,iT⟩,Ux,fs,aiW,by lia,qh (λs' es bs H6 s6 xb Pl=>?_) λe HH sH=>bad (by rw[FJ,em,Aq,eg,Aq,e];rfl) _ (Pz.trans sH)⟩;obtain⟨ls',Gj⟩:=vn es;have agj:=Pz.trans s6;have zG:=s5.trans s6;have nm:∀c,H3 c≠none->bm≠c:=λc h e=>h (e▸nbm);have ns:∀c,H3 c≠none->bs≠c:=λc h e=>h (by
   rcases hx:H3 c with _|x
   .rfl
   .rw[<-e]at hx;rw[(s4.trans s5) _ _ hx]at xb;cases xb)
  have sm:∀{c:A0}{x:HO},H3 c=some x->H3 c≠none:=λe z=>by rw[z]at e;cases e
  have qI:=nm c1 (sm OB);have qJ:=nm c2 (sm SU);have afS:=nm c3 (sm gi);have qL:=ns c1 (sm OB);have qM:=ns c2 (sm SU);have afV:=ns c3 (sm gi);have Wg:=s4.trans zG;subst hU;refine cut λU hU=>?_;lk;have hlm:=bj.length;have Qq:=Hd.length;have gN:=NQ.length;have T3:=C3 B9;rw[AV,AV]at hlm Qq gN;rw[EW]at T3;refine⟨A6 ⟨rfl,_,A4.of (Wg _ _ OB)⟩,_,Wg _ _ OB,J8 (by lia),?_⟩;have s7:A2 H (upd H6 c1 (.lst (dm++[.ref bm]))):=agj.own Mf;have akN:upd H6 c1 (.lst (dm++[.ref bm])) c1=some (.lst (dm++[.ref bm])):=AB;have t5:upd H6 c1 (.lst (dm++[.ref bm])) c2=some (.lst ds):=by rw[AY JR.symm];exact Wg _ _ SU
  have akP:upd H6 c1 (.lst (dm++[.ref bm])) c3=some (.lst dw):=by rw[AY VU.symm];exact Wg _ _ gi
  have akK:upd H6 c1 (.lst (dm++[.ref bm])) bm=some (.lst (Nv m')):=by rw[AY qI];exact zG _ _ Pk
  have akL:upd H6 c1 (.lst (dm++[.ref bm])) bs=some (.lst (Nv s')):=by rw[AY qL];exact Pl
  have l7:A2 (Aw H2 [c1,c2,c3]) (Aw (upd H6 c1 (.lst (dm++[.ref bm]))) [c1,c2,c3]):=by
   rw[GH (by simp)];exact F6 (s3.trans Wg)
  generalize upd H6 c1 (.lst (dm++[.ref bm]))=H7 at*;subst hU;refine cut λU hU=>?_;lk;refine⟨A6 ⟨rfl,_,A4.of t5⟩,_,t5,J8 (by lia),?_⟩;have s8:A2 H (upd H7 c2 (.lst (ds++[.ref bs]))):=s7.own QR;have t4:upd H7 c2 (.lst (ds++[.ref bs])) c1=some (.lst (dm++[.ref bm])):=by rw[AY JR];exact akN
  have t6:upd H7 c2 (.lst (ds++[.ref bs])) c2=some (.lst (ds++[.ref bs])):=AB;have gj:upd H7 c2 (.lst (ds++[.ref bs])) c3=some (.lst dw):=by rw[AY VV.symm];exact akP
  have iU:upd H7 c2 (.lst (ds++[.ref bs])) bm=some (.lst (Nv m')):=by rw[AY qJ];exact akK
  have gY:upd H7 c2 (.lst (ds++[.ref bs])) bs=some (.lst (Nv s')):=by rw[AY qM];exact akL
  have l8:A2 (Aw H2 [c1,c2,c3]) (Aw (upd H7 c2 (.lst (ds++[.ref bs]))) [c1,c2,c3]):=by
   rw[GH (by simp)];exact l7
  generalize upd H7 c2 (.lst (ds++[.ref bs]))=H8 at*;have F0:=s8 _ _ hp;subst hU;lk;repeat (simp only[Ea T F0,Ee T F0,Eh T F0,Ej T F0,Eg T F0,Ei T F0];lk)
  refine⟨A6 ⟨rfl,_,A4.of gj⟩,_,_,A4.of (s8 _ _ ho),by rw[Cj];exact Ou,?_⟩;refine⟨_,_,_,A4.of (s8 _ _ NF),A4.of iU,A4.of gY,?_⟩;refine Oz (its:=GJ.zip (m'.zip s')) (eN rate eps) (λH'=>E (.ref a.DC) none H') (atq _ _ _ (A4.of (s8 _ _ NF)) (A4.of iU) (A4.of gY) (by lia) (by lia)) (λ_ _=>rfl) (B_ (by rw[Br];lia)) (λit hi HH sH Q' hq he=>?_) (λe HH sH=>bad (by rw[FJ,em,Aq,eg,Aq,es,Aq,e];rfl) _ (s8.trans sH)) λw' ew bw H9 s9 K2 ah=>?_
  .obtain⟨i1,i2⟩:=GX hi;obtain⟨i2,i3⟩:=GX i2;lk;refine⟨it.1,it.2.1,it.2.2,rate,eps,rfl,rfl,rfl,rfl,rfl,fw _ i1,aid _ i2,Gj _ i3,fE,aiV,?_⟩;show Ans a (eN rate eps it) HH Q' E;cases e:eN rate eps it with
   |none=>exact he e _ (A2.refl _)
   |some z=>exact hq z e _ (A2.refl _)
  have lw':=C3 ew;rw[Br,Br]at lw';w_up;obtain⟨y1,y2,y3⟩:=avD (w:=w') (m:=m') (s:=s') (by lia) (by lia);fin2;have fM:bw≠c1:=λe=>by rw[e,t4]at K2;cases K2
  have fN:bw≠c2:=λe=>by rw[e,t6]at K2;cases K2
  have afX:bw≠c3:=λe=>by rw[e,gj]at K2;cases K2
  refine⟨_,s9 _ _ gj,J8 (by lia),(s8.trans s9).own xc,_,_,_,_,dm++[.ref bm],ds++[.ref bs],dw++[.ref bw],ps++[w'.zip (m'.zip s')],rfl,by rw[AY VU];exact s9 _ _ t4,by rw[AY VV];exact s9 _ _ t6,AB,?_,?_,?_,by lia,snoc _ (by rw[FJ,em,Aq,eg,Aq,es,Aq,ew];rfl)⟩
  .rw[GH (by simp),E9,E9,BW,Kr,y2];exact AX.snoc (bj.mono (l8.trans (F6 s9))) ⟨bm,rfl,EJ (s9 _ _ iU) (by simp[qI,qJ,afS])⟩
  .rw[GH (by simp),E9,E9,BW,Kr,y3];exact AX.snoc (Hd.mono (l8.trans (F6 s9))) ⟨bs,rfl,EJ (s9 _ _ gY) (by simp[qL,qM,afV])⟩
  .rw[GH (by simp),E9,E9,BW,Kr,y1];exact AX.snoc (NQ.mono (l8.trans (F6 s9))) ⟨bw,rfl,EJ ah (by simp[fM,fN,afX])⟩
 .intro σ H2 AG;w_up;obtain⟨s2,o7,o8,o9,kU,dm,ds,dw,ps,rfl,Gm,LK,Ek,bj,Hd,NQ,hk,B9⟩:=AG;fin2;rw[Lk (by rw[LU,JB];lia)]at B9;rw[B9]at q;have An:=s2 _ _ hp;lk;refine⟨p,_,_,_,rfl,An,T.D3,T.jB,(by show 6<1000;decide),?_⟩;rw[jy];refine⟨p,_,_,_,rfl,AB,T.D3,T.kH,(by show 6<1000;decide),?_⟩;rw[jz,Ds];refine⟨p,_,_,_,rfl,AB,T.D3,T.OT,(by show 6<1000;decide),?_⟩;rw[Y9,Ds];have k2:Ac p H2 (upd H2 p (.ins a.Net dx (Cw gv (.ref l) (.ref c3) (.ref v) (.ref c1) (.ref c2)))):=(Ac.refl p H2).upd;refine q _ (((Ac.refl p H).same s2).upd) ⟨p,dx,gv,l,c3,v,c1,c2,rfl,AB,?_,?_,?_,?_,?_,?_,?_⟩
  .exact(N.gv.mono s2).Hc An k2
  .exact(N.ly.mono s2).Hc An k2
  .exact Bw.keep ⟨dw,Ek,NQ.mono E7⟩ An k2
  .exact(N.vv.mono s2).keep An k2
  .exact Bw.keep ⟨dm,Gm,bj.mono E7⟩ An k2
  .exact Bw.keep ⟨ds,LK,Hd.mono E7⟩ An k2
  .have nd:=N.nd;have f1:=λ(b:A0)(h:H b≠none)=>(⟨λe=>h (e▸Mf),λe=>h (e▸QR),λe=>h (e▸xc)⟩:b≠c1/\b≠c2/\b≠c3);have g1:=f1 _ N.ly.Sm;have g2:=f1 _ N.vv.Sm;simp only[DT,B2,DG,or_false,not_or,not_false_eq_true,UE,and_true,true_and]at nd⊢;w_up;obtain⟨⟨_,n1,_,_⟩,_,_,_⟩:=nd;fin2;exact⟨⟨g1.2.2,n1,g1.1,g1.2.1⟩,⟨g2.2.2.symm,VU.symm,VV.symm⟩,⟨g2.1,g2.2.1⟩,JR⟩
open SN
def MK(s:BA):Prop:=0<s.1/\0<s.2.1/\0<s.2.2
def dI:Cb->Prop
 | .dense o=>0<o/\o<10000
 | .conv o k=>0<o/\o<10000/\(k=1\/k=3\/k=5)
 |_=>True
def digit_of(h:Rn c=true):48<=c/\c<=57:=by
 unfold Rn at h;simpa using h
def rF:∀(d:List Nat)(n:Nat),0<n->0<d.foldl (λn c=>10*n+(c-48)) n
 |[],n,h=>h
 |c::d,n,h=>rF d (10*n+(c-48)) (by lia)
def fold_lt:∀(d:List Nat)(n k:Nat),(∀c∈d,c<=57)->n<10^k->d.foldl (λn c=>10*n+(c-48)) n<10^(k+d.length)
 |[],n,k,_,h=>h
 |c::d,n,k,hd,h=>by
  have:=fold_lt d (10*n+(c-48)) (k+1) (λx hx=>hd x (Ba _ hx)) (by
   have:=hd c (Bu ..);rw[FH];lia)
  rw[B4,show k+(d.length+1)=k+1+d.length by lia];exact this
def He(h:BY d=some n):0<n/\n<10000:=by
 unfold BY at h;split at h
 .rename_i c;obtain⟨c1,c2,c3,c4⟩:=c;cases h;cases d with
  |nil=>exact absurd rfl c1
  |cons x d=>
   have hx:=digit_of (EY.mp c3 x (Bu ..));have Bx:x≠48:=λe=>c4 (by rw[e];rfl);refine⟨rF d (10*0+(x-48)) (by lia),?_⟩;have:=fold_lt (x::d) 0 0 (λy hy=>(digit_of (EY.mp c3 y hy)).2) (by decide);refine CT this ?_;rw[EM];exact EL (by decide) c2
 .cases h
def j2(h:FI b=some l):dI l:=by
 unfold FI at h;generalize BI 32 b []=ws at h;rcases ws with _|⟨w,_|⟨o,_|⟨k,_|_⟩⟩⟩
 .cases h
 .dsimp only at h;by_cases c:w=C0 "relu"
  .rw[if_pos c]at h;cases h;trivial
  rw[if_neg c]at h;by_cases c:w=C0 "pool"
  .rw[if_pos c]at h;cases h;trivial
  .rw[if_neg c]at h;cases h
 .dsimp only at h;by_cases c:w=C0 "dense"
  .rw[if_pos c]at h;cases e:BY o with
   |none=>rw[e]at h;cases h
   |some n=>rw[e]at h;cases h;exact He e
  .rw[if_neg c]at h;cases h
 .dsimp only at h;by_cases c:w=C0 "conv"
  .rw[if_pos c]at h;cases e:BY o with
   |none=>rw[e]at h;cases h
   |some n=>
    cases e2:BY k with
    |none=>rw[e,e2]at h;cases h
    |some m=>
     rw[e,e2,Aq,Aq]at h;by_cases hk:m=1\/m=3\/m=5
     .rw[if_pos hk]at h;cases h;exact⟨(He e).1,(He e).2,hk⟩
     .rw[if_neg hk]at h;cases h
  .rw[if_neg c]at h;cases h
 .cases h
def gK(hs:MK s)(hl:dI l)(h:Bv s l=some t):MK t:=by
 cases l with
 |relu=>cases h;exact hs
 |dense o=>cases h;exact⟨hl.1,ZQ,ZQ⟩
 |pool=>
  rw[Bv]at h;split at h
  .rename_i c;cases h;obtain⟨h1,h2,h3⟩:=hs;refine⟨h1,?_,?_⟩
   .show 0<s.2.1/2;lia
   .show 0<s.2.2/2;lia
  .cases h
 |conv o k=>
  rw[Bv]at h;split at h
  .cases h;exact⟨hl.1,hs.2.1,hs.2.2⟩
  .cases h
def MK.count(h:MK s):0<AK s:=EC (EC h.1 h.2.1) h.2.2
def Ft:BA->Nat->List G0->Option (List (BA×Cb)×BA)
 |s,_,[]=>some ([],s)
 |s,room,b::r=>(FI b).bind λl=>(Bv s l).bind λt=>if 4096<AK t\/room<Bk s l then none else(Ft t (room-Bk s l) r).map λx=>((s,l)::x.1,x.2)
abbrev Zk:=List (BA×Cb)×BA
def Uk(room:Nat)(x:Zk):Option Zk:=if room<(x.1.map λz=>Bk z.1 z.2).sum then none else some x
def xy:∀(r:List G0)(s:BA)(room:Nat),MK s->(r.mapM FI).bind (λl=>(oy s l).bind (Uk room))=Ft s room r
 |[],s,room,_=>by
  show Uk room ([],s)=_;unfold Uk;rw[if_neg (by simp)];rfl
 |b::r,s,room,hs=>by
  rw[Cm];show _=(FI b).bind _;cases hl:FI b with
  |none=>rfl
  |some l=>
   have lo:=j2 hl;simp only[Yf,Aq,Yq];cases ha:Bv s l with
   |none=>
    cases r.mapM FI with
    |none=>rfl
    |some ls=>
     show((Bv s l).bind _).bind _=_;rw[ha];rfl
   |some t=>
    have pt:=gK hs lo ha;have ih:=xy r t (room-Bk s l) pt;simp only[Aq];rw[<-ih];cases r.mapM FI with
    |none=>simp
    |some ls=>
     simp only[Aq];show((Bv s l).bind _).bind _=_;rw[ha,Aq,show Sn38.MOSTCELLS=4096 from rfl];by_cases c1:4096<AK t
     .rw[if_pos (C1 c1),if_pos (A6 c1)];rfl
     .have:=pt.count;rw[if_neg (by show¬(AK t=0\/4096<AK t);omega)];cases oy t ls with
      |none=>simp
      |some x=>
       simp only[Gy,Aq];unfold Uk;simp only[BW,af1];by_cases c2:room<Bk s l
       .rw[if_pos (C1 c2),if_pos (by omega)]
       .rw[if_neg (by omega:¬(4096<AK t\/room<Bk s l))];by_cases c3:room<Bk s l+(x.1.map λz=>Bk z.1 z.2).sum
        .rw[if_pos c3,if_pos (by omega)];rfl
        .rw[if_neg c3,if_neg (by omega)];rfl
def y4:∀{r:List G0}{s:BA}{room:Nat}{x:Zk},Ft s room r=some x->MK s->AK s<=4096->room<=65536->FL s x.1 x.2/\x.1.length=r.length
 |[],s,room,x,h,_,_,_=>by
  cases h;exact⟨.nil s,rfl⟩
 |b::r,s,room,x,h,hs,hc,hr=>by
  have h:(FI b).bind _=some x:=h;cases hl:FI b with
  |none=>rw[hl]at h;cases h
  |some l=>
   rw[hl,Aq]at h;have lo:=j2 hl;cases ha:Bv s l with
   |none=>rw[ha]at h;cases h
   |some t=>
    rw[ha,Aq]at h;split at h
    .cases h
    .rename_i cnd;have pt:=gK hs lo ha;cases e:Ft t (room-Bk s l) r with
     |none=>rw[e]at h;cases h
     |some y=>
      rw[e]at h;cases h;obtain⟨q1,q2⟩:=y4 e pt (by lia) (by lia);refine⟨.cons ⟨hs.1,hs.2.1,hs.2.2,hc,by lia,⟨t,ha,pt.count,by lia⟩,λo k e=>?_⟩ ha q1,by rw[B4,B4,q2]⟩;rw[e]at lo;exact lo.2.2
def QY(ls:List G0):Option pP:=match ls with
 |[]=>none
 |h::r=>match BI 32 h []with
  |[w,p,y,x]=>if w≠C0 "input"then none else(BY p).bind λp=>(BY y).bind λy=>(BY x).bind λx=>if 8<r.length\/4096<p*y*x then none else(Ft (p,y,x) 65536 r).map λs=>⟨(p,y,x),s.1,s.2⟩
  |_=>none
def yL(b:G0):M1 b=QY (ZV b):=by
 unfold M1 QY;cases ZV b with
 |nil=>rfl
 |cons h r=>
  simp only;generalize BI 32 h []=ws;rcases ws with _|⟨w,_|⟨p,_|⟨y,_|⟨x,_|_⟩⟩⟩⟩
  .rfl
  .rfl
  .rfl
  .rfl
  .simp only;split
   .rfl
   cases hp:BY p with
   |none=>rfl
   |some p=>
    cases hy:BY y with
    |none=>rfl
    |some y=>
     cases hx:BY x with
     |none=>rfl
     |some x=>
      simp only[Aq];rw[<-xy r (p,y,x) 65536 ⟨(He hp).1,(He hy).1,(He hx).1⟩];cases e:r.mapM FI with
      |none=>simp
      |some ls=>
       have el:=C3 e;simp only[Aq];show(if 8<ls.length\/4096<p*y*x then _ else _)=_;rw[el];split
       .rfl
       .cases oy (p,y,x) ls with
        |none=>rfl
        |some s=>
         simp only[Aq];unfold Uk;show(if 65536<(s.1.map λz=>Bk z.1 z.2).sum then _ else _)=_;by_cases cw:65536<(s.1.map λz=>Bk z.1 z.2).sum
         .rw[if_pos cw,if_pos cw];rfl
         .rw[if_neg cw,if_neg cw];rfl
  .rfl
def MJ(c:Nat):Prop:=c=10\/c=32\/(48<=c/\c<=57)\/(97<=c/\c<=122)
def kf(k:Nat):∀(b w:List Nat)(c:Nat),c∈b\/c∈w->c=k\/∃x∈BI k b w,c∈x
 |[],w,c,h=>by
  rcases h with h|h
  .simp at h
  .exact .inr ⟨w,by unfold BI;simp,h⟩
 |d::b,w,c,h=>by
  unfold BI;split
  .rename_i e;rcases h with h|h
   .rcases B2.mp h with rfl|h
    .exact .inl e
    .rcases kf k b [] c (.inl h)with h|⟨x,h1,h2⟩
     .exact .inl h
     .exact .inr ⟨x,Ba _ h1,h2⟩
   .exact .inr ⟨w,Bu ..,h⟩
  .refine kf k b (w++[d]) c ?_;rcases h with h|h
   .rcases B2.mp h with rfl|h
    .exact .inr (Jl _ (C5.mpr rfl))
    .exact .inl h
   .exact .inr (U9 _ h)
def ke{Pr:Nat->Prop}{b:List Nat}(hk:Pr k)(h:∀w∈BI k b [],∀c∈w,Pr c):∀c∈b,Pr c:=λc hc=>by
 rcases kf k b [] c (.inl hc)with rfl|⟨x,h1,h2⟩
 .exact hk
 .exact h x h1 c h2
def Tv(h:BY d=some n):∀c∈d,MJ c:=λc hc=>by
 unfold BY at h;split at h
 .rename_i q;exact .inr (.inr (.inl (digit_of (EY.mp q.2.2.1 c hc))))
 .cases h
def VR(h:((C0 s).all λc=>decide (97<=c)&&decide (c<=122))=true):∀c∈C0 s,MJ c:=λc hc=>by
 have:=EY.mp h c hc;simp only[CH,decide_eq_true_eq]at this;exact .inr (.inr (.inr this))
def als{l:Cb}(h:FI b=some l):∀c∈b,MJ c:=by
 refine ke (k:=32) (.inr (.inl rfl)) ?_;unfold FI at h;generalize BI 32 b []=ws at*;rcases ws with _|⟨w,_|⟨o,_|⟨k,_|_⟩⟩⟩
 .cases h
 .simp only at h;intro x hx;rw[C5.mp hx];split at h
  .rename_i e;rw[e];exact VR (by decide)
  .split at h
   .rename_i e;rw[e];exact VR (by decide)
   .cases h
 .simp only at h;split at h
  .rename_i e;cases e2:BY o with
   |none=>rw[e2]at h;cases h
   |some n=>
    intro x hx;rcases B2.mp hx with rfl|hx
    .rw[e];exact VR (by decide)
    .rw[C5.mp hx];exact Tv e2
  .cases h
 .simp only at h;split at h
  .rename_i e;cases e2:BY o with
   |none=>rw[e2]at h;cases h
   |some n=>
    cases e3:BY k with
    |none=>rw[e2,e3]at h;cases h
    |some m=>
     intro x hx;rcases B2.mp hx with rfl|hx
     .rw[e];exact VR (by decide)
     .rcases B2.mp hx with rfl|hx
      .exact Tv e2
      .rw[C5.mp hx];exact Tv e3
  .cases h
 .cases h
def xx:∀{r:List G0}{s:BA}{room:Nat}{x:Zk},Ft s room r=some x->∀b∈r,∀c∈b,MJ c
 |[],_,_,_,_=>by intro b hb;simp at hb
 |b::r,s,room,x,h=>by
  have h:(FI b).bind _=some x:=h;cases hl:FI b with
  |none=>rw[hl]at h;cases h
  |some l=>
   rw[hl,Aq]at h;cases ha:Bv s l with
   |none=>rw[ha]at h;cases h
   |some t=>
    rw[ha,Aq]at h;split at h
    .cases h
    .cases e:Ft t (room-Bk s l) r with
     |none=>rw[e]at h;cases h
     |some y=>
      intro b' KR;rcases B2.mp KR with rfl|KR
      .exact als hl
      .exact xx e b' KR
def aoQ{p:pP}(h:QY ls=some p):∀b∈ls,∀c∈b,MJ c:=by
 unfold QY at h;cases ls with
 |nil=>cases h
 |cons h0 r=>
  simp only at h;generalize hw:BI 32 h0 []=ws at h;rcases ws with _|⟨w,_|⟨p,_|⟨y,_|⟨x,_|_⟩⟩⟩⟩
  .cases h
  .cases h
  .cases h
  .cases h
  .simp only at h;split at h
   .cases h
   rename_i e0;cases hp:BY p with
   |none=>rw[hp]at h;cases h
   |some p'=>
    cases hy:BY y with
    |none=>rw[hp,hy]at h;cases h
    |some y'=>
     cases hx:BY x with
     |none=>rw[hp,hy,hx]at h;cases h
     |some x'=>
      rw[hp,hy,hx]at h;simp only[Aq]at h;split at h
      .cases h
      .cases e:Ft (p',y',x') 65536 r with
       |none=>rw[e]at h;cases h
       |some s=>
        intro b hb;rcases B2.mp hb with rfl|hb
        .refine ke (k:=32) (.inr (.inl rfl)) ?_;rw[hw];intro z hz;simp only[B2,DG,or_false]at hz;rcases hz with rfl|rfl|rfl|rfl
         .rw[Classical.not_not.mp e0];exact VR (by decide)
         .exact Tv hp
         .exact Tv hy
         .exact Tv hx
        .exact xx e b hb
  .cases h
def aow{p:pP}(h:M1 b=some p):∀c∈b,MJ c:=by
 rw[yL]at h;refine ke (k:=10) (.inl rfl) λw hw=>?_;by_cases e:w=[]
 .rw[e];intro c hc;simp at hc
 .refine aoQ h w ?_;unfold ZV;simp only;split
  .rename_i q;have Bx:BI 10 b []≠[]:=λz=>by rw[z]at hw;simp at hw
   rw[<-List.dropLast_concat_getLast Bx]at hw;rcases Hr.mp hw with hw|hw
   .exact hw
   .rw[ad7 Bx]at q;rw[GW q]at hw;exact absurd (C5.mp hw) e
  .exact hw
def tx(b:List Nat):Str:=⟨b.toArray⟩
def N9(b:List Nat):TL.tl (tx b)=b:=rfl
def Ld(b:List Nat):(tx b).length=b.length:=by rw[TL.QJ,N9]
def acx(h:tx b=tx c):b=c:=by rw[<-N9 b,h,N9]
def Mh(s:String):EB s=tx (C0 s):=TL.f9 (by rw[TL.au7,N9];rfl)
def lI(c:Nat):∀(l acc:List Nat),TL.Dr [c] 0 acc l=BI c l acc
 |[],acc=>by rw[TL.Xh];rfl
 |d::l,acc=>by
  unfold BI;by_cases h:d=c
  .rw[if_pos h,TL.ac7 (by unfold TL.pre;rw[h];simp)];show acc::TL.Dr [c] 0 [] l=_;rw[lI c l []]
  .rw[if_neg h,TL.ac8 (TL.ap3 [] l h),lI c l (acc++[d])]
def kh(hc:c<256)(b:List Nat):M0 (tx b) (tx [c])=(BI c b []).map tx:=by
 refine TL.vi ?_;rw[TL.auq _ _ (by rw[N9];simp) (TL.aln (by show(#[c]:Array Nat).all _=true;simp[hc])),N9,N9,lI,CA];exact(afD _).symm
def acF(b y:List Nat):UG (tx b) (tx y)=decide (b.take y.length=y):=by
 unfold UG;rw[StrLaws.subAt_eq,Ld,Ld,EM];show(decide (y.length<=b.length)&&((b.drop 0).take y.length==y))=_;rw[Nh];rw[Lv];simp only[CH,decide_eq_true_eq,beq_iff_eq];constructor
 .exact λh=>h.2
 .intro h;refine⟨?_,h⟩;have:=congrArg Hy h;rw[EW]at this;lia
def Cz(c:Nat):Bool:=c==10||c==32||(decide (48<=c)&&decide (c<=57))||(decide (97<=c)&&decide (c<=122))
def yd(c:Nat):Cz c=true↔MJ c:=by
 unfold Cz MJ;simp only[RT,beq_iff_eq,CH,decide_eq_true_eq];lia
def sL:∀c,c<123->aeR c=Rn c:=by decide+kernel
def Xz(h:Cz c=true):c<123:=by
 have:=(yd c).mp h;unfold MJ at this;lia
def uD(h:∀c∈d,Cz c=true):UU (tx d)=(decide (d≠[])&&d.all Rn):=by
 unfold UU;rw[Ld];congr 1
 .cases d<;>simp
 .show d.toArray.all aeR=_;rw[aeb];rw[Lv,EY,EY];exact⟨λq c hc=>by rw[<-sL c (Xz (h c hc))];exact q c hc,λq c hc=>by rw[sL c (Xz (h c hc))];exact q c hc⟩
def aga(d:List Nat):ae4 d=d.foldl (λn c=>10*n+(c-48)) 0:=by
 unfold ae4;congr 1;funext n c;rw[BV]
def am9(h:d.all Rn=true)(h1:d≠[])(h2:d.length<=4300):aeh (tx d)=some ((d.foldl (λn c=>10*n+(c-48)) 0:Nat):Int):=by
 rw[<-aga];exact intText_digits (x:=tx d) (λc hc=>digit_of (EY.mp h c hc)) h1 (by rw[Ld];exact h2)
def anY(h:∀c∈d,Cz c=true):BY d=if(!UU (tx d))=true\/4<d.length\/UG (tx d) (tx [48])=true then none else some (d.foldl (λn c=>10*n+(c-48)) 0):=by
 unfold BY;rw[uD h,acF];by_cases c:d≠[]/\d.length<=4/\d.all Rn=true/\d.head?≠some 48
 .rw[if_pos c,if_neg];obtain⟨c1,c2,c3,c4⟩:=c;rintro(e|e|e)
  .simp[c1,c3]at e
  .lia
  .cases d with
   |nil=>exact c1 rfl
   |cons x d=>
    simp at e;exact c4 (by rw[e];rfl)
 .rw[if_neg c,if_pos];apply P2;intro q;apply c;simp only[not_or,Bool.not_eq_true,Bool.not_eq_false',CH,decide_eq_true_eq]at q;obtain⟨⟨q1,q2⟩,q3,q4⟩:=q;refine⟨q1,by lia,q2,λe=>?_⟩;cases d with
  |nil=>cases e
  |cons x d=>
   cases e;simp at q4
def Mx:List Nat:=C0 "\n 0123456789abcdefghijklmnopqrstuvwxyz"
def aar(c:Nat):c∈Mx↔Cz c=true:=by
 constructor
 .intro h;have:∀x∈Mx,Cz x=true:=by decide
  exact this c h
 .intro h;have hc:=Xz h;have:∀x,x<123->Cz x=true->x∈Mx:=by decide
  exact this c hc h
def vm(f:Nat->V)(b:Nat):∀(l:List Nat)(acc:List (Key×V)),DA (J5 acc (l.map λc=>((G_ ((c:Nat):Int):Key),f c))) (G_ ((b:Nat):Int))=if b∈l then some (f b)else DA acc (G_ ((b:Nat):Int))
 |[],acc=>by simp[J5]
 |c::l,acc=>by
  show DA (J5 (putK acc (G_ ((c:Nat):Int)) (f c)) (l.map _)) _=_;rw[vm f b l,mf];by_cases h:b∈l
  .rw[if_pos h,if_pos (Ba _ h)]
  .rw[if_neg h];by_cases e:b=c
   .rw[if_pos (by rw[e]),if_pos (by rw[e];exact Bu ..),e]
   .rw[if_neg (λz=>e (by injection z with z;lia)),if_neg (λz=>by rcases B2.mp z with z|z;exact e z;exact h z)]
def amJ(b:List Nat):Zc (EB "") (b.map λc=>tx [c])=tx b:=by
 rw[TL.join_eq];refine TL.f9 ?_;rw[TL.aco,CA,Mh,N9];show TL.Vs [] _=_;rw[N9];induction b with
 |nil=>rfl
 |cons c b ih=>
  cases b with
  |nil=>rfl
  |cons d b=>
   rw[BW,BW];show TL.tl (tx [c])++([]++TL.Vs [] (_::_))=_;rw[BW]at ih;rw[Ko,ih];rfl
def pgt(e:X.mg x=some (.ref b))(hg:autoParam (Gl X x) auR)(hd:autoParam ((x==("__debug__":Str))=false) auD):PE X (.Name x pos) (tC (.ref b)):=Y3 hg e rfl hd
def yI(e:X.mg x=some (.ref b))(hg:autoParam (Gl X x) auR)(hd:autoParam ((x==("__debug__":Str))=false) auD):PE X (.Name x pos) (tC (.ref b)):=Y3 hg e rfl hd
abbrev asm(a:Ad):Sp:=CS λv H Q E=>∃d,v=.str (tx d)/\(∀c∈d,Cz c=true)/\d.length<=4096/\match BY d with
 |some n=>Q (.int ((n:Nat):Int)) H
 |none=>E (.ref a.KC) none H
def avB:EB "0"=tx [48]:=Mh "0"
def TQ(T:Txt K mg a):A_ P w K mg base 1 a.lT ["word"] (asm a):=by
 refine T.aj2.Cy atO λAF A outer s H p0 Q E hr h nd=>?_;obtain⟨d,rfl,hd,hl,q⟩:=h;refine⟨_,(A7 (BR (Mr (Mq (Hh (apW PySem.F.slot_str_isdigit PySem.F.type_str_isdigit ana (pv 0)))) (Mr (Bc Ml (CG agu (by rfl) T.E0 Dt (A1 (pv 0) A3)) (Au T.ag4) (BU _)) (Od (Hh (Y4 ad3 ad4 vK (pv 0) EK))))).pt (AE (Ij rfl rfl CD (by rfl) T.KO T.Kf (A1 EK A3))) BO) (AE (Aa (yA afx (by rfl) T.afs boot_int (A1 (pv 0) A3))))).Ak,?_⟩;rw[anY hd]at q;lk;rw[avB];split
 .rename_i c1;refine⟨by rw[Ld];exact B_ (by lia),?_⟩;rw[Ld];split
  .rename_i c2;rw[if_pos (C1 (A6 (by lia)))]at q;exact⟨by decide,q⟩
  .rename_i c2;split
   .rename_i c3;rw[if_pos (C1 (C1 c3))]at q;exact⟨by decide,q⟩
   .rename_i c3;rw[if_neg (by rintro(e|e|e);rw[c1]at e;cases e;lia;exact c3 e)]at q;rw[uD hd,CH,decide_eq_true_eq]at c1;exact⟨_,_,rfl,am9 c1.2 c1.1 (by lia),by rw[Ld];lia,q⟩
 .rename_i c1;rw[if_pos (A6 (by simpa using c1))]at q;exact⟨by decide,q⟩
abbrev asu(a:Ad):Sp:=CS λv H Q E=>∃s:Cu,BB a H v s/\Small s/\if 4096<AK s then E (.ref a.KC) none H else Q .Ah H
def count3(s:BA):s.1*(s.2.1*s.2.2)=AK s:=(B6 ..).symm
def yY(T:Txt K mg a):A_ P w K mg base 3 a.fT ["shape"] (asu a):=by
 refine T.ahO.Cy as4 λAF A outer s H p0 Q E hr h nd=>?_;obtain⟨s0,hs,sm,q⟩:=h;obtain⟨p,dx,rfl,hp⟩:=id hs;refine⟨_,(AE (BR (Bc Ml (Cf (LW T) T.FQ T.L6 hr AD (pv 0)) (Au T.ag7) (BU _)) (AE (Ij rfl rfl CD (by rfl) T.KO T.Kf (A1 EK A3))) BO)).Ak,?_⟩;lk;refine⟨p,dx,_,rfl,hp,by kernel_rfl,s0,hs,sm,?_⟩;rw[count3];split
 .rename_i c;rw[if_pos (by omega)]at q;exact⟨by decide,q⟩
 .rename_i c;rw[if_neg (by omega)]at q;exact q
def LX(a:Ad)(s:BA)(o:Option Cb)(H:Hp)(Q:VK)(E:XK):Prop:=match o with
 |some l=>∀v H',A2 H H'->C2 a H' v s l->Q v H'
 |none=>∀H',A2 H H'->E (.ref a.KC) none H'
section
variable{H:Hp}{R:A0->Hp->Prop}{E:XK}{v:V}{s:BA}{o k:Nat}
def Th(nx:H x=none)(nd:H dx=none)(ne:dx≠x):A2 H (upd (upd H dx (.own x)) x (.ins C dx [])):=((A2.refl H).new nd).new (by rw[AY ne.symm];exact nx)
def amr(hs:BB a H v s)(sm:Small s)(ho:o<2^32)(hk:k<2^32)(q:∀x H',A2 H H'->C2 a H' (.ref x) s (.conv o k)->R x H'):
 ∀x dx,H x=none->H dx=none->dx≠x->lA a [.ref x,v,.int (o:Int),.int (k:Int)] (upd (upd H dx (.own x)) x (.ins a.Conv dx [])) (λv H2=>v=.Ah/\R x H2) E:=λx dx nx nd ne=>
 ⟨x,dx,s,o,k,rfl,AB,hs.mono (Th nx nd ne),sm,rfl,rfl,ho,hk,λu m H' kp hp nu nm su JH=>⟨rfl,q x H' (Ac.made nx nd kp) ⟨x,dx,v,.ref m,.ref u,rfl,hp,hs.mono (Ac.made nx nd kp),JH,su⟩⟩⟩
def amL(hs:BB a H v s)(q:∀x H',A2 H H'->C2 a H' (.ref x) s .pool->R x H'):
 ∀x dx,H x=none->H dx=none->dx≠x->abA a [.ref x,v] (upd (upd H dx (.own x)) x (.ins a.Ed dx [])) (λv H2=>v=.Ah/\R x H2) E:=λx dx nx nd ne=>
 ⟨x,dx,s,rfl,AB,hs.mono (Th nx nd ne),λm H' kp hp nm JH=>⟨rfl,q x H' (Ac.made nx nd kp) ⟨x,dx,v,.ref m,rfl,hp,hs.mono (Ac.made nx nd kp),JH⟩⟩⟩
def amK(hs:BB a H v s)(sm:Small s)(ho:o<2^32)(q:∀x H',A2 H H'->C2 a H' (.ref x) s (.dense o)->R x H'):
 ∀x dx,H x=none->H dx=none->dx≠x->aaz a [.ref x,v,.int (o:Int)] (upd (upd H dx (.own x)) x (.ins a.FN dx [])) (λv H2=>v=.Ah/\R x H2) E:=λx dx nx nd ne=>
 ⟨x,dx,s,o,rfl,AB,hs.mono (Th nx nd ne),sm,rfl,ho,λm H' kp hp nm JH=>⟨rfl,q x H' (Ac.made nx nd kp) ⟨x,dx,v,.ref m,rfl,hp,hs.mono (Ac.made nx nd kp),JH⟩⟩⟩
def amM(hs:BB a H v s)(q:∀x H',A2 H H'->C2 a H' (.ref x) s .relu->R x H'):
 ∀x dx,H x=none->H dx=none->dx≠x->abB a [.ref x,v] (upd (upd H dx (.own x)) x (.ins a.G6 dx [])) (λv H2=>v=.Ah/\R x H2) E:=λx dx nx nd ne=>by
 refine⟨x,dx,rfl,AB,rfl,?_⟩;rw[Ds];have s1:A2 H (upd (upd H dx (.own x)) x (.ins a.G6 dx (E_ v v (.int 0)))):=((A2.refl H).new nd).new (by rw[AY ne.symm];exact nx);exact q x _ s1 ⟨x,dx,v,rfl,AB,hs.mono s1⟩
end
abbrev asw(a:Ad):Sp:=D9 λv1 v2 v3 H Q E=>∃(s:BA)(o k:Nat),v1=.int (o:Int)/\v2=.int (k:Int)/\BB a H v3 s/\Small s/\o<2^32/\k<2^32/\LX a s (if k=1\/k=3\/k=5 then some (.conv o k)else none) H Q E
def av2(k:Nat):Sl (.int (k:Int)) [.int 1,.int 3,.int 5]=decide (k=1\/k=3\/k=5):=by
 rw[Lv];simp only[Sl,R_,List.any_nil,LF,Bool.or_false,RT,beq_iff_eq,decide_eq_true_eq];lia
def ao5(T:Txt K mg a):A_ P w K mg base 5 a.fY ["planes","window","shape"] (asw a):=by
 refine T.ahQ.Dc as6 λAF A outer s H p0 p1 p2 Q E hr h nd=>?_;obtain⟨s0,o,k,rfl,rfl,hs,sm,ho,hk,q⟩:=h;refine⟨_,(A7 (BR (Bc ym (pv 1) (pgt T.Zr) (by with_unfolding_all rfl)) (AE (Ij rfl rfl CD (by rfl) T.KO T.Kf (A1 EK A3))) BO) (AE (Aa (F9 (xJ T) T.vp T.rT hr AD (A1 (pv 2) (A1 (pv 0) (A1 (pv 1) A3))))))).Ak,?_⟩;lk;refine⟨_,_,rfl,C1 (T.au0 H),rfl,by decide,?_⟩;rw[if_pos rfl,av2];lk;by_cases c:k=1\/k=3\/k=5
 .rw[if_pos c]at q⊢;exact amr hs sm ho hk λx H' s' L=>q _ H' s' L
 .rw[if_neg c]at q⊢;exact⟨by decide,q H (A2.refl H)⟩
abbrev asf(a:Ad):Sp:=CS λv1 H Q E=>∃(s:BA),BB a H v1 s/\Small s/\LX a s (if s.2.1 %2=0/\s.2.2 %2=0 then some .pool else none) H Q E
def aoC(T:Txt K mg a):A_ P w K mg base 5 a.js ["shape"] (asf a):=by
 refine T.aix.Cy ark λAF A outer s H p0 Q E hr h nd=>?_;obtain⟨s0,hs,sm,q⟩:=h;obtain⟨b,db,rfl,hb⟩:=id hs;refine⟨_,(A7 (BR (Mr (Bc IE (AM ji (AH (pv 0) rfl) Am) Am (BU _)) (Od (Bc IE (AM ji (AH (pv 0) rfl) Am) Am (BU _)))).pt (AE (Ij rfl rfl CD (by rfl) T.KO T.Kf (A1 EK A3))) BO) (AE (Aa (F9 (aoh T) T.amR T.ak4 hr AD (A1 (pv 0) A3))))).Ak,?_⟩;lk;repeat (simp only[DX T hb,DY T hb,DW T hb];lk)
 refine⟨by decide,?_⟩;split
 .rename_i c1;refine⟨by decide,?_⟩;split
  .rename_i c2;rw[if_pos ⟨by lia,by lia⟩]at q;exact amL hs λx H' s' L=>q _ H' s' L
  .rename_i c2;rw[if_neg (λe=>c2 (by lia))]at q;exact⟨by decide,q H (A2.refl H)⟩
 .rename_i c1;rw[if_neg (λe=>c1 (by lia))]at q;exact⟨by decide,q H (A2.refl H)⟩
def Sv(ws:List (List Nat)):List V:=ws.map λw=> .str (tx w)
def ma(w:List Nat)(s:String):(tx w=EB s)=(w=C0 s):=by
 rw[Mh];exact propext ⟨acx,λe=>by rw[e]⟩
def Ww(k:Nat):∀(b w:List Nat),∀x∈BI k b w,(∀c∈x,c∈b\/c∈w)/\x.length<=b.length+w.length
 |[],w,x,h=>by
  unfold BI at h;rw[C5.mp h];exact⟨λc hc=> .inr hc,by simp⟩
 |d::b,w,x,h=>by
  unfold BI at h;split at h
  .rcases B2.mp h with rfl|h
   .exact⟨λc hc=> .inr hc,by simp⟩
   .obtain⟨h1,h2⟩:=Ww k b [] x h;refine⟨λc hc=>?_,?_⟩
    .rcases h1 c hc with h|h
     .exact .inl (Ba _ h)
     .simp at h
    .rw[B4];simp at h2;lia
  .obtain⟨h1,h2⟩:=Ww k b (w++[d]) x h;refine⟨λc hc=>?_,?_⟩
   .rcases h1 c hc with h|h
    .exact .inl (Ba _ h)
    .rcases Hr.mp h with h|h
     .exact .inr h
     .exact .inl (by rw[C5.mp h];exact Bu ..)
   .rw[Bo,Km]at h2;rw[B4];lia
def Ti(k:Nat):∀(b w:List Nat),BI k b w≠[]
 |[],w=>by unfold BI;simp
 |d::b,w=>by
  unfold BI;split
  .simp
  .exact Ti k b (w++[d])
def Wv(k:Nat):∀(b w:List Nat),(BI k b w).length<=b.length+1
 |[],w=>by unfold BI;simp
 |d::b,w=>by
  unfold BI;split
  .rw[B4,B4];have:=Wv k b [];lia
  .rw[B4];have:=Wv k b (w++[d]);lia
def eV:∀(ws:List (List Nat)),QD K H (Sv ws) (ws.map λw=>Nm (tx w))
 |[]=> .nil
 |_::ws=> .cons (.str _) (eV ws)
def fZ:∀(ws:List (List Nat)),Yr (ws.map λw=>Nm (tx w))=0
 |[]=>rfl
 |w::ws=>by simp only[M4,Yr,PyData.depth,fZ ws,Nat.max_self]
def j1:∀(ws:List (List Nat)),(∀w∈ws,∀c∈w,Cz c=true)->ae5 (ws.map λw=>Nm (tx w))=true
 |[],_=>rfl
 |w::ws,h=>by
  show(PyData.canLay0 (.str (tx w))&&ae5 (ws.map λw=>Nm (tx w)))=true;rw[j1 ws λx hx=>h x (Ba _ hx),Bool.and_true];show w.toArray.all (·<0x110000)=true;rw[aeb,EY];intro c hc;have:=Xz (h w (Bu ..) c hc);exact decide_eq_true (by lia)
def qx:∀(ws vs:List (List Nat)),om (ws.map λw=>Nm (tx w)) (vs.map λw=>Nm (tx w))=decide (ws=vs)
 |[],[]=>rfl
 |[],_::_=>rfl
 |_::_,[]=>rfl
 |w::ws,v::vs=>by
  show(tx w==tx v&&om (ws.map λw=>Nm (tx w)) (vs.map λw=>Nm (tx w)))=_;rw[qx ws vs,Lv];simp only[CH,beq_iff_eq,decide_eq_true_eq,List.cons.injEq];exact⟨λh=>⟨acx h.1,h.2⟩,λh=>⟨by rw[h.1],h.2⟩⟩
def sW(hp:H p=some (.lst (Sv ws)))(hd:H d=some (.lst [.str (EB s)]))(hw:∀w∈ws,∀c∈w,Cz c=true)(hs:∀c∈C0 s,Cz c=true)
 (q:Q (.bl (decide (ws=[C0 s]))) H):zM K (.ref p) (.ref d) H Q:=by
 have e:[V.str (EB s)]=Sv [C0 s]:=by rw[Mh];rfl
 rw[e]at hd;refine⟨_,_,.lst (A4.of hp) (eV ws),.lst (A4.of hd) (eV [C0 s]),?_,?_,?_⟩
 .unfold ZD;rw[CH];refine⟨j1 ws hw,decide_eq_true ?_⟩;show Yr _+1<=64;rw[fZ];decide
 .unfold ZD;rw[CH];refine⟨j1 _ (λw h=>by rw[C5.mp h];exact hs),decide_eq_true ?_⟩;show Yr _+1<=64;rw[fZ];decide
 .show Q (.bl (om _ _)) H;rw[qx];exact q
abbrev asi(a:Ad):Sp:=Dq λv1 v2 H Q E=>∃(b:List Nat)(s:BA),AL H v1 (Sv (BI 32 b []))/\(∀c∈b,Cz c=true)/\b.length<=4096/\BB a H v2 s/\Small s/\LX a s ((FI b).bind λl=>(Bv s l).map λ_=>l) H Q E
def aoE(T:Txt K mg a):A_ P w K mg base 6 a.lQ ["words","shape"] (asi a):=by
 refine T.aiz.En atI λAF A outer s H p0 p1 Q E hr h nd=>?_;obtain⟨b,s0,⟨p,rfl,hp⟩,hb,hl,hs,sm,q⟩:=h;refine⟨_,(A7 (BR (Td (Bc Fs (BL BM (pv 0) Am (λ_ _=>rfl)) EK (BU _)) (Te (Bc Fs (CG EH (by rfl) T.E0 Dt (A1 (pv 0) A3)) Am (BU _)))).pt (AE (Aa (Ag (ao5 T) T.ajP hr AD (A1 (Ag (TQ T) T.SQ hr AD (A1 (BL BM (pv 0) Am (λ_ _=>rfl)) A3)) (A1 (Ag (TQ T) T.SQ hr AD (A1 (BL BM (pv 0) Am (λ_ _=>rfl)) A3)) (A1 (pv 1) A3)))))) BO) (A7 (BR (Td (Bc Fs (BL BM (pv 0) Am (λ_ _=>rfl)) EK (BU _)) (Te (Bc Fs (CG EH (by rfl) T.E0 Dt (A1 (pv 0) A3)) Am (BU _)))).pt (AE (Aa (F9 (aoS T) T.amN T.ak0 hr AD (A1 (pv 1) (A1 (Ag (TQ T) T.SQ hr AD (A1 (BL BM (pv 0) Am (λ_ _=>rfl)) A3)) A3))))) BO) (A7 (BR (Bc (yl hr.units) (pv 0) (Bn (A1 EK A3)) (BU _)) (AE (Aa (F9 (aom T) T.amT T.ajK hr AD (A1 (pv 1) A3)))) BO) (A7 (BR (Bc (yl hr.units) (pv 0) (Bn (A1 EK A3)) (BU _)) (AE (Aa (Ag (aoC T) T.ajW hr AD (A1 (pv 1) A3)))) BO) (AE (Ij rfl rfl CD (by rfl) T.KO T.Kf (A1 EK A3))))))).Ak,?_⟩;have hw:∀w∈BI 32 b [],(∀c∈w,Cz c=true)/\w.length<=4096:=λw hw=>by
  obtain⟨h1,h2⟩:=Ww 32 b [] w hw;exact⟨λc hc=>(h1 c hc).elim (hb c) (λz=>by simp at z),by simp at h2;lia⟩
 have Bx:=Ti 32 b [];unfold FI at q;generalize BI 32 b []=ws at*;w_up;obtain⟨w0,wr,rfl⟩:∃w0 wr,ws=w0::wr:=by
  cases ws with
  |nil=>exact absurd rfl Bx
  |cons x r=>exact⟨x,r,rfl⟩
 fin2;have h0:FP (Sv (w0::wr)) 0=some (.str (tx w0)):=(Cj (Sv (w0::wr)) 0).trans rfl;have mem:∀{i:Nat}{w:List Nat},(w0::wr)[i]? =some w->(∀c∈w,Cz c=true)/\w.length<=4096:=λe=>hw _ (DS e);have lw:(Sv (w0::wr)).length=wr.length+1:=by rw[Sv,AV,B4]
 refine cut λU hU=>?_;lk;refine⟨_,_,A4.of hp,h0,?_⟩;lk;simp only[ma];by_cases c1:w0=C0 "conv"/\wr.length=2
 .rw[if_pos c1.1];refine⟨_,A6 (A4.of hp),?_⟩;rw[if_pos (by rw[lw,c1.2];rfl)];w_up;obtain⟨w1,w2,rfl⟩:∃w1 w2,wr=[w1,w2]:=by
   rcases wr with _|⟨w1,_|⟨w2,_|_⟩⟩<;>simp at c1<;>exact⟨_,_,rfl⟩
  fin2;have q:LX a s0 ((if w0=C0 "conv"then(BY w1).bind λo=>(BY w2).bind λk=>if k=1\/k=3\/k=5 then some (aeS o k)else none else none).bind λl=>(Bv s0 l).map λ_=>l) H Q E:=q;rw[if_pos c1.1]at q;refine⟨_,_,A4.of hp,rfl,w1,rfl,(mem (i:=1) rfl).1,(mem (i:=1) rfl).2,?_⟩;cases e1:BY w1 with
  |none=>rw[e1]at q;exact q H (A2.refl H)
  |some n1=>
   refine⟨_,_,A4.of hp,rfl,w2,rfl,(mem (i:=2) rfl).1,(mem (i:=2) rfl).2,?_⟩;cases e2:BY w2 with
   |none=>rw[e1,e2]at q;exact q H (A2.refl H)
   |some n2=>
    rw[e1,e2]at q;have xw:=He e1;have p2':=He e2;refine⟨s0,hs,sm,by lia,by lia,?_⟩;simp only[Aq]at q;by_cases ck:n2=1\/n2=3\/n2=5
    .rw[if_pos ck]at q⊢;rw[Aq,Bv,if_pos (by rcases ck with h|h|h<;>rw[h])]at q;exact q
    .rw[if_neg ck]at q⊢;exact q
 suffices hh:U [some (.ref p),some p1] H by
  split
  .rename_i c;refine⟨_,A6 (A4.of hp),?_⟩;rw[if_neg (λe=>c1 ⟨c,by rw[lw]at e;lia⟩)];exact hh
  .exact hh
 subst hU;refine cut λU hU=>?_;lk;refine⟨_,_,A4.of hp,h0,?_⟩;lk;simp only[ma];by_cases c2:w0=C0 "dense"/\wr.length=1
 .rw[if_pos c2.1];refine⟨_,A6 (A4.of hp),?_⟩;rw[if_pos (by rw[lw,c2.2];rfl)];w_up;obtain⟨w1,rfl⟩:∃w1,wr=[w1]:=by
   rcases wr with _|⟨w1,_|_⟩<;>simp at c2<;>exact⟨_,rfl⟩
  fin2;have q:LX a s0 ((if w0=C0 "dense"then(BY w1).map aec else none).bind λl=>(Bv s0 l).map λ_=>l) H Q E:=q;rw[if_pos c2.1]at q;refine⟨_,_,A4.of hp,rfl,w1,rfl,(mem (i:=1) rfl).1,(mem (i:=1) rfl).2,?_⟩;cases e1:BY w1 with
  |none=>rw[e1]at q;exact q H (A2.refl H)
  |some n1=>
   rw[e1]at q;have xw:=He e1;exact amK hs sm (by lia) λx H' s' L=>q _ H' s' L
 suffices hh:U [some (.ref p),some p1] H by
  split
  .rename_i c;refine⟨_,A6 (A4.of hp),?_⟩;rw[if_neg (λe=>c2 ⟨c,by rw[lw]at e;lia⟩)];exact hh
  .exact hh
 subst hU;refine cut λU hU=>?_;lk;refine⟨by decide,λd1 BX=>sW (A2.one BX _ _ hp) AB (λw h=>(hw w h).1) (by decide) ?_⟩;have s1:=A2.one (o:=.lst [V.str (EB "relu")]) BX;lk;by_cases c3:w0::wr=[C0 "relu"]
 .rw[if_pos c3];cases c3;exact amM (hs.mono s1) λx H' s' L=>q _ H' (s1.trans s') L
 rw[if_neg c3];subst hU;refine cut λU hU=>?_;lk;refine⟨by decide,λd2 L7=>sW (A2.one L7 _ _ (s1 _ _ hp)) AB (λw h=>(hw w h).1) (by decide) ?_⟩;have s2:=s1.new (o:=.lst [V.str (EB "pool")]) L7;lk;by_cases c4:w0::wr=[C0 "pool"]
 .rw[if_pos c4];cases c4;refine⟨s0,hs.mono s2,sm,?_⟩;have q:LX a s0 ((Bv s0 .pool).map λ_=>aeT) H Q E:=q;rw[Bv]at q;split at q
  .rename_i c;rw[if_pos c];exact λv H' s' L=>q v H' (s2.trans s') L
  .rename_i c;rw[if_neg c];exact λH' s'=>q H' (s2.trans s')
 rw[if_neg c4];subst hU;lk;refine⟨by decide,?_⟩;have q':LX a s0 none H Q E:=by
  rcases wr with _|⟨w1,_|⟨w2,_|⟨w3,r⟩⟩⟩
  .have q:LX a s0 ((if w0=C0 "relu"then some Sn38.Layer.relu else if w0=C0 "pool"then some aeT else none).bind λl=>(Bv s0 l).map λ_=>l) H Q E:=q;rw[if_neg (λe=>c3 (by rw[e])),if_neg (λe=>c4 (by rw[e]))]at q;exact q
  .have q:LX a s0 ((if w0=C0 "dense"then(BY w1).map aec else none).bind λl=>(Bv s0 l).map λ_=>l) H Q E:=q;rw[if_neg (λe=>c2 ⟨e,rfl⟩)]at q;exact q
  .have q:LX a s0 ((if w0=C0 "conv"then(BY w1).bind λo=>(BY w2).bind λk=>if k=1\/k=3\/k=5 then some (aeS o k)else none else none).bind λl=>(Bv s0 l).map λ_=>l) H Q E:=q;rw[if_neg (λe=>c1 ⟨e,rfl⟩)]at q;exact q
  .exact q
 exact q' _ s2
def WO:∀{ys:List Nat}{ws:List V},BG (λy v=>∃t,v=.ref t/\H t=some (.tup [.int ((y:Nat):Int),.str (tx [y])])) ys ws->∃ps:List A0,ws=ps.map V.ref/\M7 (λp kv=>C6 K H p [kV kv.1,kv.2]) ps (ys.map λc=>((G_ ((c:Nat):Int):Key),V.str (tx [c])))
 |[],[],_=>⟨[],rfl,.nil⟩
 |y::ys,w::ws,h=>by
  obtain⟨⟨t,rfl,ht⟩,h⟩:=h;obtain⟨ps,rfl,hp⟩:=WO h;exact⟨t::ps,rfl,.cons (C6.of ht) hp⟩
def ahD(xs:List V):HX xs none (some (-1))=xs.dropLast:=by
 unfold HX;rw[HT.ko,Nh,List.dropLast_eq_take];congr 1;show(if(-1:Int)<0 then((-1:Int)+(xs.length:Int)).toNat else min (-1:Int).toNat xs.length)-0=xs.length-1;rw[if_pos (by decide)];lia
abbrev auc(a:Ad):Sp:=CS λv H Q E=>∃b,AL H v (Nv b)/\b.length<=4096/\if b.all Cz=true then∀H',A2 H H'->Q (.str (tx b)) H' else∀H',A2 H H'->E (.ref a.KC) none H'
def aoK(T:Txt K mg a):A_ P w K mg base 1 a.mU ["text"] (auc a):=by
 refine T.aj8.Cy atW λAF A outer s H p0 Q E hr h nd=>?_;obtain⟨b,⟨p,rfl,hp⟩,hl,q⟩:=h;refine⟨_,(A7 (AW (i:=1) nd rfl (C1 rfl) (yA (afY rfl) (by rfl) T.afr boot_dict (A1 (Q_ (own:=[("sign",3)]) rfl nd (apf (yJ T.agH)) (Ck (by kernel_rfl)) (λ_ _ _ _ _=>(Ay (i:=3) nd rfl (A6 rfl))) (λ_ _ _ _ _=>Cg) (λ_ _ _ _ _=>(jn (A1 (CG agx (by rfl) T.aft boot_ord (A1 (pv 3) A3)) (A1 (pv 3) A3))))) A3))) (A7 (E5 Dd rfl (De (pv 0)) (Ay (i:=2) nd rfl (A6 rfl)) (AE (BR (Tb (y8 (Vm hr) (pv 2) (pv 1)) (by with_unfolding_all rfl)) (AE (Ij rfl rfl CD (by rfl) T.KO T.Kf (A1 EK A3))) BO))) (AE (Aa (apU EK (Q_ (own:=[("byte",2)]) rfl nd (De (pv 0)) (Ck (by kernel_rfl)) (λ_ _ _ _ _=>(Ay (i:=2) nd rfl (A6 rfl))) (λ_ _ _ _ _=>Cg) (λ_ _ _ _ _=>(yB (Vm hr) (pv 1) (pv 2) (λ_ _=>rfl))))))))).Ak,?_⟩;refine cut λU hU=>?_;lk;rw[show EB "\n 0123456789abcdefghijklmnopqrstuvwxyz"=tx Mx from Mh _];refine So (its:=Mx) (λc=>some c) (λy v H=>∃t,v=.ref t/\H t=some (.tup [.int ((y:Nat):Int),.str (tx [y])])) (λ_=>True) (atm (x:=tx Mx)) (λ_ _=>rfl) (by decide) (λc hc H' s' Q' h _=>?_) (λ_ _ _=>trivial) λys e l ws H1 s1 nl CP al=>?_
 .lk;exact⟨rfl,(by show 2<=Al;decide),λt nt=>h c rfl _ _ (A2.one nt) λD nD H3 k=>⟨t,rfl,k t _ AB (λz=>nD (z▸nt))⟩⟩
 rw[mapM_pure]at e;cases e;rw[af9]at al;obtain⟨ps,rfl,Vb⟩:=WO (K:=K) al;refine⟨_,ps,_,rfl,A4.of CP,Vb,λd BX=>?_⟩;have s2:=s1.new (o:=.dK (J5 [] (Mx.map λc=>((G_ ((c:Nat):Int):Key),V.str (tx [c]))))) BX;have hd:upd H1 d (.dK (J5 [] (Mx.map λc=>((G_ ((c:Nat):Int):Key),V.str (tx [c]))))) d=some _:=AB;have ndH:H d=none:=s1.free BX;generalize upd H1 d (.dK (J5 [] (Mx.map λc=>((G_ ((c:Nat):Int):Key),V.str (tx [c])))))=H2 at*;have look:∀{H3:Hp}(c:Nat),A2 H2 H3->HR H3 d (.int ((c:Nat):Int)) (if Cz c=true then some (.str (tx [c]))else none):=λ{H3}c s3=>by
  have:=HR.k (k:=(G_ ((c:Nat):Int):Key)) (s3 _ _ hd);rw[vm (λc=>V.str (tx [c]))]at this;by_cases hc:Cz c=true
  .rw[if_pos hc];rw[if_pos ((aar c).mpr hc)]at this;exact this
  .rw[if_neg hc];rw[if_neg (λz=>hc ((aar c).mp z))]at this;exact this
 subst hU;lk;refine⟨⟨_,A4.of (s2 _ _ hp)⟩,?_⟩;refine HU (H0:=H2) (its:=b) (IJ _ (A4.of (s2 _ _ hp))) (λr σ H'=>D1 (A2 H2 H') ((∃o2,σ=[some (.ref p),some (.ref d),o2,none])) (b.all Cz=r.all Cz)) ⟨A2.refl _,⟨none,rfl⟩,rfl⟩ (λ_ _ _ h=>h.1) ?_ ?_
 .rintro c r σ H3 H4 hm ⟨s3,⟨o2,rfl⟩,Nz⟩ s4;lk;refine⟨_,look c (s3.trans s4),?_⟩;rw[UP]at Nz;by_cases hc:Cz c=true
  .rw[if_pos hc,if_pos (show(some (V.str (tx [c]))).isSome=true from rfl)];rw[hc,aex]at Nz;exact⟨s3.trans s4,⟨_,rfl⟩,Nz⟩
  .rw[if_neg hc,if_neg (by decide)];rw[if_neg (by rw[Nz];simp[hc])]at q;exact⟨by decide,q _ (s2.trans (s3.trans s4))⟩
 .rintro σ H3 ⟨s3,⟨o2,rfl⟩,Nz⟩;have Q9:∀c∈b,Cz c=true:=EY.mp Nz;rw[if_pos (by rw[Nz];rfl)]at q;lk;refine⟨⟨_,A4.of (s3 _ _ (s2 _ _ hp))⟩,?_⟩;refine K0 (its:=b) (λc=> .str (tx [c])) (IJ _ (A4.of (s3 _ _ (s2 _ _ hp)))) (λ_ _=>rfl) (B_ (by lia)) (λc hc H' s' Q' h=>?_) λl2 H4 s4 wu D4=>?_
  .lk;have lk:=look c (s3.trans s');rw[if_pos (Q9 c hc)]at lk;exact⟨_,lk,h _ (A2.refl _)⟩
  .refine⟨_,_,b.map λc=>tx [c],rfl,rfl,A6 (A4.of (by rw[D4,CA];rfl)),?_,?_⟩
   .rw[CA,AV];have e:(b.map ((λx:Str=>x.length)∘λc=>tx [c])).sum=b.length:=by
     clear q hl hp look Nz Q9 D4;induction b with
     |nil=>rfl
     |cons c b ih=>rw[BW,af1,ih,B4];show 1+_=_;lia
    rw[e];show _+b.length*0<=_;lia
   .rw[amJ];exact q _ ((s2.trans s3).trans s4)
abbrev aui(a:Ad):Sp:=CS λv H Q E=>∃b,AL H v (Nv b)/\b.length<=4096/\if b.all Cz=true then DB H Q (Sv (if 1<(BI 10 b []).length/\(BI 10 b []).getLast? =some []then(BI 10 b []).dropLast else BI 10 b []))else∀H',A2 H H'->E (.ref a.KC) none H'
def aoI(T:Txt K mg a):A_ P w K mg base 2 a.kg ["text"] (aui a):=by
 refine T.aj5.Cy atR λAF A outer s H p0 Q E hr h nd=>?_;obtain⟨b,hp,hl,q⟩:=h;refine⟨_,(A7 (AW (i:=1) nd rfl (A6 rfl) (jm (Ag (aoK T) T.ajd hr AD (A1 (pv 0) A3)) EK)) (A7 (BR (Td (Bc Ml (CG EH (by rfl) T.E0 Dt (A1 (pv 1) A3)) Am (BU _)) (Te (Bc Fs (BL BM (pv 1) (Hf Hj Am) (λ_ _=>rfl)) EK (BU _)))).pt (AE (Aa (Jg Jj (pv 1) Oc (Gs (Hf Hj Am))))) BO) (AE (Aa (pv 1))))).Ak,?_⟩;refine cut λU hU=>?_;lk;refine⟨b,hp,hl,?_⟩;by_cases hb:b.all Cz=true
 .rw[if_pos hb]at q⊢;intro H1 s1;refine⟨rfl,by rw[Ld];exact B_ (by lia),λl nl=>?_⟩;rw[show EB "\n"=tx [10]from Mh _,kh (by decide),CA];show U _ (upd H1 l (.lst (Sv (BI 10 b []))));have hlen:=Wv 10 b [];have Bx:=Ti 10 b [];generalize BI 10 b []=ls at*;have s2:=s1.new (o:=.lst (Sv ls)) nl;have D4:upd H1 l (.lst (Sv ls)) l=some (.lst (Sv ls)):=AB;have wz:=s1.free nl;have NR:(Sv ls).length=ls.length:=by rw[Sv,AV]
  subst hU;refine cut λU hU=>?_;lk;refine⟨_,A6 (A4.of D4),?_⟩;rw[NR];by_cases c1:1<ls.length
  .rw[if_pos (by lia)];obtain⟨x,hx⟩:∃x,ls.getLast? =some x:=⟨_,ad7 Bx⟩;refine⟨_,.str (tx x),A4.of D4,?_,?_⟩
   .unfold FP Gr;rw[if_neg (by decide),if_pos (by lia),show(-1+((Sv ls).length:Int)).toNat=ls.length-1 from by lia];show(Sv ls)[ls.length-1]? =_;rw[Sv,D0,<-List.getLast?_eq_getElem?,hx];rfl
   .lk;simp only[ma,show C0 ""=[]from rfl];by_cases c2:x=[]
    .rw[if_pos c2];rw[if_pos ⟨c1,by rw[hx,c2]⟩]at q;refine⟨_,A4.of D4,λd L7=>q d _ (s2.new L7) (s2.free L7) ?_⟩;rw[AB,ahD,Sv,<-List.map_dropLast];rfl
    .rw[if_neg c2];rw[if_neg (λe=>c2 (by rw[hx]at e;exact GW e.2))]at q;subst hU;lk;exact q l _ s2 wz D4
  .rw[if_neg (by lia)];rw[if_neg (λe=>c1 e.1)]at q;subst hU;lk;exact q l _ s2 wz D4
 .rw[if_neg hb]at q⊢;exact q
def OA(b:G0):Option BA:=match BI 32 b []with
 |[w,p,y,x]=>if w≠C0 "input"then none else(BY p).bind λp=>(BY y).bind λy=>(BY x).bind λx=>if 4096<p*y*x then none else some (p,y,x)
 |_=>none
def acA(k:Nat):∀(b acc w x:List Nat)(r:List (List Nat)),BI k b acc=w::x::r->∃rest,acc++b=w++k::rest
 |[],acc,w,x,r,h=>by unfold BI at h;cases h
 |c::b,acc,w,x,r,h=>by
  unfold BI at h;split at h
  .rename_i e;injection h with h1 h2
   exact⟨b,by rw[h1,e]⟩
  .obtain⟨rest,e⟩:=acA k b (acc++[c]) w x r h;exact⟨rest,by rw[<-e,Hs];rfl⟩
def ue{b w x:List Nat}(h:BI 32 b []=w::x::r):(b.take 6=C0 "input ")↔w=C0 "input":=by
 constructor
 .intro e;have hb:b=C0 "input "++b.drop 6:=by rw[<-e,mr]
  rw[hb,show C0 "input "=[105,110,112,117,116,32]from by decide]at h;have e2:BI 32 ([105,110,112,117,116,32]++b.drop 6) []=[105,110,112,117,116]::BI 32 (b.drop 6) []:=by
   simp[BI]
  rw[e2]at h;injection h with h1 _
  rw[<-h1];decide
 .intro e;obtain⟨rest,e2⟩:=acA 32 b [] w x r h;rw[Ko]at e2;rw[e2,e,show C0 "input"=[105,110,112,117,116]from by decide];rfl
def am8(h:b.take 6=C0 "input "):∃w x r,BI 32 b []=w::x::r:=by
 have hb:b=C0 "input "++b.drop 6:=by rw[<-h,mr]
 rw[hb,show C0 "input "=[105,110,112,117,116,32]from by decide];have e2:BI 32 ([105,110,112,117,116,32]++b.drop 6) []=[105,110,112,117,116]::BI 32 (b.drop 6) []:=by
  simp[BI]
 rw[e2];have:=Ti 32 (b.drop 6) [];cases e:BI 32 (b.drop 6) []with
 |nil=>exact absurd e this
 |cons x r=>exact⟨_,x,r,rfl⟩
def VH(a:Ad)(o:Option BA)(H:Hp)(Q:VK)(E:XK):Prop:=match o with
 |some s=>∀v H',A2 H H'->BB a H' v s->Q v H'
 |none=>∀H',A2 H H'->E (.ref a.KC) none H'
abbrev ash(a:Ad):Sp:=CS λv H Q E=>∃b,v=.str (tx b)/\(∀c∈b,Cz c=true)/\b.length<=4096/\VH a (OA b) H Q E
def aoD(T:Txt K mg a):A_ P w K mg base 4 a.lP ["line"] (ash a):=by
 refine T.aiy.Cy asD λAF A outer s H p0 Q E hr h nd=>?_;obtain⟨b,rfl,hb,hl,q⟩:=h;refine⟨_,(A7 (BR (Mq (Hh (Y4 ad3 ad4 vK (pv 0) (yJ T.afM)))) (AE (Ij rfl rfl CD (by rfl) T.KO T.Kf (A1 EK A3))) BO) (A7 (AW (i:=1) nd rfl (A6 rfl) (jm (pv 0) EK)) (A7 (BR (Bc IE (CG EH (by rfl) T.E0 Dt (A1 (pv 1) A3)) Am (BU _)) (AE (Ij rfl rfl CD (by rfl) T.KO T.Kf (A1 EK A3))) BO) (A7 (AW (i:=2) nd rfl (A6 rfl) (F9 (TM T) T.To T.SM hr AD (A1 (Ag (TQ T) T.SQ hr AD (A1 (BL BM (pv 1) Am (λ_ _=>rfl)) A3)) (A1 (Ag (TQ T) T.SQ hr AD (A1 (BL BM (pv 1) Am (λ_ _=>rfl)) A3)) (A1 (Ag (TQ T) T.SQ hr AD (A1 (BL BM (pv 1) Am (λ_ _=>rfl)) A3)) A3))))) (A7 (Df (Ag (yY T) T.qo hr AD (A1 (pv 2) A3))) (AE (Aa (pv 2)))))))).Ak,?_⟩;have hw:∀w∈BI 32 b [],(∀c∈w,Cz c=true)/\w.length<=4096:=λw hw=>by
  obtain⟨h1,h2⟩:=Ww 32 b [] w hw;exact⟨λc hc=>(h1 c hc).elim (hb c) (λz=>by simp at z),by simp at h2;lia⟩
 refine cut λU hU=>?_;lk;rw[show EB "input "=tx (C0 "input ")from Mh _,acF,show(C0 "input ").length=6 from by decide];by_cases c1:b.take 6=C0 "input "
 .rw[decide_eq_true c1,if_pos rfl];obtain⟨w0,w1,r,Vo⟩:=am8 c1;have aJ:=(ue Vo).mp c1;have hlen:=Wv 32 b [];unfold OA at q;rw[Vo]at q hw hlen;subst hU;refine cut λU hU=>?_;lk;refine⟨by decide,by rw[Ld];exact B_ (by lia),λl nl=>?_⟩;rw[show EB " "=tx [32]from Mh _,kh (by decide),CA,Vo];show U _ (upd H l (.lst (Sv (w0::w1::r))));have CP:upd H l (.lst (Sv (w0::w1::r))) l=some (.lst (Sv (w0::w1::r))):=AB;have s1:=A2.one (o:=.lst (Sv (w0::w1::r))) nl;generalize upd H l (.lst (Sv (w0::w1::r)))=H1 at*;subst hU;refine cut λU hU=>?_;lk;refine⟨_,A6 (A4.of CP),?_⟩;rw[show(Sv (w0::w1::r)).length=r.length+2 from by rw[Sv,AV];rfl];by_cases c2:r.length=2
  .obtain⟨w2,w3,rfl⟩:∃w2 w3,r=[w2,w3]:=by
    rcases r with _|⟨w2,_|⟨w3,_|_⟩⟩<;>simp at c2<;>exact⟨_,_,rfl⟩
   rw[if_pos (by rfl)];have q:VH a (if w0≠C0 "input"then none else(BY w1).bind λp=>(BY w2).bind λy=>(BY w3).bind λx=>if 4096<p*y*x then none else some (p,y,x)) H Q E:=q;rw[if_neg (λz=>z aJ)]at q;have mem:∀{i:Nat}{w:List Nat},[w0,w1,w2,w3][i]? =some w->(∀c∈w,Cz c=true)/\w.length<=4096:=λe=>hw _ (DS e);subst hU;refine cut λU hU=>?_;lk;refine⟨_,_,A4.of CP,rfl,w1,rfl,(mem (i:=1) rfl).1,(mem (i:=1) rfl).2,?_⟩;cases e1:BY w1 with
   |none=>rw[e1]at q;exact q _ s1
   |some n1=>
   refine⟨_,_,A4.of CP,rfl,w2,rfl,(mem (i:=2) rfl).1,(mem (i:=2) rfl).2,?_⟩;cases e2:BY w2 with
   |none=>rw[e1,e2]at q;exact q _ s1
   |some n2=>
   refine⟨_,_,A4.of CP,rfl,w3,rfl,(mem (i:=3) rfl).1,(mem (i:=3) rfl).2,?_⟩;cases e3:BY w3 with
   |none=>rw[e1,e2,e3]at q;exact q _ s1
   |some n3=>
   rw[e1,e2,e3]at q;simp only[Aq]at q;have xw:=He e1;have p2':=He e2;have p3':=He e3;refine Sy (n1,n2,n3) rfl rfl rfl λx H2 s2 nx hx=>?_;subst hU;lk;refine⟨(n1,n2,n3),hx,⟨(by show n1<_;lia),(by show n2<_;lia),(by show n3<_;lia)⟩,?_⟩;by_cases c3:4096<n1*n2*n3
   .rw[if_pos c3]at q;rw[if_pos (show 4096<AK (n1,n2,n3)from c3)];exact q _ (s1.trans s2)
   .rw[if_neg c3]at q;rw[if_neg (show¬4096<AK (n1,n2,n3)from c3)];exact q _ _ (s1.trans s2) hx
  .rw[if_neg (by lia)];have q':VH a none H Q E:=by
    rcases r with _|⟨w2,_|⟨w3,_|⟨w4,r⟩⟩⟩
    .exact q
    .exact q
    .exact absurd rfl c2
    .exact q
   exact⟨by decide,q' _ s1⟩
 .rw[decide_eq_false c1,if_neg (by decide)];have q':VH a none H Q E:=by
   unfold OA at q;generalize Vo:BI 32 b []=ws at q;rcases ws with _|⟨w0,_|⟨w1,_|⟨w2,_|⟨w3,_|⟨w4,r⟩⟩⟩⟩⟩
   .exact q
   .exact q
   .exact q
   .exact q
   .have q:VH a (if w0≠C0 "input"then none else(BY w1).bind λp=>(BY w2).bind λy=>(BY w3).bind λx=>if 4096<p*y*x then none else some (p,y,x)) H Q E:=q;rw[if_pos (λe=>c1 ((ue Vo).mpr e))]at q;exact q
   .exact q
  exact⟨by decide,q' _ (A2.refl H)⟩
def aff(hs:Small s)(hl:dI l)(h:Bv s l=some t):Small t:=by
 cases l with
 |relu=>cases h;exact hs
 |dense o=>cases h;exact⟨(by show o<_;have:=hl.2;lia),(by show 1<_;decide),(by show 1<_;decide)⟩
 |pool=>
  rw[Bv]at h;split at h
  .cases h;obtain⟨h1,h2,h3⟩:=hs;exact⟨h1,(by show s.2.1/2<_;lia),(by show s.2.2/2<_;lia)⟩
  .cases h
 |conv o k=>
  rw[Bv]at h;split at h
  .cases h;exact⟨(by show o<_;have:=hl.2.1;lia),hs.2.1,hs.2.2⟩
  .cases h
def ao1(s:BA)(room:Nat)(b:G0)(r:List G0):Ft s room (b::r)=(FI b).bind λl=>(Bv s l).bind λt=>if 4096<AK t\/room<Bk s l then none else(Ft t (room-Bk s l) r).map λx=>((s,l)::x.1,x.2):=rfl
def BB.off(hc:H c=some (.lst xs))(h:BB a H v s):BB a (Aw H [c]) v s:=by
 obtain⟨b,db,rfl,hb⟩:=h;exact⟨b,db,rfl,EJ hb (by rw[C5];exact λe=>by rw[e,hc]at hb;cases hb)⟩
def C2.off(hc:H c=some (.lst xs))(h:C2 a H v s l):C2 a (Aw H [c]) v s l:=by
 have key:∀{b C db:A0}{fs:List (Str×V)},H b=some (.ins C db fs)->Aw H [c] b=some (.ins C db fs):=λhb=>EJ hb (by rw[C5];exact λe=>by rw[e,hc]at hb;cases hb);cases l with
 |dense o=>obtain⟨b,db,g,m,rfl,h1,h2,h3⟩:=h;exact⟨b,db,g,m,rfl,key h1,h2.off hc,h3.off hc⟩
 |relu=>obtain⟨b,db,g,rfl,h1,h2⟩:=h;exact⟨b,db,g,rfl,key h1,h2.off hc⟩
 |pool=>obtain⟨b,db,g,m,rfl,h1,h2,h3⟩:=h;exact⟨b,db,g,m,rfl,key h1,h2.off hc,h3.off hc⟩
 |conv o k=>obtain⟨b,db,g,m,u,rfl,h1,h2,h3,h4⟩:=h;exact⟨b,db,g,m,u,rfl,key h1,h2.off hc,h3.off hc,h4.off hc⟩
def asj(a:Ad):Sp:=Dq λv1 v2 H Q E=>EN λ(ls:List G0)(s:BA)=>ME (AL H v1 (Sv ls)) ((∀b∈ls,(∀c∈b,Cz c=true)/\b.length<=4096)) (ls.length<=8) (BB a H v2 s) (MK s) (AK s<=4096) (match Ft s 65536 ls with
 |some x=>∀p H',A2 H H'->H p=none->EO a H' p x.1->Q (.ref p) H'
 |none=>∀H',A2 H H'->E (.ref a.KC) none H')
def aoF(T:Txt K mg a):A_ P w K mg base 7 a.lR ["lines","given"] (asj a):=by
 refine T.aj0.En atJ λAF A outer s H p0 p1 Q E hr h nd=>?_;obtain⟨ls,s0,⟨pl,rfl,Ax⟩,Qq,h8,hs,WX,Up,q⟩:=h;refine⟨_,(A7 (AW (i:=2) nd rfl (A6 rfl) (Bn A3)) (A7 (AW (i:=3) nd rfl (A6 rfl) (pv 1)) (A7 (AW (i:=4) nd rfl (A6 rfl) (Au T.ag8)) (A7 (E5 Dd rfl (De (pv 0)) (Ay (i:=5) nd rfl (A6 rfl)) (A7 (AW (i:=6) nd rfl (A6 rfl) (Ag (aoE T) T.ajY hr AD (A1 (jm (pv 5) EK) (A1 (pv 3) A3)))) (A7 (Df (Ag (yY T) T.qo hr AD (A1 (AH (pv 6) rfl) A3))) (A7 (BR (Bc Ml (AH (pv 6) rfl) (pv 4) (BU _)) (AE (Ij rfl rfl CD (by rfl) T.KO T.Kf (A1 EK A3))) BO) (A7 (WZ (i:=4) nd rfl (A6 rfl) (AH (pv 6) rfl) amC) (A7 (Df (Fu Fd Gv Hk IB (pv 2) (A1 (pv 6) A3))) (AE (AW (i:=3) nd rfl (A6 rfl) (AH (pv 6) rfl))))))))) (AE (Aa (pv 2))))))).Ak,?_⟩;lk;refine⟨by decide,λc nc=>?_⟩;have s1:=A2.one (o:=.lst []) nc;refine⟨⟨_,A4.of (s1 _ _ Ax)⟩,?_⟩;refine HU (H0:=H) (its:=ls) (IJ (λw=>V.str (tx w)) (A4.of Ax)) (λr σ H'=>A2 H H'/\Es λsh room Xb acc vs=>EN λo5 o6=>Cn (σ=[some (.ref pl),some p1,some (.ref c),some Xb,some (.int ((room:Nat):Int)),o5,o6]) (H' c=some (.lst vs)) (BG (λz v=>C2 a (Aw H' [c]) v z.1 z.2) acc vs) (BB a (Aw H' [c]) Xb sh) (MK sh) (AK sh<=4096) (room<=65536) ((acc.length+r.length<=8)/\(Ft sh room r).map (λx=>(acc++x.1,x.2))=Ft s0 65536 ls)) ?_ (λ_ _ _ h=>h.1) ?_ ?_
 .refine⟨s1,s0,65536,p1,[],[],none,none,rfl,AB,trivial,?_,WX,Up,Az _,by simpa using h8,?_⟩
  .exact hs.mono (X_ s1 λd hd=>by rw[C5.mp hd];exact nc)
  .cases Ft s0 65536 ls<;>rfl
 .intro b r σ H2 H3 hm AG s3;w_up;obtain⟨s2,sh,room,Xb,acc,vs,o5,o6,rfl,hc,c7,Se,ju,rf,alH,tX,B9⟩:=AG;obtain⟨hb,W1⟩:=Qq b hm;fin2;rw[ao1]at B9;have C7:=s2.trans s3;have al6:=Se.mono (F6 s3);have aat:=WK ju.count rf;have bad:Ft s0 65536 ls=none->∀H',A2 H H'->E (.ref a.KC) none H':=λe=>by rw[e]at q;exact q
  refine cut λU hU=>?_;lk;refine⟨by decide,by rw[Ld];exact B_ (by omega),λl nl=>?_⟩;rw[show EB " "=tx [32]from Mh _,kh (by decide),CA];have s4:=A2.one (o:=.lst (M4 (V.str∘tx) (BI 32 b []))) nl;refine⟨b,sh,⟨l,rfl,AB⟩,hb,W1,(al6.mono E7).mono s4,aat,?_⟩;have Iy:=C7.trans s4;have Ek:=s3 _ _ hc;have bl:l≠c:=λe=>by rw[e,Ek]at nl;cases nl
  have l24:A2 (Aw H2 [c]) (Aw (upd H3 l (.lst (M4 (V.str∘tx) (BI 32 b [])))) [c]):=F6 (s3.trans s4);generalize upd H3 l (.lst (M4 (V.str∘tx) (BI 32 b [])))=H4 at*;cases el:FI b with
  |none=>
   rw[el]at B9;exact λH' s'=>bad B9.symm H' (Iy.trans s')
  |some ly=>
  rw[el,Aq]at B9;rw[Aq];cases ha:Bv sh ly with
  |none=>
   rw[ha]at B9;exact λH' s'=>bad B9.symm H' (Iy.trans s')
  |some t=>
  rw[ha,Aq]at B9;have lo:=j2 el;have pt:=gK ju lo ha;have smt:=aff aat lo ha;intro lv H5 s5 LA;have ai:=s5 _ _ (s4 _ _ Ek);w_up;obtain⟨p,C,dx,fs,g,m,rfl,hp,LC,f1,f2,f3,sg,JH⟩:=LA.SI T ha;fin2;have Pz:=Iy.trans s5;have l25:=l24.trans (F6 s5);subst hU;refine cut λU hU=>?_;lk;rw[Bq hp LC.c LC.m f2];refine⟨t,JH,smt,?_⟩;by_cases c1:4096<AK t
  .rw[if_pos c1];rw[if_pos (A6 c1)]at B9;exact bad B9.symm _ Pz
  rw[if_neg c1];subst hU;refine cut λU hU=>?_;lk;rw[Bq hp LC.c LC.o f3];lk;by_cases c2:room<Bk sh ly
  .rw[if_pos (by omega)];rw[if_pos (C1 c2)]at B9;exact⟨by decide,bad B9.symm _ Pz⟩
  rw[if_neg (by omega)];rw[if_neg (by rintro(h|h);exact c1 h;exact c2 h)]at B9;subst hU;refine cut λU hU=>?_;lk;rw[Bq hp LC.c LC.o f3];lk;subst hU;lk;have al:=c7.length;rw[B4]at tX;refine⟨A6 ⟨rfl,_,A4.of ai⟩,_,ai,J8 (by omega),?_⟩;have pc:p≠c:=λe=>by rw[e,ai]at hp;cases hp
  have L5:C2 a (Aw H5 [c]) (.ref p) sh ly:=LA.off ai;w_up;obtain⟨p',C',KH,Gj,g',m',e',FW,LC',f1',qz,f3',sg',aso⟩:=L5.SI T ha;fin2;cases e';have uo:=E7 _ _ FW;rw[hp]at uo;cases uo;rw[f2]at qz;cases qz;rw[Bq (by rw[AY pc];exact hp) LC.c LC.m f2];refine⟨Pz.own nc,t,room-Bk sh ly,m,acc++[(sh,ly)],vs++[.ref p],some (.str (tx b)),some (.ref p),?_,AB,?_,?_,pt,by omega,by omega,by rw[Bo,Km];omega,?_⟩
  .rw[show((room:Nat):Int)-((Bk sh ly:Nat):Int)=((room-Bk sh ly:Nat):Int)from by omega]
  .rw[GH (C5.mpr rfl)];have am1:BG (λ(z:BA×Cb)v=>C2 a (Aw H5 [c]) v z.1 z.2) acc vs:=BG.mono (λ_ _ e=>e.mono l25) c7;exact BG.snoc (R:=λ(z:BA×Cb)v=>C2 a (Aw H5 [c]) v z.1 z.2) L5 am1
  .rw[GH (C5.mpr rfl)];exact aso
  .rw[<-B9,RP];congr 1;funext x;show(acc++[(sh,ly)]++x.1,x.2)=(acc++((sh,ly)::x.1),x.2);rw[Hs];rfl
 .intro σ H2 AG;w_up;obtain⟨s2,sh,room,Xb,acc,vs,o5,o6,rfl,hc,c7,Se,ju,rf,alH,tX,B9⟩:=AG;fin2;lk;have e:Ft s0 65536 ls=some (acc++[],sh):=B9.symm;rw[e]at q;refine q c H2 s2 nc ⟨vs,hc,?_⟩;rw[JD];exact BG.mono (λ_ _ e=>C2.mono e E7) c7
def apK(h:G0)(r:List G0):QY (h::r)=if 8<r.length then none else(OA h).bind λs=>(Ft s 65536 r).map λx=>⟨s,x.1,x.2⟩:=by
 unfold QY OA;simp only;generalize BI 32 h []=ws;rcases ws with _|⟨w,_|⟨p,_|⟨y,_|⟨x,_|_⟩⟩⟩⟩
 all_goals try simp only
 .split<;>rfl
 .split<;>rfl
 .split<;>rfl
 .split<;>rfl
 .by_cases c0:w≠C0 "input"
  .rw[if_pos c0,if_pos c0];split<;>rfl
  rw[if_neg c0,if_neg c0];cases BY p with
  |none=>split<;>rfl
  |some p=>
   cases BY y with
   |none=>split<;>rfl
   |some y=>
    cases BY x with
    |none=>split<;>rfl
    |some x=>
     simp only[Aq];by_cases c1:8<r.length
     .rw[if_pos (A6 c1),if_pos c1]
     .rw[if_neg c1];by_cases c2:4096<p*y*x
      .rw[if_pos (C1 c2),if_pos c2];rfl
      .rw[if_neg (by rintro(h|h);exact c1 h;exact c2 h),if_neg c2];rfl
 .split<;>rfl
def ajD(h:OA b=some s):MK s/\AK s<=4096:=by
 unfold OA at h;generalize BI 32 b []=ws at h;rcases ws with _|⟨w,_|⟨p,_|⟨y,_|⟨x,_|_⟩⟩⟩⟩
 .cases h
 .cases h
 .cases h
 .cases h
 .simp only at h;split at h
  .cases h
  cases hp:BY p with
  |none=>rw[hp]at h;cases h
  |some p'=>
   cases hy:BY y with
   |none=>rw[hp,hy]at h;cases h
   |some y'=>
    cases hx:BY x with
    |none=>rw[hp,hy,hx]at h;cases h
    |some x'=>
     rw[hp,hy,hx]at h;simp only[Aq]at h;split at h
     .cases h
     .rename_i c;cases h;exact⟨⟨(He hp).1,(He hy).1,(He hx).1⟩,by show p'*y'*x'<=4096;lia⟩
 .cases h
def K1(b:G0):List G0:=if 1<(BI 10 b []).length/\(BI 10 b []).getLast? =some []then(BI 10 b []).dropLast else BI 10 b []
def aox(b:G0):M1 b=QY (K1 b):=by
 rw[yL];unfold ZV K1;simp only;have Bx:=Ti 10 b [];generalize BI 10 b []=l at*;by_cases c1:1<l.length
 .by_cases c2:l.getLast? =some []
  .rw[if_pos c2,if_pos ⟨c1,c2⟩]
  .rw[if_neg c2,if_neg (λe:1<l.length/\l.getLast? =some []=>c2 e.2)]
 .rw[if_neg (λe:1<l.length/\l.getLast? =some []=>c1 e.1)];obtain⟨x,rfl⟩:∃x,l=[x]:=by
   rcases l with _|⟨x,_|_⟩
   .exact absurd rfl Bx
   .exact⟨x,rfl⟩
   .simp at c1
  by_cases c2:x=[]
  .rw[c2];rfl
  .rw[if_neg (λe=>c2 (by simpa using e))]
def am0(b:G0):K1 b≠[]:=by
 unfold K1;have Bx:=Ti 10 b [];generalize BI 10 b []=l at*;split
 .rename_i c;rcases l with _|⟨x,_|⟨y,r⟩⟩
  .exact absurd rfl Bx
  .simp at c
  .simp
 .exact Bx
def al_(h:x∈K1 b):x∈BI 10 b []:=by
 unfold K1 at h;split at h
 .exact List.dropLast_subset _ h
 .exact h
def alz(b:G0):(K1 b).length<=b.length+1:=by
 have:=Wv 10 b [];unfold K1;split
 .rw[List.length_dropLast];omega
 .exact this
def YE:Fits zs (NC zs):=by
 refine⟨?_,λr hr y hy=>?_⟩
 .unfold NC;induction zs with
  |nil=>trivial
  |cons z zs ih=>exact⟨GN ..,ih⟩
 .obtain⟨z,_,rfl⟩:=Ca.mp hr;exact Q0 y hy
def asl(a:Ad):Sp:=CS λv H Q E=>∃b,D1 (AL H v (Nv b)) (b.length<=4096) (match M1 b with
 |some p=>∀v' H',A2 H H'->Dl a H' v' (Z_ p)->Fo (Z_ p)->Q v' H'
 |none=>∀H',A2 H H'->E (.ref a.KC) none H')
def aoG(T:Txt K mg a):A_ P w K mg base 8 a.lS ["text"] (asl a):=by
 refine T.aj1.Cy atM λAF A outer s H p0 Q E hr h nd=>?_;obtain⟨b,hb,hl,q⟩:=h;refine⟨_,(A7 (AW (i:=1) nd rfl (A6 rfl) (Ag (aoI T) T.ajb hr AD (A1 (pv 0) A3))) (A7 (BR (Bc Ml (CG EH (by rfl) T.E0 Dt (A1 (pv 1) A3)) (AM Cr Am (Au T.ag6)) (BU _)) (AE (Ij rfl rfl CD (by rfl) T.KO T.Kf (A1 EK A3))) BO) (A7 (AW (i:=2) nd rfl (A6 rfl) (Ag (aoD T) T.ajX hr AD (A1 (BL BM (pv 1) Am (λ_ _=>rfl)) A3))) (AE (Aa (F9 (aod T) T.amQ T.ak3 hr AD (A1 (pv 2) (A1 (Ag (aoF T) T.ajZ hr AD (A1 (Jg Jj (pv 1) (Gs Am) Oc) (A1 (pv 2) A3))) A3)))))))).Ak,?_⟩;refine cut λU hU=>?_;lk;refine⟨b,hb,hl,?_⟩;by_cases c0:b.all Cz=true
 .rw[if_pos c0];intro l H1 s1 nl CP;have Q9:∀x∈K1 b,(∀c∈x,Cz c=true)/\x.length<=4096:=λx hx=>by
   obtain⟨h1,h2⟩:=Ww 10 b [] x (al_ hx);exact⟨λc hc=>(h1 c hc).elim (EY.mp c0 c) (λz=>by simp at z),by simp at h2;lia⟩
  have CP:H1 l=some (.lst (Sv (K1 b))):=CP;rw[aox]at q;have Bx:=am0 b;have hlen:=alz b;generalize K1 b=ls at*;obtain⟨h0,r,rfl⟩:∃h0 r,ls=h0::r:=by
   cases ls with
   |nil=>exact absurd rfl Bx
   |cons x r=>exact⟨x,r,rfl⟩
  rw[apK]at q;rw[B4]at hlen;subst hU;refine cut λU hU=>?_;lk;refine⟨_,A6 (A4.of CP),?_⟩;rw[show(Sv (h0::r)).length=r.length+1 from by rw[Sv,AV];rfl];by_cases c1:8<r.length
  .rw[if_pos (by lia)];rw[if_pos c1]at q;exact⟨by decide,q _ s1⟩
  rw[if_neg (by lia)];rw[if_neg c1]at q;subst hU;refine cut λU hU=>?_;lk;have xG:=Q9 h0 (Bu ..);refine⟨_,_,A4.of CP,(Cj (Sv (h0::r)) 0).trans rfl,h0,rfl,xG.1,xG.2,?_⟩;cases eg:OA h0 with
  |none=>
   rw[eg]at q;exact λH' s'=>q H' (s1.trans s')
  |some s0=>
  rw[eg,Aq]at q;obtain⟨WX,Up⟩:=ajD eg;intro gv H2 s2 hs;have e2:=s1.trans s2;subst hU;lk;refine⟨_,A4.of (s2 _ _ CP),λl2 wu=>?_⟩;rw[show HX (Sv (h0::r)) (some 1) none=Sv r from Ur (Sv (h0::r)) 1];have s3:=A2.one (o:=.lst (Sv r)) wu;have e3:=e2.trans s3;refine⟨r,s0,⟨l2,rfl,AB⟩,λx hx=>Q9 x (Ba _ hx),by lia,hs.mono s3,WX,Up,?_⟩;cases el:Ft s0 65536 r with
  |none=>
   rw[el]at q;exact λH' s'=>q H' (e3.trans s')
  |some x=>
  rw[el]at q;obtain⟨ch,xl⟩:=y4 el WX Up (Az _);intro ly H4 s4 nly hly x' dx nx xf ne;have s5:A2 H4 _:=Th (C:=a.Net) nx xf ne;refine⟨x',dx,ly,s0,x.2,x.1,rfl,AB,(hs.mono (s3.trans s4)).mono s5,rfl,hly.mono s5,ch,by lia,λo v m t H' kp hp r1 r2 r3 r4 nd5 ly' iC=>⟨rfl,?_⟩⟩;have e6:A2 H4 H':=Ac.made nx xf kp;refine q _ H' ((e3.trans s4).trans e6) ⟨x',dx,gv,ly,o,v,m,t,rfl,hp,iC,ly',r1,r2,r3,r4,nd5⟩ ⟨ch,⟨WX.count,Up⟩,by show x.1.length<=8;lia,YE,YE,YE,YE⟩
 .rw[if_neg c0];have:M1 b=none:=by
   cases e:M1 b with
   |none=>rfl
   |some p=>exact absurd (EY.mpr λc hc=>(yd c).mpr (aow e c hc)) c0
  rw[this]at q;exact q
def ap5(hK:X.K=K)(ha:PE X o ta)(hv:PE X value tv)(hs:M2 value (some (.Attribute o f pos')) pos.line X.env=pure false):PS X (.Assign [.Attribute o f pos'] value pos) (m5 K ta tv f):=by subst hK;exact C9 ha hv hs
def Nw:HO->Prop
 | .CY _ _=>True
 | .ins _ _ fs=>fs.lookup ("place":Str)≠none
 |_=>False
def Fr(H H':Hp):Prop:=∀b ob,H b=some ob->Nw ob->H' b=some ob
def A2.fr(s:A2 H H'):Fr H H':=λb ob e _=>s b ob e
def Fr.trans(f:Fr H H1)(g:Fr H1 H2):Fr H H2:=λb ob e o=>g b ob (f b ob e o) o
def Ac.fr(k:Ac p H H')(h:∀ob,H p=some ob->¬Nw ob):Fr H H':=λb ob e o=>k b ob e λz=>h ob (z▸e) o
def Dk(a:Ad)(H:Hp)(st:Option CI)(h:A0):Prop:=match st with
 |none=>∃dh,H h=some (.ins a.Cp dh (DV .Ah))
 |some n=>∃dh p,H h=some (.ins a.Cp dh (DV (.ref p)))/\Dl a H (.ref p) n/\Fo n
def Dk.mono{st:Option CI}{h:A0}(x:Dk a H st h)(s:A2 H H'):Dk a H' st h:=by
 cases st with
 |none=>obtain⟨dh,e⟩:=x;exact⟨dh,s _ _ e⟩
 |some n=>obtain⟨dh,p,e,N,O⟩:=x;exact⟨dh,p,s _ _ e,N.mono s,O⟩
def Dk.dh{st:Option CI}{h:A0}(x:Dk a H st h):∃dh v,H h=some (.ins a.Cp dh (DV v)):=by
 cases st with
 |none=>obtain⟨dh,e⟩:=x;exact⟨dh,_,e⟩
 |some n=>obtain⟨dh,p,e,_⟩:=x;exact⟨dh,_,e⟩
def dW:HO->Prop
 | .CY _ _=>True
 | .ins _ _ fs=>fs.lookup ("place":Str)≠none\/fs.lookup ("net":Str)≠none
 |_=>False
def Nw.odd(h:Nw o):dW o:=by
 cases o with
 |CY _ _=>trivial
 |ins _ _ fs=>exact A6 h
 |_=>exact h
section
variable{H:Hp}{c:A0}{oc:HO}(hc:H c=some oc)(ho:dW oc)
include hc ho
def TX(h:H b=some (.ins C db fs))(n:fs.lookup ("place":Str)=none/\fs.lookup ("net":Str)=none):C8 H c b=some (.ins C db fs):=Jb h λz=>by
 rw[z,hc]at h;cases h;rcases ho with h|h
 .exact h n.1
 .exact h n.2
def jk(h:H b=some (.lst xs)):C8 H c b=some (.lst xs):=Jb h λz=>by
 rw[z,hc]at h;cases h;exact ho
def BB.out(h:BB a H v s):BB a (C8 H c) v s:=let⟨b,db,e,hb⟩:=h;⟨b,db,e,TX hc ho hb ⟨by kernel_rfl,by kernel_rfl⟩⟩
def C2.out(h:C2 a H v s l):C2 a (C8 H c) v s l:=by
 cases l with
 |dense o'=>obtain⟨b,db,g,m,rfl,h1,h2,h3⟩:=h;exact⟨b,db,g,m,rfl,TX hc ho h1 ⟨by kernel_rfl,by kernel_rfl⟩,h2.out hc ho,h3.out hc ho⟩
 |relu=>obtain⟨b,db,g,rfl,h1,h2⟩:=h;exact⟨b,db,g,rfl,TX hc ho h1 ⟨by kernel_rfl,by kernel_rfl⟩,h2.out hc ho⟩
 |pool=>obtain⟨b,db,g,m,rfl,h1,h2,h3⟩:=h;exact⟨b,db,g,m,rfl,TX hc ho h1 ⟨by kernel_rfl,by kernel_rfl⟩,h2.out hc ho,h3.out hc ho⟩
 |conv o' k=>obtain⟨b,db,g,m,u,rfl,h1,h2,h3,h4⟩:=h;exact⟨b,db,g,m,u,rfl,TX hc ho h1 ⟨by kernel_rfl,by kernel_rfl⟩,h2.out hc ho,h3.out hc ho,h4.out hc ho⟩
def EO.out(h:EO a H l zs):EO a (C8 H c) l zs:=by
 obtain⟨vs,h1,h2⟩:=h;exact⟨vs,jk hc ho h1,BG.mono (λ_ _ e=>C2.out hc ho e) h2⟩
def AX.out:∀{vs:List V}{ls:List (List V)},AX H vs ls->AX (C8 H c) vs ls
 |[],[],_=>trivial
 |_::_,[],h=>h.elim
 |[],_::_,h=>h.elim
 |_::_,_::_,h=>⟨let⟨b,e,hb⟩:=h.1;⟨b,e,jk hc ho hb⟩,AX.out h.2⟩
def Bw.out(h:Bw H d rows):Bw (C8 H c) d rows:=by
 obtain⟨vs,h1,h2⟩:=h;exact⟨vs,jk hc ho h1,AX.out hc ho h2⟩
def Dl.out(h:Dl a H x n):Dl a (C8 H c) x n:=by
 obtain⟨q,dq,g,l,o,v,m,s,rfl,N⟩:=h;exact⟨q,dq,g,l,o,v,m,s,rfl,TX hc ho N.at_ ⟨by kernel_rfl,by kernel_rfl⟩,N.gv.out hc ho,N.ly.out hc ho,N.ow.out hc ho,N.vv.out hc ho,N.mm.out hc ho,N.ss.out hc ho,N.nd⟩
end
def Dk.out{oc:HO}(hc:H c=some oc)(ho:Nw oc){st:Option CI}{h:A0}(x:Dk a H st h):Dk a (C8 H c) st h:=by
 have key:∀{b C db:A0}{v:V},H b=some (.ins C db (DV v))->C8 H c b=some (.ins C db (DV v)):=λ{b C db v}h=>Jb h λz=>by
  rw[z,hc]at h;cases h;exact ho (by kernel_rfl)
 cases st with
 |none=>obtain⟨dh,e⟩:=x;exact⟨dh,key e⟩
 |some n=>obtain⟨dh,p,e,N,O⟩:=x;exact⟨dh,p,key e,N.out hc ho.odd,O⟩
def ak8:dW (.ins C dh (DV v)):=C1 (λe=>by rw[rO]at e;cases e)
def Dl.ale(hh:H h=some (.ins C dh (DV v)))(k:Ac h H H')(N:Dl a H x n):Dl a H' x n:=(N.out hh ak8).mono (Jc k)
def tK:¬Nw (.ins C dh (DV v)):=λo=>o (by kernel_rfl)
def Gf(a:Ad)(H:Hp)(h:A0)(r:Option CI×pS)(Q:VK):Prop:=∀l H',Fr H H'->H' l=some (.lst (.int r.2.value::Nv r.2.out))->Dk a H' r.1 h->Q (.ref l) H'
def Zl(a:Ad)(K:Ae)(H:Hp)(v:V)(xs:List Int)(i:Nat)(r dr c:A0):Prop:=v=.ref r/\H r=some (.ins a.Reader dr (EU (.ref c) (.int ((i:Nat):Int))))/\A4 K H c (Iv xs)
def moved(a:Ad)(H:Hp)(r dr c:A0)(i:Nat):Hp:=upd H r (.ins a.Reader dr (EU (.ref c) (.int ((i:Nat):Int))))
def asr(a:Ad)(K:Ae):Sp:=CS λv H Q _=>Es λxs i r dr c=>Zl a K H v xs i r dr c/\Q (.bl (decide (xs.length<=i))) H
def aao(a:Ad)(K:Ae):Sp:=CS λv H Q _=>Et λxs i r dr c n=>D1 (Zl a K H v xs i r dr c) (xs[i]? =some n) (Q (.int n) (moved a H r dr c (i+1)))
def abE(a:Ad)(K:Ae):Sp:=Dq λv v2 H Q _=>Et λxs i r dr c k=>Fm (Zl a K H v xs i r dr c) (v2=.int ((k:Nat):Int)) (i+k<=xs.length) (∀l,moved a H r dr c (i+k) l=none->Q (.ref l) (upd (moved a H r dr c (i+k)) l (.lst (Iv ((xs.drop i).take k)))))
def ac1(a:Ad)(K:Ae):Sp:=CS λv H Q _=>Et λxs i r dr c k=>Fm (Zl a K H v xs i r dr c) (xs[i]? =some ((k:Nat):Int)) (i+1+k<=xs.length) (∀l,moved a H r dr c (i+1+k) l=none->Q (.ref l) (upd (moved a H r dr c (i+1+k)) l (.lst (Iv ((xs.drop (i+1)).take k)))))
def asn(a:Ad):Sp:=Dq λv1 v2 H Q _=>EN λp dx=>D1 (v1=.ref p) (H p=some (.ins a.Reader dx [])) (Q .Ah (upd H p (.ins a.Reader dx (EU v2 (.int 0)))))
def atB(a:Ad):Sp:=CS λv1 H Q _=>EN λp dx=>D1 (v1=.ref p) (H p=some (.ins a.Cp dx [])) (Q .Ah (upd H p (.ins a.Cp dx (DV .Ah))))
abbrev asq:Sp:=CS λv H Q _=>∃x,AL H v (Nv x)/\(∀y∈x,y<2^32)/\x.length<=2^20/\∀H',A2 H H'->Q (.bl (x.all HK)) H'
def apI(x y:V):AS "place" y (AS "calls" x [])=EU x y:=by kernel_rfl
def xn(x y z:V):AS "place" z (EU x y)=EU x z:=by kernel_rfl
def apE(x:V):AS "net" x []=DV x:=by kernel_rfl
def xm(x y:V):AS "net" y (DV x)=DV y:=by kernel_rfl
def acD(hr:H r=some (.ins C dx fs))(h:A4 K H c xs):A4 K (upd H r (.ins C dx Gj)) c xs:=by
 rcases h with(h|⟨o,h⟩)|h
 .exact .inl (.inl (by rw[AY (λz=>by rw[z,hr]at h;cases h)];exact h))
 .exact .inl (.inr ⟨o,by rw[AY (λz=>by rw[z,hr]at h;cases h)];exact h⟩)
 .exact .inr h
def aok(T:Txt K mg a):A_ P w K mg base 1 a.cu ["self","calls"] (asn a):=by
 refine T.ah_.En asa λAF A outer s H p0 p1 Q E hr h nd=>?_;obtain⟨p,dx,rfl,hp,q⟩:=h;refine⟨_,(A7 (C9 (pv 0) (pv 1) rfl) (AE (C9 (pv 0) Am rfl))).Ak,?_⟩;lk;refine⟨p,_,dx,_,rfl,hp,T.EG,T.xW,by decide,p,_,dx,_,rfl,AB,T.EG,T.bQ,(by show 1<1000;decide),?_⟩;rw[Ds,apI];exact q
def aoY(T:Txt K mg a):A_ P w K mg base 1 a.eZ ["self"] (atB a):=by
 refine T.ai1.Cy asG λAF A outer s H p0 Q E hr h nd=>?_;obtain⟨p,dx,rfl,hp,q⟩:=h;refine⟨_,(AE (C9 (pv 0) yC rfl)).Ak,?_⟩;lk;refine⟨p,_,dx,_,rfl,hp,T.HW,T.cI,by decide,?_⟩;rw[apE];exact q
def aoj(T:Txt K mg a):A_ P w K mg base 1 a.cq ["self"] (asr a K):=by
 refine T.ahZ.Cy as_ λAF A outer s H p0 Q E hr h nd=>?_;obtain⟨xs,i,r,dr,c,⟨rfl,CC,hc⟩,q⟩:=h;refine⟨_,(AE (Aa (QZ Y0 (AH (pv 0) rfl) (CG EH (by rfl) T.E0 Dt (A1 (AH (pv 0) rfl) A3)) (BU _)))).Ak,?_⟩;lk;repeat (simp only[aN T CC,aO T CC];lk)
 refine⟨_,A6 hc,?_⟩;rw[show(Iv xs).length=xs.length from AV ..];rw[show decide (((xs.length:Nat):Int)<=((i:Nat):Int))=decide (xs.length<=i)from by rw[decide_eq_decide];omega];exact q
def TK(T:Txt K mg a):A_ P w K mg base 1 a.cx ["self"] (aao a K):=by
 refine T.aha.Cy asb λAF A outer s H p0 Q E hr h nd=>?_;obtain⟨xs,i,r,dr,c,n,⟨rfl,CC,hc⟩,hn,q⟩:=h;refine⟨_,(A7 (AW (i:=1) nd rfl (A6 rfl) (BL BM (AH (pv 0) rfl) (AH (pv 0) rfl) (λ_ _=>rfl))) (A7 (yQ (pv 0) Am uZ) (AE (Aa (pv 1))))).Ak,?_⟩;lk;repeat (simp only[aN T CC,aO T CC];lk)
 refine⟨_,.int n,hc,by rw[Cj,Iv,D0,hn];rfl,r,_,dr,_,_,rfl,CC,T.EG,T.bQ,bK ..,_,_,rfl,rfl,dr,_,CC,(by show 2<1000;decide),?_⟩;rw[xn];exact q
def kW(T:Txt K mg a):A_ P w K mg base 1 a.cy ["self","count"] (abE a K):=by
 refine T.ahb.En arl λAF A outer s H p0 p1 Q E hr h nd=>?_;obtain⟨xs,i,r,dr,c,k,⟨rfl,CC,hc⟩,rfl,hk,q⟩:=h;refine⟨_,(A7 (AW (i:=2) nd rfl (A6 rfl) (AH (pv 0) rfl)) (A7 (yQ (pv 0) (pv 1) uZ) (AE (Aa (Jg Jj (AH (pv 0) rfl) (Gs (pv 2)) (Gs (AH (pv 0) rfl))))))).Ak,?_⟩;lk;repeat (simp only[aN T CC,aO T CC];lk)
 refine⟨r,_,dr,_,_,rfl,CC,T.EG,T.bQ,bK ..,_,_,rfl,rfl,dr,_,CC,(by show 2<1000;decide),?_⟩;rw[xn,show((i:Nat):Int)+((k:Nat):Int)=((i+k:Nat):Int)from by lia];have MD:upd H r (.ins a.Reader dr (EU (.ref c) (.int ((i+k:Nat):Int)))) r=some (.ins a.Reader dr (EU (.ref c) (.int ((i+k:Nat):Int)))):=AB;have Gm:=acD (Gj:=EU (.ref c) (.int ((i+k:Nat):Int))) CC hc;repeat (simp only[aN T MD,aO T MD];lk)
 refine⟨_,Gm,λl nl=>?_⟩;rw[bA,show i+k-i=k from by lia];have:=q l nl;rw[Iv,PR,UN]at this;exact this
def QV(T:Txt K mg a):A_ P w K mg base 2 a.cz ["self"] (ac1 a K):=by
 refine T.ahc.Cy arn λAF A outer s H p0 Q E hr h nd=>?_;obtain⟨xs,i,r,dr,c,k,⟨rfl,CC,hc⟩,hn,hk,q⟩:=h;refine⟨_,(AE (Aa (Bb (kW T) T.EG T.jA hr AD (pv 0) (A1 (Cf (TK T) T.EG T.Sw hr AD (pv 0)) A3)))).Ak,?_⟩;lk;refine⟨r,dr,_,rfl,CC,by kernel_rfl,r,dr,_,rfl,CC,by kernel_rfl,xs,i,r,dr,c,_,⟨rfl,CC,hc⟩,hn,?_⟩;refine⟨xs,i+1,r,dr,c,k,⟨rfl,AB,acD CC hc⟩,rfl,hk,λl nl=>?_⟩;unfold moved at*;rw[Ds]at nl⊢;exact q l nl
def yX(T:Txt K mg a):A_ P w K mg base 2 a.fH ["singles"] asq:=by
 refine T.ahN.Cy as3 λAF A outer s H p0 Q E hr h nd=>?_;obtain⟨x,⟨b,rfl,hb⟩,hx,hl,q⟩:=h;refine⟨_,(AE (Aa (CG (ah7 rfl) (by rfl) T.afq boot_all (A1 (FZ (own:=[("single",1)]) rfl rfl rfl CD rfl nd (De (pv 0)) (Ck (by kernel_rfl)) (λ_ _ _ _ _=>(Ay (i:=1) nd rfl (A6 rfl))) (λ_ _ _ _ _=>Cg) (λ_ _ _ _ _ _ _ An=>(Ag (ao9 T) T.ajT hr An (A1 (pv 1) A3)))) A3)))).Ak,?_⟩;lk;refine⟨⟨_,A4.of hb⟩,K0 (its:=x) (λy=> .bl (HK y)) (IJ _ (A4.of hb)) (λ_ _=>rfl) (B_ hl) (λy hy H' s' Q' h=>?_) λl H' s' nl FV=>?_⟩
 .lk;exact⟨hx y hy,h _ (A2.refl _)⟩
 .refine⟨_,x.map HK,rfl,A4.of (by rw[FV,CA];rfl),?_⟩;have e:(x.map HK).all id=x.all HK:=by rw[aew];rfl
  rw[e];exact q H' s'
def Gf.one(q:Gf a H h r Q)(st:Option CI)(v:Int)(e:r=(st,⟨v,[]⟩))(f:Fr H H1)(hi:Dk a H1 st h):∀l,H1 l=none->Q (.ref l) (upd H1 l (.lst [.int v])):=λl nl=>by
 subst e;exact q l _ (f.trans (A2.fr (A2.one nl))) AB (hi.mono (A2.one nl))
def ass(a:Ad):Sp:=Dq λv1 v2 H Q _=>Eb λh st b=>Im (v1=.ref h) (Dk a H st h) (AL H v2 (Nv b)) (b.length<=2^20) (Gf a H h (DL st (.begin_ b ((b.length:Nat):Int))) Q)
def aoV(T:Txt K mg a):A_ P w K mg base 9 a.eW ["self","text"] (ass a):=by
 refine T.ahy.En ar9 λAF A outer s H p0 p1 Q E hr h nd=>?_;obtain⟨h,st,b,rfl,HI,lb,W1,q⟩:=h;obtain⟨dh,v0,hh⟩:=HI.dh;obtain⟨b1,rfl,u5⟩:=id lb;refine⟨_,(Mp (PS.Ak (C9 (pv 0) yC rfl)) (Mp (PS.Ak (BR (Bc Ml (CG EH (by rfl) T.E0 Dt (A1 (pv 1) A3)) (Au T.ag3) (BU _)) (AE (Aa (Bn (A1 (Au T.Zs) A3)))) BO)) (Mp (jt rfl rfl rfl rfl (by rfl) T.KO T.Kf (λE3 W3 W_=>have Av:=W_.passes rfl;(AE (ap5 (K:=K) rfl (pv 0) (Ag (aoG T) T.aj_ hr Av (A1 (pv 1) A3)) rfl))) (λ_=>(AE (Aa (Bn (A1 (Au T.gF) A3)))))) ((AE (Aa (Bn (A1 (Au T.OL) A3))))).Ak))),?_⟩;lk;have k1:Ac h H (upd H h (.ins a.Cp dh (DV .Ah))):=(Ac.refl h H).upd;have f1:Fr H (upd H h (.ins a.Cp dh (DV .Ah))):=Ac.fr k1 λob e=>by rw[hh]at e;cases e;exact tK
 have wG:AL (upd H h (.ins a.Cp dh (DV .Ah))) (.ref b1) (Nv b):=lb.keep hh k1;have h1:upd H h (.ins a.Cp dh (DV .Ah)) h=some (.ins a.Cp dh (DV .Ah)):=AB;refine⟨h,_,dh,_,rfl,hh,T.HW,T.cI,(by show 1<1000;decide),?_⟩;rw[xm];generalize upd H h (.ins a.Cp dh (DV .Ah))=H1 at*;have MG:Dk a H1 none h:=⟨dh,h1⟩;w_up;obtain⟨afp,e',al1⟩:=id wG;fin2;cases e';refine⟨_,A6 (A4.of al1),?_⟩;rw[show(Nv b).length=b.length from AV ..];have M_:DL st (.begin_ b ((b.length:Nat):Int))=if((b.length:Nat):Int)<0\/((Sn38.MOST:Nat):Int)<((b.length:Nat):Int)then(none,⟨-2,[]⟩)else(match M1 b with
  |none=>(none,⟨-3,[]⟩)
  |some p=>(some (Z_ p),⟨0,[]⟩)):=by unfold DL;rfl
 rw[M_,show Sn38.MOST=4096 from rfl]at q;by_cases c:4096<b.length
 .rw[if_pos (by omega)];rw[if_pos (C1 (by omega))]at q;exact⟨by decide,q.one none (-2) rfl f1 MG⟩
 rw[if_neg (by omega)];rw[if_neg (by omega)]at q;refine⟨b,wG,by omega,?_⟩;cases ep:M1 b with
 |none=>
  rw[ep]at q;exact λH' s'=>⟨rfl,by decide,q.one none (-3) rfl (f1.trans (A2.fr s')) (MG.mono s')⟩
 |some pl=>
  rw[ep]at q;intro v' H2 s2 NA O;have h2:=s2 _ _ h1;have k2:Ac h H2 (upd H2 h (.ins a.Cp dh (DV v'))):=(Ac.refl h H2).upd;refine⟨h,_,dh,_,rfl,h2,T.HW,T.cI,(by show 1<1000;decide),by decide,?_⟩;rw[xm];refine q.one (some (Z_ pl)) 0 rfl ((f1.trans (A2.fr s2)).trans (Ac.fr k2 λob e=>by rw[h2]at e;cases e;exact tK)) ?_;have qT:=NA.ale h2 k2;w_up;obtain⟨p',_,_,_,_,_,_,_,rfl,_⟩:=id qT;fin2;exact⟨dh,p',AB,qT,O⟩
def auf(a:Ad):Sp:=CS λv1 H Q _=>EN λh st=>D1 (v1=.ref h) (Dk a H st h) (Gf a H h (DL st .sizes) Q)
def aoa(T:Txt K mg a):A_ P w K mg base 4 a.dD ["self"] (auf a):=by
 refine T.ai6.Cy asL λAF A outer s H p0 Q E hr h nd=>?_;obtain⟨h,st,rfl,HI,q⟩:=h;refine⟨_,(A7 (BR (Tb (Y2 (AH (pv 0) rfl))) (AE (Aa (Bn (A1 (Au T.Zi) A3)))) BO) (AE (Aa (Cf (aof T) T.D3 T.an9 hr AD (AH (pv 0) rfl))))).Ak,?_⟩;cases st with
 |none=>
  obtain⟨dh,hh⟩:=id HI;lk;repeat (simp only[Gk T hh];lk)
  exact⟨by decide,q.one none (-9) rfl (A2.fr (A2.refl H)) HI⟩
 |some n=>
  w_up;obtain⟨dh,p,hh,N,O⟩:=id HI;fin2;lk;repeat (simp only[Gk T hh];lk)
  rw[if_neg (by intro z;cases z)];w_up;obtain⟨p',dx,g,l,o,v,m,ss,e',N'⟩:=id N;fin2;cases e';refine⟨p,dx,_,rfl,N'.at_,by kernel_rfl,n,N,O,λl H' s' nl hl=>q l H' (A2.fr s') ?_ (HI.mono s')⟩;rw[hl];rfl
def BG.ab_:∀{xs:List β}{ys:List γ}{i:Nat}{x:β}{y:γ},BG R xs ys->xs[i]? =some x->R x y->BG R xs (ys.set i y)
 |[],_,_,_,_,_,h,_=>by simp at h
 |_::_,[],_,_,_,a,_,_=>a.elim
 |_::_,_::_,0,_,_,a,h,r=>by cases h;exact⟨r,a.2⟩
 |_::_,_::_,_+1,_,_,a,h,r=>⟨a.1,BG.ab_ a.2 h r⟩
def Fits.set(F:Fits zs rows)(hi:i<zs.length)(hz:zs[i]? =some z)(hx:x.length=Bk z.1 z.2)(fx:∀y∈x,AI y):Fits zs (rows.set i x):=
 ⟨F.len.ab_ hz hx,λr hr y hy=>by
  rcases List.mem_or_eq_of_mem_set hr with h|h
  .exact F.fin r h y hy
  .exact fx y (h▸hy)⟩
def at8(a:Ad):Sp:=D9 λv1 v2 v3 H Q _=>Io λh st k x=>ME (v1=.ref h) (Dk a H st h) (v2=.int k) (AL H v3 (Nv x)) ((∀y∈x,y<2^32)) (x.length<=2^20) (Gf a H h (DL st (.set k x ((x.length:Nat):Int))) Q)
def ao_(T:Txt K mg a):A_ P w K mg base 3 a.dC ["self","layer","numbers"] (at8 a):=by
 refine T.ai5.Dc asK λAF A outer s H p0 p1 p2 Q E hr h nd=>?_;obtain⟨h,st,k,x,rfl,HI,rfl,lx,fx,DZ,q⟩:=h;obtain⟨bx,rfl,FU⟩:=id lx;refine⟨_,(A7 (BR (Tb (Y2 (AH (pv 0) rfl))) (AE (Aa (Bn (A1 (Au T.Zi) A3)))) BO) (A7 (BR (Mq (Hh (Bb (yU T) T.D3 T.v_ hr AD (AH (pv 0) rfl) (A1 (pv 1) (A1 (CG EH (by rfl) T.E0 Dt (A1 (pv 2) A3)) A3))))) (AE (Aa (Bn (A1 (Au T.Zs) A3)))) BO) (A7 (BR (Mq (Hh (Ag (yX T) T.qm hr AD (A1 (pv 2) A3)))) (AE (Aa (Bn (A1 (Au T.gF) A3)))) BO) (A7 (Df (Bb (aoe T) T.D3 T.an8 hr AD (AH (pv 0) rfl) (A1 (pv 1) (A1 (pv 2) A3)))) (AE (Aa (Bn (A1 (Au T.OL) A3)))))))).Ak,?_⟩;cases st with
 |none=>
  obtain⟨dh,hh⟩:=id HI;refine cut λU hU=>?_;lk;repeat (simp only[Gk T hh];lk)
  exact⟨by decide,q.one none (-9) rfl (A2.fr (A2.refl H)) HI⟩
 |some n=>
  w_up;obtain⟨dh,p,hh,NA,O⟩:=id HI;obtain⟨p',dx,g,l,o,v,m,ss,e',N⟩:=id NA;fin2;cases e';have M_:DL (some n) (.set k x ((x.length:Nat):Int))=(match Ng n k ((x.length:Nat):Int)with
   |none=>(some n,⟨-2,[]⟩)
   |some i=>if CN x=false then(some n,⟨-3,[]⟩)else(some {n with w:=n.w.set i x,v:=n.v.set i (Ar x.length (0:Rv)),m:=n.m.set i (Ar x.length (0:Rv)),s:=n.s.set i (Ar x.length (0:Rv))},⟨0,[]⟩)):=by unfold DL;rfl
  rw[M_]at q;refine cut λU hU=>?_;lk;repeat (simp only[Gk T hh];lk)
  rw[if_neg (by intro z;cases z)];subst hU;refine cut λU hU=>?_;lk;repeat (simp only[Gk T hh];lk)
  refine⟨p,dx,_,rfl,N.at_,by kernel_rfl,_,A6 (A4.of FU),n,k,_,NA,O,rfl,rfl,?_⟩;rw[show(Nv x).length=x.length from AV ..];cases eL:Ng n k ((x.length:Nat):Int)with
  |none=>
   rw[eL]at q;exact⟨by decide,q.one (some n) (-2) rfl (A2.fr (A2.refl H)) HI⟩
  |some i=>
  rw[eL]at q;have iK:k=((i:Nat):Int)/\i<n.plan.layers.length/\x.length=(n.w.getD i []).length:=by
   unfold Ng at eL;split at eL
   .rename_i c;cases eL;w_up;obtain⟨c1,c2,c3⟩:=c;fin2;exact⟨by lia,by lia,by lia⟩
   .cases eL
  w_up;obtain⟨rfl,hi,LS⟩:=iK;fin2;show U _ _;subst hU;refine cut λU hU=>?_;lk;refine⟨x,lx,fx,DZ,λH1 s1=>?_⟩;lk;have QB:CN x=x.all HK:=rfl;have q:Gf a H h (if CN x=false then(some n,⟨-3,[]⟩)else(some {n with w:=n.w.set i x,v:=n.v.set i (Ar x.length (0:Rv)),m:=n.m.set i (Ar x.length (0:Rv)),s:=n.s.set i (Ar x.length (0:Rv))},⟨0,[]⟩)) Q:=q;rw[QB]at q;cases hf:x.all HK with
  |false=>
   rw[hf,if_pos rfl]at q;rw[if_neg (by decide)];exact⟨by decide,q.one (some n) (-3) rfl (A2.fr s1) (HI.mono s1)⟩
  |true=>
  rw[hf,if_neg (by decide)]at q;rw[if_pos rfl];have Ez:=s1 _ _ hh;have N1:=N.mono s1;subst hU;lk;repeat (simp only[Gk T Ez];lk)
  refine⟨p,dx,_,rfl,N1.at_,by kernel_rfl,n,i,x,p,dx,g,l,o,v,m,ss,rfl,N1,O,rfl,hi,lx.mono s1,LS,λH2 keep N2=>?_⟩;have aW:=N1;w_up;obtain⟨ows,how,_⟩:=N1.ow;obtain⟨ovs,hov,_⟩:=N1.vv;obtain⟨oms,hom,_⟩:=N1.mm;obtain⟨oss,hos,_⟩:=N1.ss;fin2;have kp:∀b ob,H1 b=some ob->(∀xs,ob≠.lst xs)->H2 b=some ob:=λb ob e nl=>keep b ob e (λz=>by rw[z,how]at e;cases e;exact nl _ rfl) (λz=>by rw[z,hov]at e;cases e;exact nl _ rfl) (λz=>by rw[z,hom]at e;cases e;exact nl _ rfl) (λz=>by rw[z,hos]at e;cases e;exact nl _ rfl);have aih:Fr H1 H2:=λb ob e ou=>kp b ob e λxs z=>by rw[z]at ou;exact ou
  have GF:=kp _ _ Ez (λxs z=>by cases z);have zl:Bk (n.plan.layers[i]'hi).1 (n.plan.layers[i]'hi).2=x.length:=by
   w_up;obtain⟨r0,CC,GG⟩:=O.w.len.get' i (E8 hi);fin2;rw[LS,IQ,CC];exact GG.symm
  have O2:Fo {n with w:=n.w.set i x,v:=n.v.set i (Ar x.length 0),m:=n.m.set i (Ar x.length 0),s:=n.s.set i (Ar x.length 0)}:=
   ⟨O.chain,O.first,O.EZ,O.w.set hi (E8 hi) zl.symm (λy hy=>⟨fx y hy,EY.mp hf y hy⟩),O.v.set hi (E8 hi) (by rw[GN,zl]) Q0,O.m.set hi (E8 hi) (by rw[GN,zl]) Q0,O.s.set hi (E8 hi) (by rw[GN,zl]) Q0⟩
  exact⟨by decide,q.one _ 0 rfl ((A2.fr s1).trans aih) ⟨dh,p,GF,⟨p,dx,g,l,o,v,m,ss,rfl,N2⟩,O2⟩⟩
def at6(a:Ad):Sp:=D9 λv1 v2 v3 H Q _=>Io λh st k c=>Im (v1=.ref h) (Dk a H st h) (v2=.int k) (v3=.int c) (Gf a H h (DL st (.get k c)) Q)
def aoX(T:Txt K mg a):A_ P w K mg base 2 a.eY ["self","layer","count"] (at6 a):=by
 refine T.ai0.Dc asF λAF A outer s H p0 p1 p2 Q E hr h nd=>?_;obtain⟨h,st,k,c,rfl,HI,rfl,rfl,q⟩:=h;refine⟨_,(A7 (BR (Tb (Y2 (AH (pv 0) rfl))) (AE (Aa (Bn (A1 (Au T.Zi) A3)))) BO) (A7 (BR (Mq (Hh (Bb (yU T) T.D3 T.v_ hr AD (AH (pv 0) rfl) (A1 (pv 1) (A1 (pv 2) A3))))) (AE (Aa (Bn (A1 (Au T.Zs) A3)))) BO) (AE (Aa (AM OX (Bn (A1 (Au T.OL) A3)) (BL BM (AH (AH (pv 0) rfl) rfl) (pv 1) (λ_ _=>rfl))))))).Ak,?_⟩;cases st with
 |none=>
  obtain⟨dh,hh⟩:=id HI;refine cut λU hU=>?_;lk;repeat (simp only[Gk T hh];lk)
  exact⟨by decide,q.one none (-9) rfl (A2.fr (A2.refl H)) HI⟩
 |some n=>
  w_up;obtain⟨dh,p,hh,NA,O⟩:=id HI;obtain⟨p',dx,g,l,o,v,m,ss,e',N⟩:=id NA;fin2;cases e';have M_:DL (some n) (.get k c)=(match Ng n k c with
   |none=>(some n,⟨-2,[]⟩)
   |some i=>(some n,⟨0,n.w.getD i []⟩)):=by unfold DL;rfl
  rw[M_]at q;refine cut λU hU=>?_;lk;repeat (simp only[Gk T hh];lk)
  rw[if_neg (by intro z;cases z)];subst hU;refine cut λU hU=>?_;lk;repeat (simp only[Gk T hh];lk)
  refine⟨p,dx,_,rfl,N.at_,by kernel_rfl,n,k,c,NA,O,rfl,rfl,?_⟩;cases eL:Ng n k c with
  |none=>
   rw[eL]at q;exact⟨by decide,q.one (some n) (-2) rfl (A2.fr (A2.refl H)) HI⟩
  |some i=>
  rw[eL]at q;have iK:k=((i:Nat):Int)/\i<n.plan.layers.length:=by
   unfold Ng at eL;split at eL
   .rename_i c;cases eL;w_up;obtain⟨c1,c2,c3⟩:=c;fin2;exact⟨by lia,by lia⟩
   .cases eL
  obtain⟨rfl,hi⟩:=iK;show U _ _;subst hU;lk;refine⟨by decide,λd BX=>?_⟩;have s1:=A2.one (o:=.lst [V.int 0]) BX;have Ez:=s1 _ _ hh;have BS:=s1 _ _ N.at_;repeat (simp only[Gk T Ez,Ea T BS,Ee T BS,Eh T BS,Ej T BS,Eg T BS,Ei T BS];lk)
  w_up;obtain⟨ows,how,low⟩:=N.ow;obtain⟨r0,CC,GG⟩:=O.w.len.get' i (E8 hi);have gw:=(O.chain.good _ (IU hi)).w;obtain⟨rv,Ve,rb,rfl,hrb⟩:=AX.get' ows _ i (Nv r0) low (by rw[D0,CC];rfl);fin2;have akE:n.w.getD i []=r0:=by rw[IQ,CC];rfl
  have q:Gf a H h (some n,⟨0,n.w.getD i []⟩) Q:=q;rw[akE]at q;refine⟨ows,.ref rb,A4.of (s1 _ _ how),by rw[Cj];exact Ve,_,_,AB,s1 _ _ hrb,B_ ?_,λe ne=>q e _ (A2.fr (s1.new ne)) AB (HI.mono (s1.new ne))⟩;rw[show(Nv r0).length=r0.length from AV ..];show 1+r0.length<=_;lia
def Gd(st:Option CI)(x y:Int)(l:List Nat):Int:=match st with
 |none=> -9
 |some n=>if Fl n x y=false then-2 else if CN l=false then-3 else 0
abbrev atH(a:Ad):Sp:=Hi λv1 v2 v3 v4 H Q _=>∃h st x y l,v1=.ref h/\Dk a H st h/\v2=.int x/\v3=.int y/\AL H v4 (Nv l)/\(∀z∈l,z<2^32)/\l.length<=2^20/\∀H',A2 H H'->Q (.int (Gd st x y l)) H'
def wg(T:Txt K mg a):A_ P w K mg base 3 a.dA ["self","given_count","out_count","singles"] (atH a):=by
 refine T.ai3.J7 asI λAF A outer s H p0 p1 p2 p3 Q E hr h nd=>?_;obtain⟨h,st,x,y,l,rfl,HI,rfl,rfl,lx,fx,hl,q⟩:=h;obtain⟨bx,rfl,FU⟩:=id lx;refine⟨_,(A7 (BR (Tb (Y2 (AH (pv 0) rfl))) (AE (Aa (Au T.Zi))) BO) (A7 (BR (Mr (Bc IE (pv 1) (Cf (LW T) T.FQ T.L6 hr AD (AH (AH (pv 0) rfl) rfl)) (BU _)) (Od (Bc IE (pv 2) (Cf (LW T) T.FQ T.L6 hr AD (Cf (yT T) T.D3 T.vZ hr AD (AH (pv 0) rfl))) (BU _)))).pt (AE (Aa (Au T.Zs))) BO) (A7 (BR (Mq (Hh (Ag (yX T) T.qm hr AD (A1 (pv 3) A3)))) (AE (Aa (Au T.gF))) BO) (AE (Aa (Au T.OL)))))).Ak,?_⟩;cases st with
 |none=>
  obtain⟨dh,hh⟩:=id HI;refine cut λU hU=>?_;lk;repeat (simp only[Gk T hh];lk)
  exact q H (A2.refl H)
 |some n=>
  w_up;obtain⟨dh,p,hh,NA,O⟩:=id HI;obtain⟨p',dx,g,ly,o,v,m,ss,e',N⟩:=id NA;fin2;cases e';refine cut λU hU=>?_;lk;repeat (simp only[Gk T hh];lk)
  rw[if_neg (by intro z;cases z)];subst hU;refine cut λU hU=>?_;have hp:=N.at_;w_up;obtain⟨bg,dg,rfl,iT⟩:=id N.gv;fin2;lk;repeat (simp only[Gk T hh,Ea T hp,Ee T hp,Eh T hp,Ej T hp,Eg T hp,Ei T hp];lk)
  have hsz:Fl n x y=(decide (x=((AK n.plan.first:Nat):Int))&&decide (y=((AK n.plan.last:Nat):Int))):=rfl;refine⟨bg,dg,_,rfl,iT,by kernel_rfl,_,N.gv,WK O.first.1 O.first.2,?_⟩;rw[count3];by_cases c1:x=((AK n.plan.first:Nat):Int)
  .rw[if_pos c1];refine⟨p,dx,_,rfl,hp,by kernel_rfl,n,NA,O,λu hu=>?_⟩;w_up;obtain⟨bu,du,rfl,gZ⟩:=id hu;fin2;refine⟨bu,du,_,rfl,gZ,by kernel_rfl,_,hu,WK O.last.1 O.last.2,?_⟩;rw[count3];by_cases c2:y=((AK n.plan.last:Nat):Int)
   .rw[if_pos c2];have e1:Fl n x y=true:=by rw[hsz,decide_eq_true c1,decide_eq_true c2];rfl
    subst hU;lk;refine⟨l,lx,fx,hl,λH1 s1=>?_⟩;lk;have q1:=q H1 s1;unfold Gd at q1;simp only[e1]at q1;rw[if_neg (by decide)]at q1;have QB:CN l=l.all HK:=rfl;rw[QB]at q1;cases hf:l.all HK with
    |false=>
     rw[hf,if_pos rfl]at q1;rw[if_neg (by decide)];exact q1
    |true=>
     rw[hf,if_neg (by decide)]at q1;rw[if_pos rfl];exact q1
   .rw[if_neg c2];have e1:Fl n x y=false:=by rw[hsz,decide_eq_false c2,aeg]
    have q1:=q H (A2.refl H);unfold Gd at q1;simp only[e1]at q1;exact q1
  .rw[if_neg c1];have e1:Fl n x y=false:=by rw[hsz,decide_eq_false c1,aeJ]
   have q1:=q H (A2.refl H);unfold Gd at q1;simp only[e1]at q1;exact q1
def XQ(n:CI)(x y:Int)(l:List Nat):(Fl n x y=false/\Gd (some n) x y l= -2)\/(Fl n x y=true/\CN l=false/\Gd (some n) x y l= -3)\/(Fl n x y=true/\CN l=true/\Gd (some n) x y l=0):=by
 have e:Gd (some n) x y l=if Fl n x y=false then-2 else if CN l=false then-3 else 0:=rfl
 rw[e];cases Fl n x y with
 |false=>exact .inl ⟨rfl,rfl⟩
 |true=>
  cases CN l with
  |false=>exact .inr (.inl ⟨rfl,rfl,rfl⟩)
  |true=>exact .inr (.inr ⟨rfl,rfl,rfl⟩)
def zb(h:Gd (some n) x y l=0):Fl n x y=true/\CN l=true:=by
 rcases XQ n x y l with⟨_,e⟩|⟨_,_,e⟩|⟨h1,h2,_⟩
 .rw[h]at e;cases e
 .rw[h]at e;cases e
 .exact⟨h1,h2⟩
def at7(a:Ad):Sp:=D9 λv1 v2 v3 H Q _=>Io λh st y x=>ME (v1=.ref h) (Dk a H st h) (v2=.int y) (AL H v3 (Nv x)) ((∀z∈x,z<2^32)) (x.length<=2^20) (Gf a H h (DL st (.run x ((x.length:Nat):Int) y)) Q)
def aoZ(T:Txt K mg a):A_ P w K mg base 9 a.dB ["self","out_count","numbers"] (at7 a):=by
 refine T.ai4.Dc asJ λAF A outer s H p0 p1 p2 Q E hr h nd=>?_;obtain⟨h,st,y,x,rfl,HI,rfl,lx,fx,hl,q⟩:=h;obtain⟨bx,rfl,FU⟩:=id lx;obtain⟨dh,v0,hh⟩:=HI.dh;refine⟨_,(Mp (PS.Ak (AW (i:=3) nd rfl (A6 rfl) (Bb (wg T) T.HW T.vY hr AD (pv 0) (A1 (CG EH (by rfl) T.E0 Dt (A1 (pv 2) A3)) (A1 (pv 1) (A1 (pv 2) A3)))))) (Mp (PS.Ak (BR (Bc IE (pv 3) (Au T.OL) (BU _)) (AE (Aa (Bn (A1 (pv 3) A3)))) BO)) (Mp (jt rfl rfl rfl rfl (by rfl) T.V7 T.X7 (λE3 W3 W_=>have Av:=W_.passes rfl;(AE (Aa (AM OX (Bn (A1 (Au T.OL) A3)) (BL (uJ (K:=K) rfl) (Bb (yV T) T.D3 T.vc hr Av (O_ (K:=K) rfl (pv 0)) (A1 (pv 2) A3)) (Hf Hj Am) (λ_ _=>rfl)))))) (λ_=>(AE (Aa (Bn (A1 (Au T.pX) A3)))))) (BO).Ak))),?_⟩;refine cut λU hU=>?_;lk;refine⟨h,dh,_,rfl,hh,by kernel_rfl,_,A6 (A4.of FU),h,st,_,y,x,rfl,HI,rfl,rfl,lx,fx,hl,λH1 s1=>?_⟩;rw[show(Nv x).length=x.length from AV ..];have MG:=HI.mono s1;subst hU;refine cut λU hU=>?_;lk;by_cases c:Gd st ((x.length:Nat):Int) y x=0
 .rw[if_pos c];cases st with
  |none=>cases c
  |some n=>
  w_up;obtain⟨sI,p,Ez,NA,O⟩:=id MG;obtain⟨hs,hf⟩:=zb c;have DZ:x.length=AK n.plan.first:=by
   have h2:(decide (((x.length:Nat):Int)=((AK n.plan.first:Nat):Int))&&decide (y=((AK n.plan.last:Nat):Int)))=true:=hs;rw[CH,decide_eq_true_eq]at h2;lia
  have V6:∀z∈x,AI z:=λz hz=>⟨fx z hz,EY.mp hf z hz⟩;have M_:DL (some n) (.run x ((x.length:Nat):Int) y)=if Fl n ((x.length:Nat):Int) y=false then(some n,⟨-2,[]⟩)else if CN x=false then(some n,⟨-3,[]⟩)else(match JC (n.plan.layers.zip n.w) x with
   |none=>(some n,⟨-4,[]⟩)
   |some y=>(some n,⟨0,y.2⟩)):=by unfold DL;rfl
  rw[M_,hs,hf,if_neg (by decide),if_neg (by decide)]at q;obtain⟨p',dx,g,ly,o,v,m,ss,e',N⟩:=id NA;fin2;cases e';subst hU;lk;refine⟨by decide,λd BX=>?_⟩;have s2:=A2.one (o:=.lst [V.int 0]) BX;have GF:=s2 _ _ Ez;have hd2:upd H1 d (.lst [V.int 0]) d=some (.lst [V.int 0]):=AB;generalize upd H1 d (.lst [V.int 0])=H2 at*;have e2:=s1.trans s2;repeat (simp only[Gk T GF];lk)
  refine⟨p,dx,_,rfl,s2 _ _ N.at_,by kernel_rfl,n,x,NA.mono s2,O,lx.mono e2,DZ,V6,?_⟩;unfold Og;cases ef:JC (n.plan.layers.zip n.w) x with
  |none=>
   rw[ef]at q;exact λH' s'=>⟨rfl,by decide,q.one (some n) (-4) rfl (A2.fr (e2.trans s')) (HI.mono (e2.trans s'))⟩
  |some f=>
   rw[ef]at q;w_up;obtain⟨q1,q2,q3,q4⟩:=bJ O.chain O.w DZ V6 ef;fin2;have ol:=O.last.2;intro ps H3 s3 nps AG;w_up;obtain⟨sv,Vh,NR⟩:=AG;have NR:AX H3 sv ((f.1++[f.2]).map Nv):=NR;have hlen:=NR.length;rw[AV,Bo,Km]at hlen;obtain⟨yv,Ow,yb,rfl,cf⟩:=AX.get' sv _ f.1.length (Nv f.2) NR (by rw[D0,U2 (Az _),RX];rfl);fin2;refine⟨_,.ref yb,A4.of Vh,?_,_,_,s3 _ _ hd2,cf,B_ ?_,λe ne=>q e _ (A2.fr ((e2.trans s3).new ne)) AB (HI.mono ((e2.trans s3).new ne))⟩
   .unfold FP Gr;rw[if_neg (by decide),if_pos (by lia),show(-1+(sv.length:Int)).toNat=f.1.length from by lia];exact Ow
   .rw[show(Nv f.2).length=f.2.length from AV ..];show 1+f.2.length<=_;lia
 .rw[if_neg c];refine⟨by show 1<=Al;decide,q.one st (Gd st ((x.length:Nat):Int) y x) ?_ (A2.fr s1) MG⟩;cases st with
  |none=>rfl
  |some n=>
   have M_:DL (some n) (.run x ((x.length:Nat):Int) y)=if Fl n ((x.length:Nat):Int) y=false then(some n,⟨-2,[]⟩)else if CN x=false then(some n,⟨-3,[]⟩)else(match JC (n.plan.layers.zip n.w) x with
    |none=>(some n,⟨-4,[]⟩)
    |some y=>(some n,⟨0,y.2⟩)):=by unfold DL;rfl
   rw[M_];rcases XQ n ((x.length:Nat):Int) y x with⟨h1,e⟩|⟨h1,h2,e⟩|⟨_,_,e⟩
   .rw[if_pos h1,e]
   .rw[if_neg (by rw[h1];decide),if_pos h2,e]
   .exact absurd e c
def Fits.nil:Fits [] []:=⟨trivial,λr hr=>by simp at hr⟩
def Fits.cons(h:r.length=Bk z.1 z.2)(f:∀y∈r,AI y)(F:Fits zs rows):Fits (z::zs) (r::rows):=
 ⟨⟨h,F.len⟩,λx hx=>by
  rcases B2.mp hx with rfl|hx
  .exact f
  .exact F.fin x hx⟩
def Fits.tail(F:Fits (z::zs) (r::rows)):r.length=Bk z.1 z.2/\(∀y∈r,AI y)/\Fits zs rows:=
 ⟨F.len.1,F.fin r (Bu ..),F.len.2,λx hx=>F.fin x (Ba _ hx)⟩
def afu(ch:FL s zs u):∀{ws xs:List (List Nat)}{g:List Nat}{b:List EE×EE},Fits zs ws->BG (λz r=>r.length=AK z.1) zs xs->(∀r∈xs,∀v∈r,AI v)->g.length=AK u->(∀v∈g,AI v)->Fj ((zs.zip ws).zip xs) g=some b->Fits zs b.1/\b.2.length=AK s/\∀v∈b.2,AI v:=by
 induction ch with
 |nil s=>
  intro ws xs g b _ _ _ hg fg h;have h:some (([]:List EE),g)=some b:=h;cases h;exact⟨Fits.nil,hg,fg⟩
 | @cons s t u l r gd ha ch ih=>
  intro ws xs g b F hx fx hg fg h;cases ws with
  |nil=>exact F.len.elim
  |cons w ws=>
  cases xs with
  |nil=>exact hx.elim
  |cons x xs=>
  obtain⟨f1,f2,f3⟩:=F.tail;rw[EA,EA,Zz]at h;cases e:Fj ((r.zip ws).zip xs) g with
  |none=>rw[e]at h;cases h
  |some y=>
   rw[e,Aq]at h;simp only at h;obtain⟨i1,i2,i3⟩:=ih f3 hx.2 (λq hq=>fx q (Ba _ hq)) hg fg e;have Q5:=fx x (Bu ..);rw[pk hx.1 (λo eo=>by rw[i2];rw[eo]at ha;cases ha;show o*1*1=o;lia)]at h;cases eo:F8 s l x y.2 with
   |none=>rw[eo]at h;cases h
   |some A=>
    cases eg:H_ s l w x y.2 with
    |none=>rw[eo,eg]at h;cases h
    |some B=>
     rw[eo,eg]at h;cases h;obtain⟨o1,o2⟩:=anz ha hx.1 i2 Q5 i3 eo;obtain⟨g1,g2⟩:=tR ha hx.1 i2 i3 eg;exact⟨Fits.cons o1 o2 i1,g1,g2⟩
def ajF(O:Fo n)(hx:x.length=AK n.plan.first)(fx:∀v∈x,AI v)(ht:t.length=AK n.plan.last)(h:UW n x t=some r):Fits n.plan.layers r.2:=by
 unfold UW at h;cases ef:JC (n.plan.layers.zip n.w) x with
 |none=>rw[ef]at h;cases h
 |some f=>
  rw[ef,Aq]at h;obtain⟨q1,q2,q3,q4⟩:=bJ O.chain O.w hx fx ef;cases ed:(f.2.zip t).mapM λp=>Ia p.1 p.2 with
  |none=>rw[ed]at h;cases h
  |some d=>
   rw[ed,Aq]at h;cases el:Bf 0 (d.map λa=>(a,a))with
   |none=>rw[el]at h;cases h
   |some QL=>
    rw[el,Aq]at h;cases eg:d.mapM λa=>DJ a a with
    |none=>rw[eg]at h;cases h
    |some g=>
     rw[eg,Aq]at h;cases eb:Fj ((n.plan.layers.zip n.w).zip f.1) g with
     |none=>rw[eb]at h;cases h
     |some b=>
      rw[eb]at h;cases h;exact(afu O.chain O.w q1 q2 (by rw[C3 eg,C3 ed,Br];lia) (Em eg λ_ _ y e=>MM e) eb).1
def ap7(h1:w.length=v.length)(h2:g.length=v.length)(h:Ji rate mu (w,v,g)=some y):(y.1.length=w.length/\∀z∈y.1,AI z)/\y.2.length=w.length/\∀z∈y.2,AI z:=by
 have h:ZZ (UX rate mu) w v g=some y:=h;rw[jv rate mu w v g h1 h2]at h;cases ev:(v.zip g).mapM (vF rate mu)with
 |none=>rw[ev]at h;cases h
 |some v'=>
  rw[ev,Aq]at h;cases ew:(w.zip v').mapM KG with
  |none=>rw[ew]at h;cases h
  |some w'=>
   rw[ew]at h;cases h;have lv:=C3 ev;have lw:=C3 ew;rw[Br]at lv lw;refine⟨⟨by show w'.length=_;lia,Em ew λx _ y e=>MM e⟩,by show v'.length=_;lia,Em ev λx _ y e=>?_⟩;unfold vF at e;cases e1:BC mu x.1 with
   |none=>rw[e1]at e;cases e
   |some u=>
    cases e2:BC rate x.2 with
    |none=>rw[e1,e2]at e;cases e
    |some u2=>rw[e1,e2]at e;exact Wz e
def acs:∀{zs:List (BA×Cb)}{ws vs gs:List (List Nat)}{l:List (EE×EE)},Fits zs ws->Fits zs vs->Fits zs gs->(ws.zip (vs.zip gs)).mapM (Ji rate mu)=some l->Fits zs (l.map λy=>y.1)/\Fits zs (l.map λy=>y.2)
 |[],[],vs,gs,l,_,_,_,h=>by
  cases h;exact⟨Fits.nil,Fits.nil⟩
 |[],_::_,_,_,_,F,_,_,_=>F.len.elim
 |z::zs,[],_,_,_,F,_,_,_=>F.len.elim
 |z::zs,w::ws,[],_,_,_,F,_,_=>F.len.elim
 |z::zs,w::ws,v::vs,[],_,_,_,F,_=>F.len.elim
 |z::zs,w::ws,v::vs,g::gs,l,F1,F2,F3,h=>by
  obtain⟨a1,a2,a3⟩:=F1.tail;obtain⟨b1,b2,b3⟩:=F2.tail;obtain⟨c1,c2,c3⟩:=F3.tail;rw[EA,EA,Cm]at h;cases e:Ji rate mu (w,v,g)with
  |none=>rw[e]at h;cases h
  |some y=>
   rw[e]at h;cases e2:(ws.zip (vs.zip gs)).mapM (Ji rate mu)with
   |none=>rw[e2]at h;cases h
   |some l'=>
    rw[e2]at h;cases h;obtain⟨i1,i2⟩:=acs a3 b3 c3 e2;obtain⟨⟨p1,p2⟩,p3,p4⟩:=ap7 (by lia) (by lia) e;exact⟨Fits.cons (r:=y.1) (by lia) p2 i1,Fits.cons (r:=y.2) (by lia) p4 i2⟩
def agp(h1:AI b1)(h2:AI b2)(h:Ua rate b1 b2 eps q=some y):AI y.1/\AI y.2.1/\AI y.2.2:=by
 obtain⟨c1,e1⟩:=sub_one h1;obtain⟨c2,e2⟩:=sub_one h2;have w_:∀{b c:Nat}{p:Nat×Nat}{z:Nat},mE b c p=some z->AI z:=λ{b c p z}h=>by
  unfold mE at h;cases f1:BC b p.1 with
  |none=>rw[f1]at h;cases h
  |some u=>
   cases f2:BC c p.2 with
   |none=>rw[f1,f2]at h;cases h
   |some v=>rw[f1,f2]at h;exact MM h
 rw[sR e1 e2]at h;cases f1:mE b1 c1 (q.2.1,q.2.2.2)with
 |none=>rw[f1]at h;cases h
 |some m'=>
  cases f2:JI q.2.2.2 with
  |none=>rw[f1,f2]at h;cases h
  |some g2=>
   rw[f1,f2,Aq,Aq]at h;cases f3:mE b2 c2 (q.2.2.1,g2)with
   |none=>rw[f3]at h;cases h
   |some s'=>
    rw[f3,Aq]at h;cases f4:eN rate eps (q.1,m',s')with
    |none=>rw[f4]at h;cases h
    |some w'=>
     rw[f4]at h;cases h;refine⟨?_,w_ f1,w_ f3⟩;unfold eN Uu at f4;simp only at f4;cases g1:BC rate m' with
     |none=>rw[g1]at f4;cases f4
     |some u=>
      rw[g1,Aq]at f4;cases rR:Ju s' with
      |none=>rw[rR]at f4;cases f4
      |some r=>
       rw[rR,Aq]at f4;cases g3:DJ r eps with
       |none=>rw[g3]at f4;cases f4
       |some r2=>
        rw[g3,Aq]at f4;cases g4:L0 u r2 with
        |none=>rw[g4]at f4;cases f4
        |some u2=>rw[g4]at f4;exact Wz f4
def agn(h1:AI b1)(h2:AI b2)(l1:m.length=w.length)(l2:s.length=w.length)(l3:g.length=w.length)(h:Il rate b1 b2 eps (w,m,s,g)=some y):y.length=w.length/\∀z∈y,AI z.1/\AI z.2.1/\AI z.2.2:=by
 have h:(w.zip (m.zip (s.zip g))).mapM (λq=>Ua rate b1 b2 eps q)=some y:=h;exact⟨by rw[C3 h,Br,Br,Br];lia,Em h λq _ y e=>agp h1 h2 e⟩
def sQ(h1:AI b1)(h2:AI b2):∀{zs:List (BA×Cb)}{ws ms ss gs:List (List Nat)}{l:List (List (Nat×Nat×Nat))},Fits zs ws->Fits zs ms->Fits zs ss->Fits zs gs->(ws.zip (ms.zip (ss.zip gs))).mapM (Il rate b1 b2 eps)=some l->Fits zs (l.map λy=>y.map λz=>z.1)/\Fits zs (l.map λy=>y.map λz=>z.2.1)/\Fits zs (l.map λy=>y.map λz=>z.2.2)
 |[],[],_,_,_,l,_,_,_,_,h=>by
  cases h;exact⟨Fits.nil,Fits.nil,Fits.nil⟩
 |[],_::_,_,_,_,_,F,_,_,_,_=>F.len.elim
 |z::zs,[],_,_,_,_,F,_,_,_,_=>F.len.elim
 |z::zs,w::ws,[],_,_,_,_,F,_,_,_=>F.len.elim
 |z::zs,w::ws,m::ms,[],_,_,_,_,F,_,_=>F.len.elim
 |z::zs,w::ws,m::ms,s::ss,[],_,_,_,_,F,_=>F.len.elim
 |z::zs,w::ws,m::ms,s::ss,g::gs,l,F1,F2,F3,F4,h=>by
  w_up;obtain⟨a1,a2,a3⟩:=F1.tail;obtain⟨afp,b2',b3⟩:=F2.tail;obtain⟨c1,c2,c3⟩:=F3.tail;obtain⟨d1,d2,d3⟩:=F4.tail;fin2;rw[EA,EA,EA,Cm]at h;cases e:Il rate b1 b2 eps (w,m,s,g)with
  |none=>rw[e]at h;cases h
  |some y=>
   rw[e]at h;cases e2:(ws.zip (ms.zip (ss.zip gs))).mapM (Il rate b1 b2 eps)with
   |none=>rw[e2]at h;cases h
   |some l'=>
    rw[e2]at h;cases h;w_up;obtain⟨i1,i2,i3⟩:=sQ h1 h2 a3 b3 c3 d3 e2;obtain⟨p1,p2⟩:=agn h1 h2 (by lia) (by lia) (by lia) e;fin2;refine⟨Fits.cons (by rw[AV];lia) ?_ i1,Fits.cons (by rw[AV];lia) ?_ i2,Fits.cons (by rw[AV];lia) ?_ i3⟩
    .intro q hq;obtain⟨z,hz,rfl⟩:=Ca.mp hq;exact(p2 z hz).1
    .intro q hq;obtain⟨z,hz,rfl⟩:=Ca.mp hq;exact(p2 z hz).2.1
    .intro q hq;obtain⟨z,hz,rfl⟩:=Ca.mp hq;exact(p2 z hz).2.2
def ati{n:CI}{x y:Nat}(h:Fl n (x:Int) (y:Int)=true):x=AK n.plan.first/\y=AK n.plan.last:=by
 have h2:(decide ((x:Int)=((AK n.plan.first:Nat):Int))&&decide ((y:Int)=((AK n.plan.last:Nat):Int)))=true:=h;rw[CH,decide_eq_true_eq,decide_eq_true_eq]at h2;lia
def aiZ{r x t:List Nat}(h:CN (r++x++t)=true):CN r=true/\CN x=true/\CN t=true:=by
 unfold CN at*;rw[Ys,Ys,CH,CH]at h;exact⟨h.1.1,h.1.2,h.2⟩
def r8{r x t:List Nat}(h:CN (r++x++t)=false):CN x=false\/CN t=false\/CN r=false:=by
 unfold CN at*;rw[Ys,Ys]at h;cases h1:r.all HK with
 |false=>exact .inr (.inr rfl)
 |true=>
  cases h2:x.all HK with
  |false=>exact .inl rfl
  |true=>
   rw[h1,h2]at h;exact .inr (.inl h)
section
variable{n:CI}{x t:List Nat}{y z:Int}{rate mu b1 b2 eps:Nat}{st:Option CI}
def acL:DL (some n) (.train x y t z rate mu)=if Fl n y z=false then(some n,⟨-2,[]⟩)else if CN x=false\/CN t=false\/CN [rate,mu]=false then(some n,⟨-3,[]⟩)else(match Ro n x t rate mu with
 |none=>(some n,⟨-4,[]⟩)
 |some y=>(some y.2,⟨0,[y.1]⟩)):=by unfold DL;rfl
def acJ:DL (some n) (.ease x y t z rate b1 b2 eps)=if Fl n y z=false then(some n,⟨-2,[]⟩)else if CN x=false\/CN t=false\/CN [rate,b1,b2,eps]=false then(some n,⟨-3,[]⟩)else(match Rm n x t rate b1 b2 eps with
 |none=>(some n,⟨-4,[]⟩)
 |some y=>(some y.2,⟨0,[y.1]⟩)):=by unfold DL;rfl
def acK(hs:Fl n y z=true)(h1:CN x=true)(h2:CN t=true)(h3:CN [rate,mu]=true):DL (some n) (.train x y t z rate mu)=(match Ro n x t rate mu with
 |none=>(some n,⟨-4,[]⟩)
 |some y=>(some y.2,⟨0,[y.1]⟩)):=by
 rw[acL,if_neg (by rw[hs];decide),if_neg (by rw[h1,h2,h3];decide)]
def acI(hs:Fl n y z=true)(h1:CN x=true)(h2:CN t=true)(h3:CN [rate,b1,b2,eps]=true):DL (some n) (.ease x y t z rate b1 b2 eps)=(match Rm n x t rate b1 b2 eps with
 |none=>(some n,⟨-4,[]⟩)
 |some y=>(some y.2,⟨0,[y.1]⟩)):=by
 rw[acJ,if_neg (by rw[hs];decide),if_neg (by rw[h1,h2,h3];decide)]
def auy(c:¬Gd st y z ([rate,mu]++x++t)=0):DL st (.train x y t z rate mu)=(st,⟨Gd st y z ([rate,mu]++x++t),[]⟩):=by
 cases st with
 |none=>rfl
 |some n=>
  rw[acL];rcases XQ n y z ([rate,mu]++x++t)with⟨h1,e⟩|⟨h1,h2,e⟩|⟨_,_,e⟩
  .rw[if_pos h1,e]
  .rw[if_neg (by rw[h1];decide),if_pos (r8 h2),e]
  .exact absurd e c
def auu(c:¬Gd st y z ([rate,b1,b2,eps]++x++t)=0):DL st (.ease x y t z rate b1 b2 eps)=(st,⟨Gd st y z ([rate,b1,b2,eps]++x++t),[]⟩):=by
 cases st with
 |none=>rfl
 |some n=>
  rw[acJ];rcases XQ n y z ([rate,b1,b2,eps]++x++t)with⟨h1,e⟩|⟨h1,h2,e⟩|⟨_,_,e⟩
  .rw[if_pos h1,e]
  .rw[if_neg (by rw[h1];decide),if_pos (r8 h2),e]
  .exact absurd e c
end
def atD(a:Ad):Sp:=Qi λv1 v2 v3 v4 v5 H Q _=>Es λ(h:A0)(st:Option CI)(rs x t:List Nat)=>Cn (v1=.ref h) (Dk a H st h) (AL H v3 (Nv rs)) (AL H v4 (Nv x)) (AL H v5 (Nv t)) ((∀z∈rs,z<2^32)) ((∀z∈x,z<2^32)) (Fm ((∀z∈t,z<2^32)) (x.length<=2^18) (t.length<=2^18) (((v2=.ref a.Xl/\∃rate mu,rs=[rate,mu]/\Gf a H h (DL st (.train x ((x.length:Nat):Int) t ((t.length:Nat):Int) rate mu)) Q)\/
 (v2=.ref a.bE/\∃rate b1 b2 eps,rs=[rate,b1,b2,eps]/\Gf a H h (DL st (.ease x ((x.length:Nat):Int) t ((t.length:Nat):Int) rate b1 b2 eps)) Q))))
def we(T:Txt K mg a):A_ P w K mg base 12 a.e_ ["self","step","rates","numbers","wanted"] (atD a):=by
 refine T.ai2.Xs asH λAF A outer s H p0 p1 p2 p3 p4 Q E hr h nd=>?_;obtain⟨h,st,rs,x,t,rfl,HI,lr,lx,lt,fr,fx,ft,DZ,htl,q⟩:=h;obtain⟨bx,rfl,FU⟩:=id lx;obtain⟨bt,rfl,uA⟩:=id lt;obtain⟨br,rfl,MV⟩:=id lr;obtain⟨dh,v0,hh⟩:=HI.dh;refine⟨_,(Mp (PS.Ak (AW (i:=5) nd rfl (A6 rfl) (Bb (wg T) T.HW T.vY hr AD (pv 0) (A1 (CG EH (by rfl) T.E0 Dt (A1 (pv 3) A3)) (A1 (CG EH (by rfl) T.E0 Dt (A1 (pv 4) A3)) (A1 (AM OX (AM OX (pv 2) (pv 3)) (pv 4)) A3)))))) (Mp (PS.Ak (BR (Bc IE (pv 5) (Au T.OL) (BU _)) (AE (Aa (Bn (A1 (pv 5) A3)))) BO)) (Mp (jt rfl rfl rfl rfl (by rfl) T.V7 T.X7 (λE3 W3 W_=>have Av:=W_.passes rfl;(A7 (AW (i:=6) nd rfl (A6 rfl) (F9 (aoc T) T.amP T.ak2 hr Av (A1 (O_ (K:=K) rfl (pv 0)) (A1 (pv 3) (A1 (pv 4) A3))))) (AE (Df (PE.or (y9 1 (aoL T) hr Av (A1 (O_ (K:=K) rfl (pv 0)) (A1 (pv 6) (A1 (pv 2) A3)))) (y9 1 (ao6 T) hr Av (A1 (O_ (K:=K) rfl (pv 0)) (A1 (pv 6) (A1 (pv 2) A3))))))))) (λ_=>(AE (Aa (Bn (A1 (Au T.pX) A3)))))) ((AE (Aa (Bn (A1 (Au T.OL) (A1 (AH (pv 6) rfl) A3)))))).Ak))),?_⟩;have aii:∀z∈rs++x++t,z<2^32:=λz hz=>by
  rcases Hr.mp hz with hz|hz
  .rcases Hr.mp hz with hz|hz
   .exact fr z hz
   .exact fx z hz
  .exact ft z hz
 have GG:rs.length<=4:=by
  rcases q with⟨_,_,_,e,_⟩|⟨_,_,_,_,_,e,_⟩
  .rw[e];show 2<=4;decide
  .rw[e];show 4<=4;decide
 have TJ:∀l:List Nat,(Nv l).length=l.length:=λl=>AV ..;have xE:∀l l':List Nat,Nv l++Nv l'=Nv (l++l'):=λl l'=>(E9 ..).symm;refine cut λU hU=>?_;lk;refine⟨h,dh,_,rfl,hh,by kernel_rfl,_,A6 (A4.of FU),_,A6 (A4.of uA),_,_,MV,FU,B_ (by rw[TJ,TJ];lia),λc1 Mf=>?_⟩;rw[xE];have s1:=A2.one (o:=.lst (Nv (rs++x))) Mf;refine⟨_,_,AB,s1 _ _ uA,B_ (by rw[TJ,TJ,Bo];lia),λc2 QR=>?_⟩;rw[xE];have s2:=s1.new (o:=.lst (Nv (rs++x++t))) QR;refine⟨h,st,_,_,rs++x++t,rfl,HI.mono s2,rfl,rfl,⟨c2,rfl,AB⟩,aii,by rw[Bo,Bo];lia,λH1 s3=>?_⟩;rw[TJ,TJ];have e1:=s2.trans s3;have MG:=HI.mono e1;subst hU;refine cut λU hU=>?_;lk;by_cases c:Gd st ((x.length:Nat):Int) ((t.length:Nat):Int) (rs++x++t)=0
 .rw[if_pos c];cases st with
  |none=>cases c
  |some n=>
  w_up;obtain⟨hs,hf⟩:=zb c;obtain⟨vE,ux⟩:=ati hs;obtain⟨DP,W8,W7⟩:=aiZ hf;have V6:∀z∈x,AI z:=λz hz=>⟨fx z hz,EY.mp W8 z hz⟩;have ajs:∀z∈t,AI z:=λz hz=>⟨ft z hz,EY.mp W7 z hz⟩;have SJ:∀z∈rs,AI z:=λz hz=>⟨fr z hz,EY.mp DP z hz⟩;obtain⟨sI,p,Ez,NA,O⟩:=id MG;fin2;subst hU;lk;repeat (simp only[Gk T Ez];lk)
  intro P0 dl Xq kN nel;have s4:A2 H1 (upd (upd H1 dl (.own P0)) P0 (.ins a.G4 dl [])):=Th Xq kN nel;have e4:=e1.trans s4;have fail:∀{r:Option CI×pS},Gf a H h r Q->r=(some n,⟨-4,[]⟩)->∀H',A2 H H'->(Cc a.DC=Cc a.DC/\[V.int (-4)].length<=Al/\∀p,H' p=none->Q (.ref p) (upd H' p (.lst [.int (-4)]))):=λqr er H' s'=>⟨rfl,by decide,qr.one (some n) (-4) er (A2.fr s') (HI.mono s')⟩;refine⟨P0,dl,n,x,t,rfl,AB,NA.mono s4,O,lx.mono e4,vE,V6,lt.mono e4,ux,ajs,?_⟩;cases eg:UW n x t with
  |none=>
   intro H' kp;have s':A2 H H':=e1.trans (Ac.made Xq kN kp);rcases q with⟨_,rate,mu,rfl,q⟩|⟨_,rate,b1,b2,eps,rfl,q⟩
   .exact fail q (by rw[acK hs W8 W7 DP,show Ro n x t rate mu=none from by unfold Ro;rw[eg];rfl]) H' s'
   .exact fail q (by rw[acI hs W8 W7 DP,show Rm n x t rate b1 b2 eps=none from by unfold Rm;rw[eg];rfl]) H' s'
  |some r=>
   intro og H5 kp i4 ro;have s5:A2 H1 H5:=Ac.made Xq kN kp;have e5:=e1.trans s5;have Fg:=ajF O vE V6 ux eg;have qQ:=HI.mono e5;have hJ:=s5 _ _ Ez;refine⟨rfl,?_⟩;repeat (simp only[Gk T hJ];lk)
   have pl:P0≠p:=λz=>by
    w_up;obtain⟨p',dx,g,ly,o,v,m,ss,e',N⟩:=NA;fin2;cases e';have:=N.at_;rw[<-z,Xq]at this;cases this
   w_up;obtain⟨pn,dn,gv,lyn,o,v,m,ss,e',N⟩:=id NA;fin2;cases e';have Cd:=s5 _ _ N.at_;have nh:h≠p:=Ts Cd hJ (by kernel_rfl);have inn:∀ob,H5 p=some ob->¬Nw ob:=λob e=>by rw[Cd]at e;cases e;exact λz=>z (by kernel_rfl)
   have fin:∀{n':CI}{H6:Hp},Gf a H h (some n',⟨0,[r.1]⟩) Q->Fo n'->Ac p H5 H6->Dl a H6 (.ref p) n'->∃(b C dx:A0)(fs:List (Str×V))(v:V),V.ref P0=V.ref b/\H6 b=some (.ins C dx fs)/\B8 K C/\Ap K C "error"/\fs.lookup ("error":Str)=some v/\[V.int 0,v].length<=Al/\∀d,H6 d=none->Q (.ref d) (upd H6 d (.lst [.int 0,v])):=by
    intro n' H6 q' O' k6 N6;refine⟨P0,_,dl,_,_,rfl,k6 _ _ i4 pl,T.Ze,T.xP,aiL ..,(by show 2<=Al;decide),λd Tq=>q' d _ (((A2.fr e5).trans (Ac.fr k6 inn)).trans (A2.fr (A2.one Tq))) AB ?_⟩;exact Dk.mono (H:=H6) ⟨sI,p,k6 _ _ hJ nh,N6,O'⟩ (A2.one Tq)
   rcases q with⟨rfl,rate,mu,rfl,q⟩|⟨rfl,rate,b1,b2,eps,rfl,q⟩
   .rw[acK hs W8 W7 DP]at q;have et:Ro n x t rate mu=((n.w.zip (n.v.zip r.2)).mapM (Ji rate mu)).map λl=>(r.1,{n with w:=l.map λy=>y.1,v:=l.map λy=>y.2}):=by unfold Ro;rw[eg];rfl
    rw[et]at q;refine A6 ⟨rfl,n,p,P0,dl,og,_,r.2,rate,mu,rfl,NA.mono s5,O,rfl,i4,ro,Fg,lr.mono e5,SJ rate (by simp),SJ mu (by simp),?_⟩;cases em:(n.w.zip (n.v.zip r.2)).mapM (Ji rate mu)with
    |none=>
     rw[em]at q;exact λH' s'=>fail q rfl H' (e5.trans s')
    |some l=>
     rw[em]at q;obtain⟨f1,f2⟩:=acs O.w O.v Fg em;exact λH6 k6 N6=>fin q ⟨O.chain,O.first,O.EZ,f1,f2,O.m,O.s⟩ k6 N6
   .rw[acI hs W8 W7 DP]at q;have et:Rm n x t rate b1 b2 eps=((n.w.zip (n.m.zip (n.s.zip r.2))).mapM (Il rate b1 b2 eps)).map λl=>(r.1,{n with w:=l.map λy=>y.map λz=>z.1,m:=l.map λy=>y.map λz=>z.2.1,s:=l.map λy=>y.map λz=>z.2.2}):=by unfold Rm;rw[eg];rfl
    rw[et]at q;have Uw:=SJ b1 (by simp);have Ux:=SJ b2 (by simp);refine C1 ⟨rfl,n,p,P0,dl,og,_,r.2,rate,b1,b2,eps,rfl,NA.mono s5,O,rfl,i4,ro,Fg,lr.mono e5,SJ rate (by simp),Uw,Ux,SJ eps (by simp),?_⟩;cases em:(n.w.zip (n.m.zip (n.s.zip r.2))).mapM (Il rate b1 b2 eps)with
    |none=>
     rw[em]at q;exact λH' s'=>fail q rfl H' (e5.trans s')
    |some l=>
     rw[em]at q;w_up;obtain⟨f1,f2,f3⟩:=sQ Uw Ux O.w O.m O.s Fg em;fin2;exact λH6 k6 N6=>fin q ⟨O.chain,O.first,O.EZ,f1,O.v,f2,f3⟩ k6 N6
 .rw[if_neg c];rcases q with⟨_,rate,mu,rfl,q⟩|⟨_,rate,b1,b2,eps,rfl,q⟩
  .exact⟨by show 1<=Al;decide,q.one st _ (auy c) (A2.fr e1) MG⟩
  .exact⟨by show 1<=Al;decide,q.one st _ (auu c) (A2.fr e1) MG⟩
def at9(a:Ad):Sp:=Hi λv1 v3 v4 v5 H Q _=>Et λ(h:A0)(st:Option CI)(x t:List Nat)(rate mu:Nat)=>Cn (v1=.ref h) (Dk a H st h) (AL H v3 (Nv [rate,mu])) (AL H v4 (Nv x)) (AL H v5 (Nv t)) ((∀z∈[rate,mu],z<2^32)) ((∀z∈x,z<2^32)) (Fm ((∀z∈t,z<2^32)) (x.length<=2^18) (t.length<=2^18) (Gf a H h (DL st (.train x ((x.length:Nat):Int) t ((t.length:Nat):Int) rate mu)) Q))
def aob(T:Txt K mg a):A_ P w K mg base 13 a.dE ["self","rates","numbers","wanted"] (at9 a):=by
 refine T.ai7.J7 asM λAF A outer s H p0 p1 p2 p3 Q E hr h nd=>?_;obtain⟨h,st,x,t,rate,mu,rfl,HI,h1,h2,h3,f1,f2,f3,l1,l2,q⟩:=h;obtain⟨dh,v0,hh⟩:=HI.dh;refine⟨_,(AE (Aa (Bb (we T) T.HW T.vX hr AD (pv 0) (A1 (yI T.aje) (A1 (pv 1) (A1 (pv 2) (A1 (pv 3) A3))))))).Ak,?_⟩;lk;exact⟨h,dh,_,rfl,hh,by kernel_rfl,h,st,_,x,t,rfl,HI,h1,h2,h3,f1,f2,f3,l1,l2,.inl ⟨rfl,rate,mu,rfl,q⟩⟩
def at5(a:Ad):Sp:=Hi λv1 v3 v4 v5 H Q _=>Et λ(h:A0)(st:Option CI)(x t:List Nat)(rate b1:Nat)=>EN λ(b2 eps:Nat)=>Cn (v1=.ref h) (Dk a H st h) (AL H v3 (Nv [rate,b1,b2,eps])) (AL H v4 (Nv x)) (AL H v5 (Nv t)) ((∀z∈[rate,b1,b2,eps],z<2^32)) ((∀z∈x,z<2^32)) (Fm ((∀z∈t,z<2^32)) (x.length<=2^18) (t.length<=2^18) (Gf a H h (DL st (.ease x ((x.length:Nat):Int) t ((t.length:Nat):Int) rate b1 b2 eps)) Q))
def aoW(T:Txt K mg a):A_ P w K mg base 13 a.eX ["self","rates","numbers","wanted"] (at5 a):=by
 refine T.ahz.J7 asE λAF A outer s H p0 p1 p2 p3 Q E hr h nd=>?_;obtain⟨h,st,x,t,rate,b1,b2,eps,rfl,HI,h1,h2,h3,f1,f2,f3,l1,l2,q⟩:=h;obtain⟨dh,v0,hh⟩:=HI.dh;refine⟨_,(AE (Aa (Bb (we T) T.HW T.vX hr AD (pv 0) (A1 (yI T.ajQ) (A1 (pv 1) (A1 (pv 2) (A1 (pv 3) A3))))))).Ak,?_⟩;lk;exact⟨h,dh,_,rfl,hh,by kernel_rfl,h,st,_,x,t,rfl,HI,h1,h2,h3,f1,f2,f3,l1,l2,.inr ⟨rfl,rate,b1,b2,eps,rfl,q⟩⟩
def Ip(H H':Hp):Prop:=∀b o u,H b=some (.CY o u)->H' b=some (.CY o u)
def Kz(K:Ae)(c:A0)(xs:List V):Prop:=∃(o:Obj)(its:Array A5)(n:Nat),K.lookup c=some o/\o.cls=.type "list"/\o.dict=none/\o.data=.seq its n/\its.size<=Al/\Ai xs its.toList
def Fz(K:Ae)(H:Hp)(c:A0)(xs:List V):Prop:=(∃o,H c=some (.CY o (.lst xs)))\/Kz K c xs
def Fz.sq(h:Fz K H c xs):A4 K H c xs:=h.elim (λh=> .inl (.inr h)) .inr
def Fz.mono(h:Fz K H c xs)(z:Ip H H'):Fz K H' c xs:=h.imp (λ⟨o,e⟩=>⟨o,z _ _ _ e⟩) id
def Fr.z(f:Fr H H'):Ip H H':=λb o u e=>f b _ e trivial
def Ip.trans(f:Ip H H1)(g:Ip H1 H2):Ip H H2:=λb o u e=>g b o u (f b o u e)
structure Eu(a:Ad)(K:Ae)(H0 H:Hp)(st:Option CI)(h:A0)(xs:List Int)(i:Nat)(r dr c:A0):Prop where
 hi:Dk a H st h
 re:H r=some (.ins a.Reader dr (EU (.ref c) (.int ((i:Nat):Int))))
 cs:Fz K H c (Iv xs)
 fr:Ip H0 H
def z_{C dr:A0}:Nw (.ins C dr (EU x y)):=λe=>by rw[bK]at e;cases e
section
variable{H0 H:Hp}{st:Option CI}{h r dr c:A0}{xs:List Int}{i:Nat}{Q:VK}{E:XK}
def Eu.keep(R:Eu a K H0 H st h xs i r dr c)(j:Nat):Ac r H (moved a H r dr c j):=(Ac.refl r H).upd
def Eu.move(R:Eu a K H0 H st h xs i r dr c)(j:Nat):Eu a K H0 (moved a H r dr c j) st h xs j r dr c:=by
 have z:Ip H (moved a H r dr c j):=λb o u e=>R.keep j b _ e (λz=>by rw[z,R.re]at e;cases e);exact⟨(R.hi.out R.re z_).mono (Jc (R.keep j)),AB,R.cs.mono z,R.fr.trans z⟩
def Eu.new(R:Eu a K H0 H st h xs i r dr c)(n:H l=none):Eu a K H0 (upd H l o) st h xs i r dr c:=by
 have s:=A2.one (o:=o) n;exact⟨R.hi.mono s,s _ _ R.re,R.cs.mono (Fr.z (A2.fr s)),R.fr.trans (Fr.z (A2.fr s))⟩
def Eu.K_(R:Eu a K H0 H st h xs i r dr c)(e:xs[i]? =some n)(q:∀H',Eu a K H0 H' st h xs (i+1) r dr c->(∀v l,AL H v l->AL H' v l)->Q (.int n) H'):aao a K [.ref r] H Q E:=
 ⟨xs,i,r,dr,c,n,⟨rfl,R.re,R.cs.sq⟩,e,q _ (R.move (i+1)) λv l h=>h.keep R.re (R.keep (i+1))⟩
def Eu.acj(R:Eu a K H0 H st h xs i r dr c)(e:i+k<=xs.length)(q:∀l H',Eu a K H0 H' st h xs (i+k) r dr c->(∀v l,AL H v l->AL H' v l)->H' l=some (.lst (Iv ((xs.drop i).take k)))->Q (.ref l) H'):abE a K [.ref r,.int ((k:Nat):Int)] H Q E:=
 ⟨xs,i,r,dr,c,k,⟨rfl,R.re,R.cs.sq⟩,rfl,e,λl nl=>q l _ ((R.move (i+k)).new nl) (λv l' h=>(h.keep R.re (R.keep (i+k))).mono (A2.one nl)) AB⟩
def Eu.RC(R:Eu a K H0 H st h xs i r dr c)(e0:xs[i]? =some ((k:Nat):Int))(e:i+1+k<=xs.length)(q:∀l H',Eu a K H0 H' st h xs (i+1+k) r dr c->(∀v l,AL H v l->AL H' v l)->H' l=some (.lst (Iv ((xs.drop (i+1)).take k)))->Q (.ref l) H'):ac1 a K [.ref r] H Q E:=
 ⟨xs,i,r,dr,c,k,⟨rfl,R.re,R.cs.sq⟩,e0,e,λl nl=>q l _ ((R.move (i+1+k)).new nl) (λv l' h=>(h.keep R.re (R.keep (i+1+k))).mono (A2.one nl)) AB⟩
end
def Jd{xs r:List Int}(h:xs.drop j=n::r):xs[j]? =some n/\xs.drop (j+1)=r/\j+1<=xs.length:=by
 have h1:(xs.drop j)[0]? =some n:=by rw[h];rfl
 rw[List.getElem?_drop]at h1;refine⟨h1,?_,?_⟩
 .have h2:(xs.drop j).drop 1=r:=by rw[h];rfl
  rw[PN]at h2;exact h2
 .have:=congrArg Hy h;rw[Di,B4]at this;omega
set_option tactic.hygienic true in
def Qc{xs x t:List Int}(h:GZ (xs.drop j)=some (x,t)):∃k:Nat,xs[j]? =some ((k:Nat):Int)/\j+1+k<=xs.length/\(xs.drop (j+1)).take k=x/\xs.drop (j+1+k)=t/\x.length=k:=by
 unfold GZ at h;split at h
 .cases h
 .rename_i n r e;split at h
  .rename_i c;cases h;obtain⟨h1,h2,h3⟩:=Jd e;have hl:r.length=xs.length-(j+1):=by rw[<-h2,Di]
   refine⟨n.toNat,by rw[h1];congr 1;lia,by lia,by rw[h2],?_,by rw[EW];lia⟩;rw[<-PN,h2]
  .cases h
def XW(h:Jp 1 l=some (xs,t)):∃x,xs=[x]/\GZ l=some (x,t):=by
 unfold Jp at h;cases e:GZ l with
 |none=>rw[e]at h;cases h
 |some p=>
  rw[e]at h;simp only[Jp]at h;cases h;exact⟨_,rfl,rfl⟩
def zD(h:Jp 2 l=some (xs,t)):∃x y u,xs=[x,y]/\GZ l=some (x,u)/\GZ u=some (y,t):=by
 unfold Jp at h;cases e:GZ l with
 |none=>rw[e]at h;cases h
 |some p=>
  rw[e]at h;simp only at h;cases e2:Jp 1 p.2 with
  |none=>rw[e2]at h;cases h
  |some q=>
   rw[e2]at h;cases h;obtain⟨y,hy,e3⟩:=XW (l:=p.2) (xs:=q.1) (t:=q.2) e2;exact⟨p.1,y,p.2,by rw[hy],rfl,e3⟩
def qO(h:Rj HJ l=some (cl,t)):
 (∃r x,l=0::r/\GZ r=some (x,t)/\cl=[[0],x])\/(l=1::t/\cl=[[1]])\/(∃r n x,l=2::n::r/\GZ r=some (x,t)/\cl=[[2,n],x])\/
 (∃n m,l=3::n::m::t/\cl=[[3,n,m]])\/(∃r n x,l=4::n::r/\GZ r=some (x,t)/\cl=[[4,n],x])\/
 (∃r n m x u y,l=5::n::m::r/\GZ r=some (x,u)/\GZ u=some (y,t)/\cl=[[5,n,m],x,y])\/
 (∃r n m n' m' x u y,l=6::n::m::n'::m'::r/\GZ r=some (x,u)/\GZ u=some (y,t)/\cl=[[6,n,m,n',m'],x,y]):=by
 refine rE λZ0 LI=>?_;unfold Rj at h;cases l with
 |nil=>cases h
 |cons p r=>
  simp only at h;unfold HJ at h;by_cases c0:p=0
  .subst c0;rw[if_pos rfl]at h;simp only at h;rw[if_neg (by lia)]at h;cases e:Jp 1 (r.drop 0)with
   |none=>rw[e]at h;cases h
   |some q=>
    rw[e]at h;cases h;obtain⟨x,hx,hr⟩:=XW (xs:=q.1) (t:=q.2) e;exact LI (.inl ⟨r,x,rfl,hr,by rw[hx];rfl⟩)
  rw[if_neg c0]at h;by_cases c1:p=1
  .subst c1;rw[if_pos rfl]at h;simp only at h;rw[if_neg (by lia)]at h;cases h;exact LI (.inr (.inl ⟨rfl,rfl⟩))
  rw[if_neg c1]at h;by_cases c2:p=2
  .subst c2;rw[if_pos rfl]at h;simp only at h;rcases r with _|⟨n,r⟩
   .cases h
   rw[if_neg (by rw[B4];lia)]at h;cases e:Jp 1 ((n::r).drop 1)with
   |none=>rw[e]at h;cases h
   |some q=>
    rw[e]at h;cases h;obtain⟨x,hx,hr⟩:=XW (xs:=q.1) (t:=q.2) e;exact LI (.inr (.inr (.inl ⟨r,n,x,rfl,hr,by rw[hx];rfl⟩)))
  rw[if_neg c2]at h;by_cases c3:p=3
  .subst c3;rw[if_pos rfl]at h;simp only at h;rcases r with _|⟨n,_|⟨m,r⟩⟩
   .cases h
   .cases h
   rw[if_neg (by rw[B4,B4];lia)]at h;cases h;exact LI (.inr (.inr (.inr (.inl ⟨n,m,rfl,rfl⟩))))
  rw[if_neg c3]at h;by_cases c4:p=4
  .subst c4;rw[if_pos rfl]at h;simp only at h;rcases r with _|⟨n,r⟩
   .cases h
   rw[if_neg (by rw[B4];lia)]at h;cases e:Jp 1 ((n::r).drop 1)with
   |none=>rw[e]at h;cases h
   |some q=>
    rw[e]at h;cases h;obtain⟨x,hx,hr⟩:=XW (xs:=q.1) (t:=q.2) e;exact LI (.inr (.inr (.inr (.inr (.inl ⟨r,n,x,rfl,hr,by rw[hx];rfl⟩)))))
  rw[if_neg c4]at h;by_cases c5:p=5
  .subst c5;rw[if_pos rfl]at h;simp only at h;rcases r with _|⟨n,_|⟨m,r⟩⟩
   .cases h
   .cases h
   rw[if_neg (by rw[B4,B4];lia)]at h;cases e:Jp 2 ((n::m::r).drop 2)with
   |none=>rw[e]at h;cases h
   |some q=>
    rw[e]at h;cases h;obtain⟨x,y,u,hx,hr,hu⟩:=zD (xs:=q.1) (t:=q.2) e;exact LI (.inr (.inr (.inr (.inr (.inr (.inl ⟨r,n,m,x,u,y,rfl,hr,hu,by rw[hx];rfl⟩))))))
  rw[if_neg c5]at h;by_cases c6:p=6
  .subst c6;rw[if_pos rfl]at h;simp only at h;rcases r with _|⟨n,_|⟨m,_|⟨n',_|⟨m',r⟩⟩⟩⟩
   .cases h
   .cases h
   .cases h
   .cases h
   rw[if_neg (by rw[B4,B4,B4,B4];lia)]at h;cases e:Jp 2 ((n::m::n'::m'::r).drop 4)with
   |none=>rw[e]at h;cases h
   |some q=>
    rw[e]at h;cases h;obtain⟨x,y,u,hx,hr,hu⟩:=zD (xs:=q.1) (t:=q.2) e;exact LI (.inr (.inr (.inr (.inr (.inr (.inr ⟨r,n,m,n',m',x,u,y,rfl,hr,hu,by rw[hx];rfl⟩))))))
  rw[if_neg c6]at h;cases h
def Mg(h:∀z∈x,0<=z):Iv x=Nv (Jn x):=by
 unfold Iv Nv Jn;rw[CA];refine Lm λz hz=>?_;have:=h z hz;show V.int z=V.int ((z.toNat:Nat):Int);congr 1;lia
def words_of(h:x.all GV=true):(∀z∈x,0<=z)/\∀z∈Jn x,z<2^32:=by
 have key:∀z∈x,0<=z/\z<=4294967295:=λz hz=>by
  have:=EY.mp h z hz;unfold GV aed at this;rw[CH,decide_eq_true_eq,decide_eq_true_eq]at this;exact this
 refine⟨λz hz=>(key z hz).1,λz hz=>?_⟩;obtain⟨y,hy,rfl⟩:=Ca.mp hz;have:=key y hy;lia
def TH(h:GV z=true):0<=z/\z<=4294967295:=by
 unfold GV aed at h;rw[CH,decide_eq_true_eq,decide_eq_true_eq]at h;exact h
def RD(h:k=Lu ((k:Nat):Int) 0 m)(hm:0<=m):k<=m.toNat:=by
 unfold Lu at h;split at h<;>lia
def IC(x:List Int):(Jn x).length=x.length:=AV ..
def dk(a:Ad)(H:Hp)(h r dr c:A0)(xs rest:List Int)(res:Option CI×List Int)(Q:VK):Prop:=∀l H' j,Ip H H'->H' r=some (.ins a.Reader dr (EU (.ref c) (.int ((j:Nat):Int))))->xs.drop j=rest->j<=xs.length->H' l=some (.lst (Iv res.2))->Dk a H' res.1 h->Q (.ref l) H'
def amH(v:Int)(out:List Nat):Iv (v::Sn38Neutral.ints out)=.int v::Nv out:=by
 unfold Iv Sn38Neutral.ints Nv;rw[BW,CA];rfl
def dk.h{H H1:Hp}{h r dr c:A0}{xs rest:List Int}{res:Option CI×List Int}{Q:VK}{st:Option CI}{j:Nat}(q:dk a H h r dr c xs rest res Q)(R:Eu a K H H1 st h xs j r dr c)(hd:xs.drop j=rest)(hj:j<=xs.length){r0:Option CI×pS}(e:res=(r0.1,r0.2.value::Sn38Neutral.ints r0.2.out)):Gf a H1 h r0 Q:=λl H' fr hl hi=>by
 subst e;exact q l H' j (R.fr.trans fr.z) (fr _ _ R.re z_) hd hj (by rw[hl,amH]) hi
def asp(a:Ad)(K:Ae):Sp:=Dq λv1 v2 H Q _=>Et λ(h:A0)(st:Option CI)(xs:List Int)(i:Nat)(r dr:A0)=>Eb λ(c:A0)(cl:List (List Int))(rest:List Int)=>S_ (v1=.ref h) (v2=.ref r) (Eu a K H H st h xs i r dr c) (Rj HJ (xs.drop i)=some (cl,rest)) (adf (GU cl)=true) (dk a H h r dr c xs rest (Jo st (GU cl)) Q)
def ao3(T:Txt K mg a):A_ P w K mg base 14 a.gM ["held","reader"] (asp a K):=by
 refine T.ahL.En as1 λAF A outer s H p0 p1 Q E hr h nd=>?_;obtain⟨h,st,xs,i,r,dr,c,cl,rest,rfl,rfl,R,aj,CZ,q⟩:=h;refine⟨_,(A7 (AW (i:=2) nd rfl (A6 rfl) (Cf (TK T) T.EG T.Sw hr AD (pv 1))) (A7 (BR (Bc Fs (pv 2) (Au T.afK) (BU _)) (AE (Aa (Bb (aoV T) T.HW T.an1 hr AD (pv 0) (A1 (Cf (QV T) T.EG T.QM hr AD (pv 1)) A3)))) BO) (A7 (BR (Bc Fs (pv 2) (Au T.agI) (BU _)) (AE (Aa (Cf (aoa T) T.HW T.an6 hr AD (pv 0)))) BO) (A7 (BR (Bc Fs (pv 2) (Au T.agG) (BU _)) (A7 (AW (i:=3) nd rfl (A6 rfl) (Cf (TK T) T.EG T.Sw hr AD (pv 1))) (AE (Aa (Bb (ao_ T) T.HW T.an5 hr AD (pv 0) (A1 (pv 3) (A1 (Cf (QV T) T.EG T.QM hr AD (pv 1)) A3)))))) BO) (A7 (BR (Bc Fs (pv 2) (Au T.afO) (BU _)) (A7 (AW (i:=3) nd rfl (A6 rfl) (Cf (TK T) T.EG T.Sw hr AD (pv 1))) (AE (Aa (Bb (aoX T) T.HW T.an3 hr AD (pv 0) (A1 (pv 3) (A1 (Cf (TK T) T.EG T.Sw hr AD (pv 1)) A3)))))) BO) (A7 (BR (Bc Fs (pv 2) (Au T.agE) (BU _)) (A7 (AW (i:=4) nd rfl (A6 rfl) (Cf (TK T) T.EG T.Sw hr AD (pv 1))) (AE (Aa (Bb (aoZ T) T.HW T.an4 hr AD (pv 0) (A1 (pv 4) (A1 (Cf (QV T) T.EG T.QM hr AD (pv 1)) A3)))))) BO) (A7 (BR (Bc Fs (pv 2) (Au T.agL) (BU _)) (A7 (AW (i:=5) nd rfl (A6 rfl) (Bb (kW T) T.EG T.jA hr AD (pv 1) (A1 Am A3))) (A7 (AW (i:=6) nd rfl (A6 rfl) (Cf (QV T) T.EG T.QM hr AD (pv 1))) (AE (Aa (Bb (aob T) T.HW T.an7 hr AD (pv 0) (A1 (pv 5) (A1 (pv 6) (A1 (Cf (QV T) T.EG T.QM hr AD (pv 1)) A3)))))))) BO) (A7 (BR (Bc Fs (pv 2) (Au T.afL) (BU _)) (A7 (AW (i:=5) nd rfl (A6 rfl) (Bb (kW T) T.EG T.jA hr AD (pv 1) (A1 Am A3))) (A7 (AW (i:=6) nd rfl (A6 rfl) (Cf (QV T) T.EG T.QM hr AD (pv 1))) (AE (Aa (Bb (aoW T) T.HW T.an2 hr AD (pv 0) (A1 (pv 5) (A1 (pv 6) (A1 (Cf (QV T) T.EG T.QM hr AD (pv 1)) A3)))))))) BO) (AE ap6))))))))).Ak,?_⟩;refine cut λU hU=>?_;lk;refine⟨r,dr,_,rfl,R.re,by kernel_rfl,?_⟩;rcases qO aj with⟨rr,x,hl,FJ,rfl⟩|⟨hl,rfl⟩|⟨rr,n,x,hl,FJ,rfl⟩|⟨n,m,hl,rfl⟩|⟨rr,n,x,hl,FJ,rfl⟩|⟨rr,n,m,x,u,y,hl,FJ,jN,rfl⟩|⟨rr,n,m,n',m',x,u,y,hl,FJ,jN,rfl⟩
 .obtain⟨h1,h2,h3⟩:=Jd hl;refine R.K_ h1 λH1 R1 k1=>?_;obtain⟨O1,TF,Ez⟩:=R1.hi.dh;subst hU;refine cut λU hU=>?_;lk;refine⟨h,O1,_,rfl,Ez,by kernel_rfl,r,dr,_,rfl,R1.re,by kernel_rfl,?_⟩;obtain⟨k,g1,g2,g3,g4,g5⟩:=Qc (j:=i+1) (by rw[h2];exact FJ);refine R1.RC g1 g2 λl H2 R2 k2 D4=>?_;rw[g3]at D4;have CZ:(Lq _&&(NeutralIO.bytes x&&decide (x.length=Lu ((x.length:Nat):Int) 0 4096)))=true:=CZ;rw[CH,CH,decide_eq_true_eq]at CZ;have nn:∀z∈x,0<=z:=λz hz=>by
   have:=EY.mp CZ.2.1 z hz;rw[CH,decide_eq_true_eq]at this;exact this.1
  have DZ:=RD CZ.2.2 (by decide);exact⟨h,st,Jn x,rfl,R2.hi,⟨l,rfl,by rw[D4,Mg nn]⟩,by rw[IC];lia,q.h R2 g4 g2 (by rw[IC];rfl)⟩
 .obtain⟨h1,h2,h3⟩:=Jd hl;refine R.K_ h1 λH1 R1 k1=>?_;obtain⟨O1,TF,Ez⟩:=R1.hi.dh;subst hU;refine cut λU hU=>?_;lk;rw[if_neg (by decide)];subst hU;refine cut λU hU=>?_;lk;exact⟨h,O1,_,rfl,Ez,by kernel_rfl,h,st,rfl,R1.hi,q.h R1 h2 h3 rfl⟩
 .obtain⟨h1,h2,h3⟩:=Jd hl;refine R.K_ h1 λH1 R1 k1=>?_;obtain⟨O1,TF,Ez⟩:=R1.hi.dh;subst hU;refine cut λU hU=>?_;lk;rw[if_neg (by decide)];subst hU;refine cut λU hU=>?_;lk;rw[if_neg (by decide)];subst hU;refine cut λU hU=>?_;lk;refine⟨r,dr,_,rfl,R1.re,by kernel_rfl,?_⟩;obtain⟨m1,m2,m3⟩:=Jd h2;refine R1.K_ m1 λH2 R2 k2=>?_;obtain⟨Ut,acS,GF⟩:=R2.hi.dh;refine⟨h,Ut,_,rfl,GF,by kernel_rfl,r,dr,_,rfl,R2.re,by kernel_rfl,?_⟩;obtain⟨k,g1,g2,g3,g4,g5⟩:=Qc (j:=i+1+1) (by rw[m2];exact FJ);refine R2.RC g1 g2 λl H3 R3 k3 El=>?_;rw[g3]at El;have CZ:(Lq n&&(Lq _&&(x.all GV&&decide (x.length=Lu ((x.length:Nat):Int) 0 100000))))=true:=CZ;rw[CH,CH,CH,decide_eq_true_eq]at CZ;obtain⟨nn,wd⟩:=words_of CZ.2.2.1;have DZ:=RD CZ.2.2.2 (by decide);exact⟨h,st,n,Jn x,rfl,R3.hi,rfl,⟨l,rfl,by rw[El,Mg nn]⟩,wd,by rw[IC];lia,q.h R3 g4 g2 (by rw[IC];rfl)⟩
 .obtain⟨h1,h2,h3⟩:=Jd hl;refine R.K_ h1 λH1 R1 k1=>?_;obtain⟨O1,TF,Ez⟩:=R1.hi.dh;subst hU;refine cut λU hU=>?_;lk;rw[if_neg (by decide)];subst hU;refine cut λU hU=>?_;lk;rw[if_neg (by decide)];subst hU;refine cut λU hU=>?_;lk;rw[if_neg (by decide)];subst hU;refine cut λU hU=>?_;lk;refine⟨r,dr,_,rfl,R1.re,by kernel_rfl,?_⟩;obtain⟨m1,m2,m3⟩:=Jd h2;refine R1.K_ m1 λH2 R2 k2=>?_;obtain⟨Ut,acS,GF⟩:=R2.hi.dh;refine⟨h,Ut,_,rfl,GF,by kernel_rfl,r,dr,_,rfl,R2.re,by kernel_rfl,?_⟩;obtain⟨n1,n2,n3⟩:=Jd m2;refine R2.K_ n1 λH3 R3 k3=>?_;exact⟨h,st,n,m,rfl,R3.hi,rfl,rfl,q.h R3 n2 n3 rfl⟩
 .obtain⟨h1,h2,h3⟩:=Jd hl;refine R.K_ h1 λH1 R1 k1=>?_;obtain⟨O1,TF,Ez⟩:=R1.hi.dh;subst hU;refine cut λU hU=>?_;lk;rw[if_neg (by decide)];subst hU;refine cut λU hU=>?_;lk;rw[if_neg (by decide)];subst hU;refine cut λU hU=>?_;lk;rw[if_neg (by decide)];subst hU;refine cut λU hU=>?_;lk;rw[if_neg (by decide)];subst hU;refine cut λU hU=>?_;lk;refine⟨r,dr,_,rfl,R1.re,by kernel_rfl,?_⟩;obtain⟨m1,m2,m3⟩:=Jd h2;refine R1.K_ m1 λH2 R2 k2=>?_;obtain⟨Ut,acS,GF⟩:=R2.hi.dh;refine⟨h,Ut,_,rfl,GF,by kernel_rfl,r,dr,_,rfl,R2.re,by kernel_rfl,?_⟩;obtain⟨k,g1,g2,g3,g4,g5⟩:=Qc (j:=i+1+1) (by rw[m2];exact FJ);refine R2.RC g1 g2 λl H3 R3 k3 El=>?_;rw[g3]at El;have CZ:(Lq _&&(Lq n&&(x.all GV&&decide (x.length=Lu ((x.length:Nat):Int) 0 100000))))=true:=CZ;rw[CH,CH,CH,decide_eq_true_eq]at CZ;obtain⟨nn,wd⟩:=words_of CZ.2.2.1;have DZ:=RD CZ.2.2.2 (by decide);exact⟨h,st,n,Jn x,rfl,R3.hi,rfl,⟨l,rfl,by rw[El,Mg nn]⟩,wd,by rw[IC];lia,q.h R3 g4 g2 (by rw[IC];rfl)⟩
 .obtain⟨h1,h2,h3⟩:=Jd hl;refine R.K_ h1 λH1 R1 k1=>?_;obtain⟨O1,TF,Ez⟩:=R1.hi.dh;subst hU;refine cut λU hU=>?_;lk;rw[if_neg (by decide)];subst hU;refine cut λU hU=>?_;lk;rw[if_neg (by decide)];subst hU;refine cut λU hU=>?_;lk;rw[if_neg (by decide)];subst hU;refine cut λU hU=>?_;lk;rw[if_neg (by decide)];subst hU;refine cut λU hU=>?_;lk;rw[if_neg (by decide)];subst hU;refine cut λU hU=>?_;lk;refine⟨r,dr,_,rfl,R1.re,by kernel_rfl,?_⟩;have l2:i+1+2<=xs.length:=by
   have:=congrArg Hy h2;rw[Di]at this;simp only[B4]at this;lia
  have d2:xs.drop (i+1+2)=rr:=by rw[<-PN,h2];rfl
  refine R1.acj (k:=2) l2 λlr H2 R2 k2 KU=>?_;rw[h2]at KU;have KU:H2 lr=some (.lst (Iv [n,m])):=KU;refine⟨r,dr,_,rfl,R2.re,by kernel_rfl,?_⟩;obtain⟨k,g1,g2,g3,g4,g5⟩:=Qc (j:=i+1+2) (by rw[d2];exact FJ);refine R2.RC g1 g2 λl H3 R3 k3 El=>?_;rw[g3]at El;obtain⟨f_,vh3,au⟩:=R3.hi.dh;refine⟨h,f_,_,rfl,au,by kernel_rfl,r,dr,_,rfl,R3.re,by kernel_rfl,?_⟩;obtain⟨k',f1,f2,f3,f4,f5⟩:=Qc (j:=i+1+2+1+k) (by rw[g4];exact jN);refine R3.RC f1 f2 λl' H4 R4 k4 WH=>?_;rw[f3]at WH;have CZ:(Lq _&&(Lq _&&(GV n&&(GV m&&((x.all GV&&decide (x.length=Lu ((x.length:Nat):Int) 0 100000))&&((y.all GV&&decide (y.length=Lu ((y.length:Nat):Int) 0 100000))))))))=true:=CZ;simp only[CH,decide_eq_true_eq]at CZ;have w0:=TH CZ.2.2.1;have w1:=TH CZ.2.2.2.1;obtain⟨⟨x1,x2⟩,y1,y2⟩:=CZ.2.2.2.2;obtain⟨nx,wx⟩:=words_of x1;obtain⟨ny,wy⟩:=words_of y1;have DZ:=RD x2 (by decide);have FK:=RD y2 (by decide);have wr:∀z∈[n,m],0<=z:=λz hz=>by
   simp only[B2,DG,or_false]at hz;rcases hz with rfl|rfl<;>lia
  have er:Iv [n,m]=Nv [n.toNat,m.toNat]:=Mg wr;rw[er]at KU;refine⟨h,st,Jn x,Jn y,n.toNat,m.toNat,rfl,R4.hi,k4 _ _ (k3 _ _ ⟨lr,rfl,KU⟩),k4 _ _ ⟨l,rfl,by rw[El,Mg nx]⟩,⟨l',rfl,by rw[WH,Mg ny]⟩,λz hz=>?_,wx,wy,by rw[IC];lia,by rw[IC];lia,q.h R4 f4 f2 (by rw[IC,IC];rfl)⟩;simp only[B2,DG,or_false]at hz;rcases hz with rfl|rfl<;>lia
 .obtain⟨h1,h2,h3⟩:=Jd hl;refine R.K_ h1 λH1 R1 k1=>?_;obtain⟨O1,TF,Ez⟩:=R1.hi.dh;subst hU;refine cut λU hU=>?_;lk;rw[if_neg (by decide)];subst hU;refine cut λU hU=>?_;lk;rw[if_neg (by decide)];subst hU;refine cut λU hU=>?_;lk;rw[if_neg (by decide)];subst hU;refine cut λU hU=>?_;lk;rw[if_neg (by decide)];subst hU;refine cut λU hU=>?_;lk;rw[if_neg (by decide)];subst hU;refine cut λU hU=>?_;lk;rw[if_neg (by decide)];subst hU;refine cut λU hU=>?_;lk;refine⟨r,dr,_,rfl,R1.re,by kernel_rfl,?_⟩;have l2:i+1+4<=xs.length:=by
   have:=congrArg Hy h2;rw[Di]at this;simp only[B4]at this;lia
  have d2:xs.drop (i+1+4)=rr:=by rw[<-PN,h2];rfl
  refine R1.acj (k:=4) l2 λlr H2 R2 k2 KU=>?_;rw[h2]at KU;have KU:H2 lr=some (.lst (Iv [n,m,n',m'])):=KU;refine⟨r,dr,_,rfl,R2.re,by kernel_rfl,?_⟩;obtain⟨k,g1,g2,g3,g4,g5⟩:=Qc (j:=i+1+4) (by rw[d2];exact FJ);refine R2.RC g1 g2 λl H3 R3 k3 El=>?_;rw[g3]at El;obtain⟨f_,vh3,au⟩:=R3.hi.dh;refine⟨h,f_,_,rfl,au,by kernel_rfl,r,dr,_,rfl,R3.re,by kernel_rfl,?_⟩;obtain⟨k',f1,f2,f3,f4,f5⟩:=Qc (j:=i+1+4+1+k) (by rw[g4];exact jN);refine R3.RC f1 f2 λl' H4 R4 k4 WH=>?_;rw[f3]at WH;have CZ:(Lq _&&(Lq _&&(GV n&&(GV m&&(GV n'&&(GV m'&&((x.all GV&&decide (x.length=Lu ((x.length:Nat):Int) 0 100000))&&((y.all GV&&decide (y.length=Lu ((y.length:Nat):Int) 0 100000))))))))))=true:=CZ;simp only[CH,decide_eq_true_eq]at CZ;have w0:=TH CZ.2.2.1;have w1:=TH CZ.2.2.2.1;have w2:=TH CZ.2.2.2.2.1;have w3:=TH CZ.2.2.2.2.2.1;obtain⟨⟨x1,x2⟩,y1,y2⟩:=CZ.2.2.2.2.2.2;obtain⟨nx,wx⟩:=words_of x1;obtain⟨ny,wy⟩:=words_of y1;have DZ:=RD x2 (by decide);have FK:=RD y2 (by decide);have wr:∀z∈[n,m,n',m'],0<=z:=λz hz=>by
   simp only[B2,DG,or_false]at hz;rcases hz with rfl|rfl|rfl|rfl<;>lia
  have er:Iv [n,m,n',m']=Nv [n.toNat,m.toNat,n'.toNat,m'.toNat]:=Mg wr;rw[er]at KU;refine⟨h,st,Jn x,Jn y,n.toNat,m.toNat,n'.toNat,m'.toNat,rfl,R4.hi,k4 _ _ (k3 _ _ ⟨lr,rfl,KU⟩),k4 _ _ ⟨l,rfl,by rw[El,Mg nx]⟩,⟨l',rfl,by rw[WH,Mg ny]⟩,λz hz=>?_,wx,wy,by rw[IC];lia,by rw[IC];lia,q.h R4 f4 f2 (by rw[IC,IC];rfl)⟩;simp only[B2,DG,or_false]at hz;rcases hz with rfl|rfl|rfl|rfl<;>lia
def Qd(h:GZ l=some (x,t)):t.length<=l.length:=by
 unfold GZ at h;split at h
 .cases h
 .split at h
  .cases h;rw[Di,B4];lia
  .cases h
def agv(h:Rj HJ l=some (cl,t)):t.length<l.length:=by
 rcases qO h with⟨rr,x,rfl,hr,_⟩|⟨rfl,_⟩|⟨rr,n,x,rfl,hr,_⟩|⟨n,m,rfl,_⟩|⟨rr,n,x,rfl,hr,_⟩|⟨rr,n,m,x,u,y,rfl,hr,hu,_⟩|⟨rr,n,m,n',m',x,u,y,rfl,hr,hu,_⟩
 .have:=Qd hr;rw[B4];lia
 .rw[B4];lia
 .have:=Qd hr;simp only[B4];lia
 .simp only[B4];lia
 .have:=Qd hr;simp only[B4];lia
 .have:=Qd hr;have:=Qd hu;simp only[B4];lia
 .have:=Qd hr;have:=Qd hu;simp only[B4];lia
def agz(h:Js HJ f l=some cs)(hl:l≠[]):∃f' cl t Iw,Rj HJ l=some (cl,t)/\Js HJ f' t=some Iw/\cs=cl::Iw:=by
 cases l with
 |nil=>exact absurd rfl hl
 |cons p r=>
  cases f with
  |zero=>cases h
  |succ f=>
   unfold Js at h;cases e:Rj HJ (p::r)with
   |none=>rw[e]at h;cases h
   |some q=>
    rw[e]at h;simp only at h;cases e2:Js HJ f q.2 with
    |none=>rw[e2]at h;cases h
    |some Iw=>
     rw[e2]at h;cases h;exact⟨f,q.1,q.2,Iw,rfl,e2,rfl⟩
def ah0(h:Js HJ f []=some cs):cs=[]:=by
 unfold Js at h;cases f<;>(cases h;rfl)
def ai_{st:Option CI}(h:PJ st (c::l)=true):adf c=true/\PJ (Jo st c).1 l=true:=by
 unfold PJ at h;rw[CH,CH]at h;exact⟨h.1,h.2.2⟩
def alx(H:Hp)(t:A0)(o:HO):C8 (upd H t o) t=C8 H t:=by
 funext b;unfold C8;by_cases e:b=t
 .rw[if_pos e,if_pos e]
 .rw[if_neg e,if_neg e,AY e]
abbrev Ge(st:Option CI)(cs:List (List (List Int))):List Int:=PyFlat.told (PyFlat.played Jo st (cs.map GU))
def au6(st:Option CI)(c:List (List Int))(cs:List (List (List Int))):Ge st (c::cs)=((((Jo st (GU c)).2.length:Nat):Int)::(Jo st (GU c)).2)++Ge (Jo st (GU c)).1 cs:=rfl
def aay(a:Ad)(K:Ae):Sp:=CS λv H Q _=>Io λ(c:A0)(xs:List Int)(cs:List (List (List Int)))(f:Nat)=>S_ (v=.ref c) (Fz K H c (Iv xs)) (Js HJ f xs=some cs) (PJ none (cs.map GU)=true) ((Ge none cs).length<=10000000) (∀l H',Ip H H'->H l=none->H' l=some (.lst (Iv (Ge none cs)))->Q (.ref l) H')
def axQ(T:Txt K mg a):A_ P w K mg base 15 a.answers ["calls"] (aay a K):=by
 refine T.ahM.Cy as2 λAF A outer s H p0 Q E hr h nd=>?_;obtain⟨c,xs,cs,f,rfl,hc,OD,QB,hlen,q⟩:=h;refine⟨_,(A7 (AW (i:=1) nd rfl (A6 rfl) (F9 (aok T) T.amS T.ajJ hr AD (A1 (pv 0) A3))) (A7 (AW (i:=2) nd rfl (A6 rfl) (aoy (aoY T) T.amO T.ak1 hr AD)) (A7 (AW (i:=3) nd rfl (A6 rfl) (Bn A3)) (A7 (xj Dd (Mq (Hh (Cf (aoj T) T.EG T.amU hr AD (pv 1)))) (A7 (AW (i:=4) nd rfl (A6 rfl) (apV (Ag (ao3 T) T.ajN hr AD (A1 (pv 2) (A1 (pv 1) A3))))) (A7 (Df (Fu Fd Gv Hk IB (pv 3) (A1 (CG EH (by rfl) T.E0 Dt (A1 (pv 4) A3)) A3))) (AE (Df (Fu Fd Tz YT cH (pv 3) (A1 (pv 4) A3))))))) (AE (Aa (pv 3))))))).Ak,?_⟩;refine cut λU hU=>?_;lk;intro r dr nr xh wo;have s1:A2 H (upd (upd H dr (.own r)) r (.ins a.Reader dr [])):=Th nr xh wo;refine⟨r,dr,rfl,AB,rfl,?_⟩;rw[Ds];have s1:A2 H (upd (upd H dr (.own r)) r (.ins a.Reader dr (EU (.ref c) (.int 0)))):=((A2.refl H).new xh).new (by rw[AY wo.symm];exact nr);have MD:upd (upd H dr (.own r)) r (.ins a.Reader dr (EU (.ref c) (.int 0))) r=some (.ins a.Reader dr (EU (.ref c) (.int 0))):=AB;generalize upd (upd H dr (.own r)) r (.ins a.Reader dr (EU (.ref c) (.int 0)))=H1 at*;subst hU;refine cut λU hU=>?_;lk;intro h dh nh ndh neh;refine⟨h,dh,rfl,AB,rfl,?_⟩;rw[Ds];have s2:A2 H1 (upd (upd H1 dh (.own h)) h (.ins a.Cp dh (DV .Ah))):=((A2.refl H1).new ndh).new (by rw[AY neh.symm];exact nh);have GF:upd (upd H1 dh (.own h)) h (.ins a.Cp dh (DV .Ah)) h=some (.ins a.Cp dh (DV .Ah)):=AB;generalize upd (upd H1 dh (.own h)) h (.ins a.Cp dh (DV .Ah))=H2 at*;subst hU;refine cut λU hU=>?_;lk;refine⟨by decide,λt nt=>?_⟩;have s3:=A2.one (o:=.lst []) nt;have ht3:upd H2 t (.lst []) t=some (.lst []):=AB;have lh3:C8 (upd H2 t (.lst [])) t h=some (.ins a.Cp dh (DV .Ah)):=Jb (s3 _ _ GF) (Dm GF nt);have Mw:=(s1.trans s2).trans s3;have xD:H t=none:=(s1.trans s2).free nt;have hr3:=s3 _ _ (s2 _ _ MD);generalize upd H2 t (.lst [])=H3 at*;subst hU;lk;refine⟨λm σ H'=>∃i st Iw T0 f o4,σ=[some (.ref c),some (.ref r),some (.ref h),some (.ref t),o4]/\m=xs.length-i/\i<=xs.length/\Dk a (C8 H' t) st h/\H' r=some (.ins a.Reader dr (EU (.ref c) (.int ((i:Nat):Int))))/\Fz K H' c (Iv xs)/\Ip H H'/\H' t=some (.lst (Iv T0))/\Js HJ f (xs.drop i)=some Iw/\PJ st (Iw.map GU)=true/\T0++Ge st Iw=Ge none cs,⟨_,0,none,cs,[],f,none,rfl,rfl,Er _,⟨dh,lh3⟩,hr3,hc.mono (Fr.z (A2.fr Mw)),Fr.z (A2.fr Mw),ht3,OD,QB,rfl⟩,?_⟩;intro m σ H4 AG;w_up;obtain⟨i,st,Iw,T0,f',o4,rfl,rfl,hi,HI,Vd,gk,rQ,Vl,gp,tM,B9⟩:=AG;fin2;generalize hN:(λm σ H'=>∃i st Iw T0 f o4,σ=[some (V.ref c),some (.ref r),some (.ref h),some (.ref t),o4]/\m=xs.length-i/\i<=xs.length/\Dk a (C8 H' t) st h/\H' r=some (.ins a.Reader dr (EU (.ref c) (.int ((i:Nat):Int))))/\Fz K H' c (Iv xs)/\Ip H H'/\H' t=some (.lst (Iv T0))/\Js HJ f (xs.drop i)=some Iw/\PJ st (Iw.map GU)=true/\T0++Ge st Iw=Ge none cs)=W;lk;refine⟨r,dr,_,rfl,Vd,by kernel_rfl,xs,i,r,dr,c,⟨rfl,Vd,gk.sq⟩,?_⟩;lk;by_cases ce:xs.length<=i
 .rw[if_pos ce];have e0:xs.drop i=[]:=adj ce;rw[e0]at gp;have:=ah0 gp;subst this;have B9:T0++[]=Ge none cs:=B9;rw[JD]at B9;exact q t H4 rQ xD (by rw[Vl,B9])
 .rw[if_neg ce];w_up;obtain⟨f2,cl,rest,ah8,aj,akT,rfl⟩:=agz gp (by intro z;have:=congrArg Hy z;rw[Di]at this;simp at this;lia);obtain⟨CZ,akC⟩:=ai_ (by rw[BW]at tM;exact tM);fin2;have B3:=agv aj;rw[Di]at B3;rw[au6]at B9;have tl:=congrArg Hy B9;rw[Bo,Bo,B4]at tl;refine⟨λB1 H'=>∃m',m'<xs.length-i/\W m' B1 H',λ_ _ h=>h,t,.lst (Iv T0),Vl,trivial,λod=>?_⟩;have rt:r≠t:=λz=>by rw[z,Vl]at Vd;cases Vd
  have kL:Ac t H4 (upd H4 t (.CY od (.lst (Iv T0)))):=(Ac.refl t H4).upd;have fF:Ip H4 (upd H4 t (.CY od (.lst (Iv T0)))):=λb o u e=>kL b _ e (λz=>by rw[z,Vl]at e;cases e);have htL:upd H4 t (.CY od (.lst (Iv T0))) t=some (.CY od (.lst (Iv T0))):=AB;have RL:Eu a K (upd H4 t (.CY od (.lst (Iv T0)))) (upd H4 t (.CY od (.lst (Iv T0)))) st h xs i r dr c:=⟨HI.mono (Jc kL),kL _ _ Vd rt,gk.mono fF,λ_ _ _ e=>e⟩;generalize upd H4 t (.CY od (.lst (Iv T0)))=HL at*;lk;refine⟨h,st,xs,i,r,dr,c,cl,rest,rfl,rfl,RL,aj,CZ,λl H5 j V1 re5 t9 hj5 cK qQ=>?_⟩;have jU:=V1 _ _ _ htL;have lt:l≠t:=λz=>by rw[z,jU]at cK;cases cK
  refine⟨jU,A6 ⟨rfl,_,A4.of AB⟩,_,A6 (A4.of (by rw[AY lt];exact cK)),_,AB,?_,?_⟩
  .rw[show(Iv T0).length=T0.length from AV ..];show T0.length<16777216;lia
  have uH:(Iv (Jo st (GU cl)).2).length=(Jo st (GU cl)).2.length:=AV ..;rw[Ds,uH];refine⟨A6 ⟨rfl,_,A4.of AB⟩,_,_,AB,by rw[AY lt];exact cK,?_,?_⟩
  .rw[Bo,uH,show(Iv T0).length=T0.length from AV ..];show T0.length+1+_<=16777216;lia
  rw[Ds];have jl:xs.length-j=rest.length:=by rw[<-t9,Di]
  refine⟨xs.length-j,by lia,?_⟩;subst hN;refine⟨j,(Jo st (GU cl)).1,ah8,T0++(((Jo st (GU cl)).2.length:Nat):Int)::(Jo st (GU cl)).2,f2,_,rfl,rfl,hj5,?_,?_,?_,?_,?_,by rw[t9];exact akT,akC,by rw[<-B9,Hs]⟩
  .rw[alx];exact qQ.out jU trivial
  .rw[AY rt];exact re5
  .rcases gk with⟨o,e⟩|z
   .have e5:=V1 _ _ _ (fF _ _ _ e);refine .inl ⟨o,?_⟩;rw[AY (λz=>by rw[z,Vl]at e;cases e)];exact e5
   .exact .inr z
  .intro b o u e;have bt:b≠t:=λz=>by rw[z,xD]at e;cases e
   rw[AY bt];exact V1 _ _ _ (fF _ _ _ (rQ _ _ _ e))
  .rw[AB];congr 2;show(Iv T0++[_])++Iv _=Iv (T0++_);unfold Iv;rw[E9,BW,Hs];rfl
open PySem PySem.Spec PyProof.Rows L2
def anv{P:Bs}{w:Bg}{K:Ae}{mg mb:Str->Option A5}{k:Nat}
 (KX:K.In Bz.heap)(hns:Bz.heap.Ns UT mg)(hb:Bz.heap.Ns oq mb)(akG:∀x:Str,x≠"__name__"->mb x=IX x)(alT:Bz.heap.NoLimit)(hg:Bz.gens=#[])
 (ha:Bz.heap.get? a=some {cls:=.type "list",data:=.seq vs.toArray})(hi:IntsAre vs ns)(hl:ns.length<=Al)(hr:By k Rt)
 (F:∀base:B5,A_ P w K mg base k fa [x] sp)
 (LQ:∀H:Hp,Fz K H a (Iv ns)->sp [.ref a] H (λv H'=>∃l,v=.ref l/\H' l=some (.lst (Iv ans))) λ_ _ _=>False):
 JF (AU P w) Rt (.call (.ref fa) ⟨[.ref a],[]⟩) (λr s'=>(∃l its n,r=.ok (.ret (.ref l))/\s'.heap.get? l=some {cls:=.type "list",data:=.seq (afA its) n}/\Ai (Iv ans) its)/\OldK Bz.heap s'.heap/\s'.os=Bz.os/\M5 s'.gens) Bz:=by
 have rv:=acQ hi;have alw:=hi.length;have core:∀H:Hp,agB H->Fz K H a (Iv ns)->Co P w H Bz.heap->(∀b,H b≠none->b=a)->(H a≠none->K.lookup a=none)->
  JF (AU P w) Rt (.call (.ref fa) ⟨[.ref a],[]⟩) (λr s'=>(∃l its n,r=.ok (.ret (.ref l))/\s'.heap.get? l=some {cls:=.type "list",data:=.seq (afA its) n}/\Ai (Iv ans) its)/\OldK Bz.heap s'.heap/\s'.os=Bz.os/\M5 s'.gens) Bz:=by
  intro H hO hS AZ hA hK;have pw:∀{b:A0}{o:Obj},Bz.heap.get? b=some o->H b=none->(LN Bz.heap H).get? b=some o:=λe n=>alJ e n;have QT:∀{b:A0}{o:Obj}{es:Array DictEntry}{ep:Nat},Bz.heap.get? b=some o->o.data=.dict es ep->H b=none:=λ{b o es ep}e d=>by
   cases q:H b with
   |none=>rfl
   |some u=>
    have e':b=a:=hA b (by rw[q];simp);subst e';rw[ha]at e;cases e;have d':Data.seq vs.toArray _=Data.dict es ep:=d;cases d'
  have kT:∀{b:A0}{m:Str->Option A5},Bz.heap.Ns b m->(LN Bz.heap H).Ns b m:=λ{b m}⟨o,es,ep,e,d,r⟩=>⟨o,es,ep,pw e (QT e d),d,r⟩;have akp:K.In (LN Bz.heap H):=λb o e=>pw (KX b o e) (by
   cases q:H b with
   |none=>rfl
   |some u=>
    have e':b=a:=hA b (by rw[q];simp);subst e';rw[hK (by rw[q];simp)]at e;cases e)
  have hM:Mod K mg (LN Bz.heap H):=⟨akp,kT hns,⟨mb,kT hb,akG⟩,let⟨mc,h1,h2⟩:=alT;⟨mc,kT h1,h2⟩⟩;have e0:QE P w K mg (LN Bz.heap H) Rt [] Bz H:=⟨rfl,hM,λb o e=>anD e,Kq (alK _ _),trivial,λb hb=>absurd (show b∈([]:List A0)from hb) (by simp),AZ,.of_eq hg⟩;w_up;obtain⟨fd,Fk,bd,_⟩:=F (LN Bz.heap H);fin2;refine ZC (Fk.run Rt [] Bz H ⟨[.ref a],[]⟩ [.ref a] [.ref a] _ _ hr e0 (bd Bz [.ref a] KX rfl) (.cons rfl .nil) (LQ H hS)) λr s' h=>?_;cases r with
  |error e=>
   w_up;obtain⟨_,_,_,_,_,_,_,_,_,_,_,_,q⟩:=h;fin2;exact q.elim
  |ok fl=>
   cases fl with
   |next=>exact Hw h
   |brk=>exact Hw h
   |cont=>exact Hw h
   |ret u=>
    w_up;obtain⟨v,H',os,bare,un,uk,r',q⟩:=h;obtain⟨l,rfl,FV⟩:=q;obtain rfl:u=Cc l:=r';obtain⟨_,its,n,rvv,h7⟩:=uk l _ FV;fin2;refine⟨⟨l,its,n,rfl,h7,rvv⟩,OldK.of_keep λb o e=>?_,os,bare⟩;cases q:H b with
    |none=>exact un.keep b o e q (by intro z;exact absurd (show b∈([]:List A0)from z) (by simp)) (by simp)
    |some u=>
     rcases hO b with z|⟨ob,xs,z⟩
     .rw[q]at z;cases z
     .have z2:=un.KL b ob _ z;w_up;obtain⟨e1,_⟩:=AZ b _ z;obtain⟨e2,_⟩:=uk b _ z2;fin2;rw[e]at e1;cases e1;exact e2
 cases hk:K.lookup a with
 |some o=>
  have e:=KX a o hk;rw[ha]at e;cases e;refine core (λ_=>none) (λ_=> .inl rfl) (.inr ⟨_,vs.toArray,_,hk,rfl,rfl,rfl,by rw[DH,alw];exact hl,by simpa using rv⟩) (λb u z=>by have z':(none:Option HO)=some u:=z;cases z') (λb z=>absurd rfl z) λz=>absurd rfl z
 |none=>
  refine core (λb=>if b=a then some (.CY {cls:=.type "list",data:=.seq vs.toArray} (.lst (ns.map V.int)))else none) (λb=>?_) (.inl ⟨{cls:=.type "list",data:=.seq vs.toArray},if_pos rfl⟩) (λb u z=>?_) (λb z=>?_) λ_=>hk
  .by_cases hb:b=a
   .exact .inr ⟨_,_,if_pos hb⟩
   .exact .inl (if_neg hb)
  .by_cases hb:b=a
   .have z':=(if_pos hb).symm.trans z;cases z';subst hb;exact⟨ha,by rw[AV];exact hl,vs,_,rv,ha⟩
   .have z':=(if_neg hb).symm.trans z;cases z'
  .by_cases hb:b=a
   .exact hb
   .exact absurd (if_neg hb) z
def za:∀{ns:List Int}{us:List A5},Ai (Iv ns) us->PySem.W.ReadsAllW R cl h us (ns.map oH) []
 |[],_,.nil=> .nil
 |n::ns,_,.cons r rs=>by
  obtain⟨t,rfl⟩:=r;exact .cons (as:=[]) (bs:=[]) (.int n t) (za rs)
section
variable{K:Ae}
def ax0{x qual:Str}{st:D8}{f:A0}{oc:A5}{od an:Option A0}{Lf:Array (Option A5)}{kV doc pm AF ct:A5}(l:K.lookup f=some ⟨oc,od,.func (Hu x qual (JT st) (FT st) (AO st) .none kV doc pm an AF ct),Lf⟩)
 (c:Yl K AF qual=true)(k:Lr K (.ref f)=true):Fn K x qual st f:=⟨⟨_,ajt l c k⟩⟩
def ayc(h:Kv K (.ref C) f=some none):Ap K C f:=h
def azy(l:K.lookup p=some ⟨.type "tuple",od,.seq its n,sl⟩)(hs:its.size<=Al)(v:Ai xs its.toList):C6 K H p xs:=.inr ⟨_,its,n,l,rfl,rfl,hs,v⟩
def awy(h1:ae0 K (.ref C) "__getattribute__"=some (some (.builtin "type.__getattribute__")))(h2:aeP K C (.type "type")=true)(h3:oR K (.ref C) (.type "type") m=some (.val (.ref f)))(h4:Ye (.ref f)=true):Sa K C m f:=⟨h1,h2,by rw[h3];exact beq_self_eq_true _,h4⟩
abbrev adr:Ad:=⟨45,73,111,239,300,340,369,407,476,526,548,634,677,739,823,28,35,42,63,70,84,89,96,101,121,128,135,142,149,156,163,170,177,184,191,198,205,217,224,231,236,248,255,262,269,276,290,297,318,325,330,337,356,361,366,385,390,397,404,416,430,437,442,449,456,461,468,473,490,497,504,509,516,523,537,558,565,570,577,584,591,598,605,612,619,631,645,650,655,660,667,687,694,708,715,722,729,736,757,764,771,778,785,792,799,806,813,820,832,538⟩
end
def agX(h:YG.pre args=true):∃ns:List Int,args=[.list (ns.map .int)]/\ns.length<=30000/\nY ns=true/\awR YG.args args=some (ns,()):=by
 have Se:awG [] args [.list .int]=true:=PySem.W.os_shapes _ h;obtain⟨d,r,rfl,h1,h2⟩:=PySem.W.hasAllW_cons Se;obtain rfl:=PySem.W.hasAllW_nil h2;obtain⟨xs,rfl,h3⟩:=PySem.W.hasW_list h1;obtain⟨ns,rfl⟩:=PySem.W.items_int h3;have e:afB (afF (ns.map afG))=.list (ns.map oH):=by
  rw[<-aeH];rfl
 have hs:=PySem.W.os_pre_isSome h;rw[<-e]at hs;obtain⟨d1,_,d3,_⟩:=PySem.W.os_dec_ints (least:=0) (most:=30000) (lo:=Int.negSucc 2147483647) (hi:=Int.ofNat 4294967295) (ns:=ns) hs;rw[e]at d1;exact⟨ns,rfl,d3,PySem.W.os_pre_asked h d1,d1⟩
def afm(h:nY ns=true):∃cs,Js HJ ns.length ns=some cs/\PJ none (cs.map GU)=true/\oK ns=Ge none cs/\(Ge none cs).length<=10000000:=by
 unfold nY at h;cases e:Js HJ ns.length ns with
 |none=>
  have e2:ZW ns=none:=by unfold ZW;rw[e]
  rw[e2]at h;cases h
 |some cs=>
  have e2:ZW ns=some (cs.map GU):=by unfold ZW;rw[e]
  have e3:oK ns=Ge none cs:=by unfold oK;rw[e2];rfl
  rw[e2]at h;simp only[CH]at h;obtain⟨⟨h1,h2⟩,h3⟩:=h;refine⟨cs,rfl,?_,e3,?_⟩
  .unfold Sn38Neutral.asked at h2;rw[CH]at h2;exact h2.2
  .rw[<-e3];exact of_decide_eq_true h3
def axR{d:DefRec}{K:Params->Ae}{k:Nat}{x:Str}
 (akb:d.params.defaults=[])(hr:By k Rt)
 (hY:∀(w:Bg)(h:B5),YP w h->(K w.params).In h)
 (F:∀(w:Bg)(mg:Str->Option A5)(fa:A0)(h:B5),(K w.params).In h->h.Ns UT mg->mg d.name=some (.ref fa)->
  ∀base:B5,A_ YG.prog w (K w.params) mg base k fa [x] (aay adr (K w.params))):
 PySem.W.WalkOS q loose XP YP YG d [] (λf vs=>HQ f vs):=by
 intro w azs Bz mg mb G Y fa o pm cd doc dV kV ho hd J0 hD hmg hg args vals as alF ayn hrd Sj OI;w_up;obtain rfl:dV=.none:=awW hD akb;obtain rfl:kV=.none:=awd hD;obtain⟨ns,rfl,hlen,CZ,aka⟩:=agX alF;obtain⟨cs,OD,QB,al0,SS⟩:=afm CZ;fin2;cases Sj with
 |cons w1 w2=>
 cases w2;cases w1 with
 | @list a vs _ alC Q9=>
 have hints:=pT.amA ns _ Q9;have KX:=hY w _ Y;refine PySem.W.enter_call (ZC (anv (ans:=Ge none cs) KX G.T.g G.T.b G.T.builtins G.T.nolimit hg alC hints (Ao hlen (by decide)) hr (F w mg fa _ KX G.T.g hmg) λH hS=>⟨a,ns,cs,ns.length,rfl,hS,OD,QB,SS,λl H' _ _ hl=>⟨l,rfl,hl⟩⟩) λr s' hq=>?_);w_up;obtain⟨⟨l,its,n,rfl,h7,hv⟩,h2,h3,h4⟩:=hq;fin2;refine⟨.inl ⟨.ref l,.list ((Ge none cs).map .int),_,rfl,λ_=>rfl,.list h7 rfl rfl (za (by simpa using hv)),PySem.W.osPost (PySem.W.os_post aka ?_),λz=>absurd z DR⟩,h2,h3,h4⟩;have e:afB (afF ((Ge none cs).map afG))=.list ((Ge none cs).map oH):=by
  rw[<-aeH];rfl
 rw[<-e];exact PySem.W.os_same_ints al0.symm
end Sg
namespace PySem.W.Fast
def tw14614438971079742771:=0
def tw5989347869608123098:=0
def tw16887018689925186115:=0
def tw6550814539637830122:=0
def tw17927138547908990021:=0
def tw532365515301584663:=0
def tw16854789332930656223:=0
def tw1826643356933790544:=0
def tw12618184987457227221:=0
def tw15748850919738662720:=0
def tw12447604867761774856:=0
def tw4868975239332812052:=0
def tw16172803260389068427:=0
def tw15277330745121007913:=0
def tw17750225769825952548:=0
def tw8159216281353106886:=0
def tw6101678679287122744:=0
def tw1168355370533043336:=0
def tw16076635784202166480:=0
def tw9070635332320833447:=0
def tw14818582324969011306:=0
def tw8171384409583454700:=0
def tw13125569235716053621:=0
def tw16715629952310138860:=0
def tw10996780945030331424:=0
def tw14502131948419820568:=0
def tw4769277536965930467:=0
def tw14278959424664408661:=0
def tw11087500340617437569:=0
def tw5105936348674556305:=0
def tw5438512625783536949:=0
def tw10977876138882709719:=0
def tw6950851955170853782:=0
def tw14007269531183850108:=0
def tw17791545408066326832:=0
def tw16073742898511896891:=0
def tw6832166417789436445:=0
def tw6045734166888506041:=0
def tw12033300952251031989:=0
def tw2990382187710036850:=0
def tw15603826135493038710:=0
def tw5363543727177930848:=0
def tw12319929889005558628:=0
def tw6905720081947376467:=0
def tw3088791327035178048:=0
def tw15190752530735782234:=0
def tw5086420406583889077:=0
def tw3481756647957905448:=0
def tw16247678585570321288:=0
def tw12253025386603581678:=0
def tw5835310243549421269:=0
def tw13391555769428168859:=0
def tw1793270929825108674:=0
def tw9418145380739053661:=0
def tw6836839843302560068:=0
def tw17380304316253911263:=0
def tw16114855206437749839:=0
def tw17693746768860984274:=0
def tw6407969837343928575:=0
def tw11631095956389598226:=0
def tw17462998480141800175:=0
def tw5785944327861046714:=0
def tw14379787226432727339:=0
def tw17469556733341037989:=0
def tw13746060784589231355:=0
def tw7628707249503502926:=0
def tw16369482255416257462:=0
def tw8000927366361042919:=0
def tw16866363510364213457:=0
def tw9454951753039528641:=0
def tw2453611472977649346:=0
def tw12634570751188521367:=0
def tw17250489891698969517:=0
def tw3455477804772527708:=0
def tw15544244468924745776:=0
def tw11739940203121546339:=0
def tw13368396199000617345:=0
def tw6467059440667947970:=0
def tw8823864517638389162:=0
def tw6992938647889525336:=0
def tw12248853673238147026:=0
def tw5485928496383090623:=0
def tw2736077613445150000:=0
def tw10322219354100350891:=0
def tw11568744801520577823:=0
def tw3659973088173006576:=0
def tw8886343166622859706:=0
def tw10067946677161931247:=0
def tw8904683824703775702:=0
def tw5497515751043514193:=0
def tw14752916921486492441:=0
def tw7316293250338841455:=0
def tw14831685870734112432:=0
def tw18262357444196544940:=0
def tw10117157404140113129:=0
def tw10223337625603310193:=0
def tw9492354974993067810:=0
def tw13860895772809109542:=0
def tw6424071376505414523:=0
def tw10485099786577552865:=0
def tw8216317205388970987:=0
def tw10261161719338532847:=0
def tw8156787500045846105:=0
def tw5405435861959514874:=0
def tw9353249405787966969:=0
def tw4856521140217215338:=0
def tw13124258028668281920:=0
def tw2832648130600188110:=0
def tw5528759450917421908:=0
def tw17836765345608128311:=0
def tw6159975491266258006:=0
def tw7252253499136137303:=0
def tw14381594952851638284:=0
def tw13326220243581501461:=0
def tw8201466578936145943:=0
def tw1297050691660979292:=0
def tw4966839037311551294:=0
def tw3091650546169749287:=0
def tw1923222473618107776:=0
def tw3846108537989282570:=0
def tw5578782661898332108:=0
def tw10560821945915847302:=0
def tw4410565882816037794:=0
def tw1817756454849605225:=0
def tw16492856262708110138:=0
def tw3935316218180177369:=0
def tw967284071498958804:=0
def tw1429919034852320411:=0
def tw17499795473861964678:=0
def tw746590718077432617:=0
def tw9257974720663270281:=0
def tw12322390281138039799:=0
def tw17355726152900507541:=0
def tw12107498969776673742:=0
def tw15545046941833914187:=0
def tw18079183263424844401:=0
def tw14485172775781219997:=0
def tw15862809006458361063:=0
def tw7935956935390260809:=0
def tw2202760217040364756:=0
def tw16925574092922477289:=0
def tw239434712360158456:=0
def tw12618784965308592848:=0
def tw10437696690159116318:=0
def tw6406522260101802485:=0
def tw5445945696568236305:=0
def tw1219650244101566731:=0
def tw13044945633879375468:=0
def tw17218403194752176089:=0
def tw10555543686372660194:=0
def tw13119628447453891188:=0
def tw6980318933187639620:=0
def tw5987246835623379602:=0
def tw1813333549871469055:=0
def tw3633051045934032930:=0
def tw11719417292438801509:=0
def tw12488876322388359461:=0
def tw1715581012607904320:=0
def tw13850117415902947243:=0
def tw12567329782562534425:=0
def tw13860355221160761366:=0
def tw2823039424406808099:=0
def tw13113689436799720785:=0
def tw17372321347748649704:=0
def tw532638021423029712:=0
def tw10175174340666140373:=0
def tw6367758960196926993:=0
def tw7047047823009333148:=0
def tw16944769213927113947:=0
def tw3559005632086554701:=0
def tw12766032373472571179:=0
def tw15032302090077966987:=0
def tw1001205023129322569:=0
def tw6639457375662657364:=0
def tw10445352799638209755:=0
def tw7242148952918301678:=0
def tw14512288623520381425:=0
def tw13942155642233224608:=0
def tw13585710266286363486:=0
def tw9589676416937409970:=0
def tw727466367285428957:=0
def tw8518070959571776869:=0
def tw7144542823491392237:=0
def tw6358652828607699529:=0
def tw11461800843939368056:=0
def tw4555464015605758000:=0
def tw2001810457437872566:=0
def tw17160509411824988049:=0
def tw16192066890601078027:=0
def tw9502166313570973570:=0
def tw13082702059466505667:=0
def tw7518660754572201161:=0
def tw1556717345929652265:=0
def tw15539958132537038681:=0
def tw16729484438048960658:=0
def tw10810214389261734630:=0
def tw12375491407386467094:=0
def tw10974666494042344699:=0
def tw5848937721549862485:=0
def tw1067813870339966905:=0
def tw7607543364536518595:=0
def tw6910983766676860140:=0
def tw4948058883913986328:=0
def tw7710073149400390675:=0
def tw5417389173234888103:=0
def tw7941210736334070110:=0
def tw7635346941868624821:=0
def tw10048742480910424929:=0
def tw6247874067182844226:=0
def tw10928968043961624567:=0
def tw16581931213819086473:=0
def tw11927745625498991890:=0
def tw722765971816535313:=0
def tw6874581461918431085:=0
def tw560081291084474263:=0
def tw18261947361276803867:=0
def tw16168707832696787229:=0
def tw7266801506252542528:=0
def tw8856437381556468652:=0
def tw8355910349932513248:=0
def tw3221206989258194590:=0
def tw12815744075638962660:=0
def tw11012745204848440006:=0
def tw6834541535148962708:=0
def tw12415212223835406076:=0
def tw11631056762677279725:=0
def tw11200196517414178247:=0
def tw12438732200100574616:=0
def tw8163536788539749912:=0
def tw434841479735628531:=0
def tw17203965444578693818:=0
def tw3902719290948687121:=0
def tw146369423068336352:=0
def tw1872912722220701352:=0
def tw6680787384777591119:=0
def tw13616708900686465889:=0
def tw2345935938019845444:=0
def tw16876484779772209656:=0
def tw2514481169601028519:=0
def tw6538534537371491231:=0
def tw12784212395559896622:=0
def tw4665354554721830245:=0
def tw10985317899114585765:=0
def tw345342918429269525:=0
def tw5416638968395720461:=0
def tw2519322044974105614:=0
def tw2402878378728022282:=0
def tw9477523822557113917:=0
def tw5196257455706149194:=0
def tw13437964281080307153:=0
def tw16561656701672499011:=0
def tw6150038522185552662:=0
def tw8157687452009552429:=0
def tw296331651215770065:=0
def tw5829860157250219234:=0
def tw16419072894644129199:=0
def tw11720432971142929783:=0
def tw8483934240798623653:=0
def tw9824045828974948454:=0
def tw13397738963671466880:=0
def tw6357281181607256260:=0
def tw10496170176548974853:=0
def tw8787219989647411362:=0
def tw13210557816667567208:=0
def tw11160479686327100143:=0
def tw8512881495051751439:=0
def tw139235883276047741:=0
def tw9123521090466960351:=0
def tw2739338731357524230:=0
def tw18153157102620138223:=0
def tw654444213995291549:=0
def tw625469288568781058:=0
def tw16862545176055369232:=0
def tw14288240480565457086:=0
def tw10619531910508018039:=0
def tw12586375114303266434:=0
def tw9395189944109995087:=0
def tw2089658772174052469:=0
def tw16166339585097460313:=0
def tw2747838586683898588:=0
def tw11697984774718703896:=0
def tw5306292629558799570:=0
def tw762005402889205990:=0
def tw11874180064994618289:=0
def tw30021383154084255:=0
def tw10343587080827836667:=0
def tw3618039960254850434:=0
def tw17054644318441228340:=0
def tw8485575767310670672:=0
def tw7818285430723305539:=0
def tw10735525995543237638:=0
def tw13827372681130232589:=0
def tw3189752767295796620:=0
def tw13490391233058514640:=0
def tw3980729775858975418:=0
def tw8869017882001798672:=0
def tw17861903808899930979:=0
def tw11918408728962945238:=0
def tw11132477388451966614:=0
def tw9982092298578133794:=0
def tw9932086441886907574:=0
def tw14442514219586684258:=0
def tw1724816147848026993:=0
def tw16568643904597437496:=0
def tw11936828261633779918:=0
def tw2560294583191453682:=0
def tw6683759260723476960:=0
def tw18192147689913589952:=0
def tw10538060467938765575:=0
def tw11176680236590358009:=0
def tw13872991126151880174:=0
def tw10066937642948817894:=0
def tw13829555475540266563:=0
def tw12032710106403115550:=0
def tw6639308399590387710:=0
def tw14354864499253761252:=0
def tw12235310604947249471:=0
def tw16708460016239768091:=0
def tw9618472302443108745:=0
def tw17807002147604195172:=0
def tw5358943109841757480:=0
def tw7695330658034008163:=0
def tw2189318324631035160:=0
def tw9561395667827327421:=0
def tw5577799432709349668:=0
def tw16077721010277712874:=0
def tw11756662976662264339:=0
def tw10389781100296090422:=0
def tw8511541952927722937:=0
def tw6061629617981028279:=0
def tw12589319925262715662:=0
def tw6427869152716422292:=0
def tw5263837855421455093:=0
def tw3179295865961487832:=0
def tw14966071040750817062:=0
def tw12432470275875226633:=0
def tw3770577635177879309:=0
def tw1562166768963788367:=0
def tw7909281241236858774:=0
def tw17364505652908027644:=0
def tw15514236272192119571:=0
def tw1262207008145313771:=0
def tw11419128370452047667:=0
def tw3615399807173263170:=0
def tw12786598498302596496:=0
def tw9623809693618578938:=0
def tw14687770811563021354:=0
def tw17310347231291150583:=0
def tw12948337652606630070:=0
def tw5460935461119901134:=0
def tw15770223948461117184:=0
def tw14720111919253071163:=0
def tw13110168633356653212:=0
def tw11180997107967793213:=0
def tw9608046520220182549:=0
def tw5843799764580364896:=0
def tw5237816305379740601:=0
def tw18202332675660477240:=0
def tw4417254818991722836:=0
def tw15282277353495759691:=0
def tw10369754224911399101:=0
def tw15242682134204239784:=0
def tw8420665910598206719:=0
def tw7885333127682309942:=0
def tw6179170487005731079:=0
def tw5333204695714856814:=0
def tw18155096195345276386:=0
def tw17047897580905057947:=0
def tw14420770514092270498:=0
def tw13582712930910598668:=0
def tw13135178456116179057:=0
def tw12355420262870604121:=0
def tw11987949601603099589:=0
def tw3995225158519688736:=0
def tw8489308827525745182:=0
def tw960940704712364876:=0
def tw8056404448032953994:=0
def tw6932295712903893504:=0
def tw5376565432914200376:=0
def tw4640291482644008951:=0
def tw4484078860699049273:=0
def tw2705984259668508649:=0
def tw2541704840377549215:=0
def tw17252896472781551637:=0
def tw1625948380470487907:=0
def tw15884034479996091098:=0
def tw15793410133343659764:=0
def tw15400936007477149944:=0
def tw13638724279158620408:=0
def tw1359441301581321805:=0
def tw12984719580220034663:=0
def tw12714566087732763693:=0
def tw12282572385419758425:=0
def tw12180735203503306015:=0
def tw11753529960019852221:=0
def tw11089909156465606938:=0
def tw10877853658961494635:=0
def tw10210440457628643038:=0
def tw17733779312204367902:=0
def tw3452424030208801902:=0
def tw14825312705048050734:=0
def tw9407222981199642332:=0
def tw16819740737583870236:=0
def tw15650197475513327987:=0
def tw9412083373248629478:=0
def tw9407574660752173403:=0
def tw6257019913706179805:=0
def tw3687051883517877441:=0
def tw3508244577302825211:=0
def tw15352141546603445587:=0
def tw12992208117254892205:=0
def tw10818082332157475372:=0
def tw5683646488684887480:=0
def tw9167023708786207965:=0
def tw1081958398333112142:=0
def tw2531933932623748406:=0
def tw13751051823232568990:=0
def tw8974178729153891524:=0
def tw882479061932827677:=0
def tw8485354667004366187:=0
def tw697608144237860345:=0
def tw6660914696645161893:=0
def tw6527717887831306770:=0
def tw642650709214592393:=0
def tw5684199194386709081:=0
def tw5660092148833958157:=0
def tw4355530411207245361:=0
def tw3823534836397246494:=0
end PySem.W.Fast
end
open PySem PySem.W PyProof.Rows
set_option maxHeartbeats 0 in
theorem PySem.Challenge.cw_singlenet_s01_answers_holds : PySem.Challenge.rw_singlenet_s01_answers.Holds := by
 w_on; k_headS
 (case hw => exact ⟨[.list [.int 0, .int 0]], by decide +kernel, by decide +kernel⟩)
 k_fillS
 refine Sg.axR (k := 15) (x := "calls") rfl ⟨rfl, by decide, by decide⟩ (fun w h Y => PySem.W.kIn_of Y) ?F
 case F =>
  intro w mg fa h KX G hmg base
  have A : Sg.afa (L2.KOf KX) mg Sg.adr := by
   dsimp only [L2.KOf]
   apply Sg.afa.mk <;> first|exact ⟨_, mg_of KX G (by k_is)⟩|exact mg_of KX G (by k_is)|exact mg_none_of KX G (by k_is)|exact fun H => Sg.azy (by k_is) (by decide) (.cons ⟨_, rfl⟩ (.cons ⟨_, rfl⟩ (.cons ⟨_, rfl⟩ .nil)))|exact ⟨by kernel_rfl, by kernel_rfl⟩
  have B : Sg.afb (L2.KOf KX) mg Sg.adr := by
   dsimp only [L2.KOf]
   apply Sg.afb.mk <;> first|exact Sg.ax0 (by k_is) (by k_is) (by k_is)|exact mg_of KX G (by k_is)|exact ⟨by k_is, by k_is, by k_is⟩|exact Sg.awy (by k_is) (by k_is) (by k_is) (by kernel_rfl)
  have C : Sg.afc (L2.KOf KX) mg Sg.adr := by
   dsimp only [L2.KOf]
   apply Sg.afc.mk <;> first|exact mg_of KX G (by k_is)|exact Sg.ayc (by k_is)|exact ⟨by k_is, by k_is, by k_is, by k_is⟩
  have T : Sg.Txt (L2.KOf KX) mg Sg.adr := ⟨A, B, C⟩
  have e0 := hmg.symm.trans T.ax5
  cases e0
  exact Sg.axQ T
