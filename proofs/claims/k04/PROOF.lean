import PyProof.Rows.All
import KE.KIntText
import KE.KSortTup
import KE.KTryMore
import PySem.Challenge.RW_stephall_k04_plan_texts_spoilt
import Wide.FinOn
set_option genSizeOf false
set_option bootstrap.genMatcherCode false
set_option compiler.extract_closed false
noncomputable section
local macro_rules | `(tactic| omega)=>`(tactic| first | lia | omega +splitNatSub)
open PySem renaming Shared->RY,wpAny_bind->RZ,wpAny->R1,World->R3,model->R4,Expr->R6,Program->R7,sizeLine_eq->R8,wpAny_pure->Sb,starEach->Se,eval->Sf,Around->Sj,mainGlobals->Sl,FuncData->Sr,backTo->SJ,compareOp->S1,bootBuiltins->Ta,rawInt->Tc,pyNext->Tg,codeAny->Tq,sysModules->Tv,Builtin->Tw,SetTable->Tx,wpAny_mono->TV,wpAny_call_entry->T1,wpAny_field->T2,hashStr->T3,assign->T5,binaryOp->T7,standAt->Um,relabel->Us,IsEnum->Uu,mem_of_lookup->UA,wpAny_holding->UB,field->UD,holding->UH,wpAny_truthy_bool->UI,foldedSetIterable->UJ,codeAny_mono->UM,backToKw->UN,keywordEach->UO,wpAny_standAt->US,wpAny_newObj_type->UT,wpAny_callSpecial?_slot->UZ,Model->U6,swapsWith->U7,assignEach->U8,getMethod->Va,NameKind->Vc,bindL->Vd,bindC->Ve,intText?->Vh,atKey->Vl,relayAll->Vm,wpAny_setState_of->Vo,wpAny_rule->Vp,wpAny_askSetting->Vr,pickOrder->Vt,setNext->Vu,fieldsOf->Vv,wpAny_setField->Vw,letOwnedTupleGo->VC,pyIter->VD,Result->VF,BindsTo->VH,wpAny_Call_Name_kw->VI,Keyword->VJ,typeIs_str->VM,sliceBounds->VN,call_meets->VO,callerA->VP,codeAny_builtin->VQ,valueAt->VT,wpAny_attempt->VX,wpAny_setField_rec->VY,IsZip->VZ,IsPair->V0,wpAny_load->V6,wpAny_call->V7,callWith->V8,compPost->Wd,layNew->Wh,tupleKind->Wu,GenState->Ww,isTrue->Wy,wpAny_passesOwn->WC,attributeBase->WD,getItem->WE,Params->WI,DictEntry->WK,sliceRange->WL,comprehension->WO,setsByText->WU,setEntries->WW,wpAny_isInstance->WX,wpAny_seqItems->WY,wpAny_execs_nil->W8,wpAny_pyIter_list->W9,wpAny_pyIter_tuple->Xa,behindInMarks->Xb,subscripted->Xh,compTurn->Xq,compEnvC->Xr,plainId_quiet->Xx,firstArgMember->XA,isSubtype_stop->XB,seqItems?->XC,IsEnumOut->XG,ClassData->XT,Within->XX,builtinsNs->XZ,wpAny_Name->X4,wpAny_assign_Name->X5,PassesOwn->X6,cellsFrom->Yd,typeIs_int->Yi,call->Yl,noteFrame->Yp,codeAny_call_builtin->Yq,checkBuiltinCall->Yr,reprText->Ys,codeAny_loop->Yu,wpAny_noted->Yv,firstIterPos->Yw,wpAny_comprehension_free->Yx,wpAny_newFunctionEnv->Yy,wpAny_newTuple->YI,wpAny_newList->YJ,setAddHashedIn->YM,codeAny_of_tree->YQ,wpAny_of_eq->YR,sizeLine->Y6,wpAny_eqBool_int->Y8,wpAny_execs_cons->Zd,wpAny_loadPart->Zg,slot_list_getitem->Zm,wpAny_loadPart_at->Zw,wpAny_formatField_str->ZA,exec_Assign_Name_used->ZC,wpAny_specialOf->ZF,wpAny_storeSet_of->ZV,wpAny_runValue->ZY,typeLookup_type->Z1,builtinLookup_eq_fast->Z2,isSubtype_type->Z3,entryFor_alias->Z4,wpAny_pyIter_slot->Z6,wpAny_updateSeq->si,wpAny_pyIter_enum->sO,wpAny_pyIter_zip->sQ
open PySem.W renaming Frag->R0,findIn->Sn,nsIn->Sv,mg_of->SR,subIn->S0,keepIn->Td,excIn->Ts,mg_none_of->TH,typeIn->TN,kitOne->TQ,fnOf->TZ,kia_one->Uc,clsIn->Uj,plainGet->Uo,hasDictIn->Ux,makesIn->Uy,plainOver->UK,emptyDict->UL,codeIn->UP,instObj->U5,callWith_K->Vb,isFn->VE,kitAny->Wc,hideAll_get->Wv,hideAll->W7,lookIn->Xc,specialIn->Xd,methodCall_KW->Xe,exmOne->Xj,methodObj->XY,plainGet_of->X8,takerIn->X9,OpenLaw->Ym,nsOkIn->Yn,of_hideAll->Zb,handedIn->Zf,kitx_list->Zh,kitx_dict->Zi,cellsFrom_some->Zj,tail_of_in->Zr,readsIn->ZG,findCls->ZH,kitMeta->tD
open List renaming length_map->R5,mem_cons->Si,replicate->Ss,map_append->Su,mem_map->Sx,mem_singleton->SA,set_cons_succ->SD,set_cons_zero->SE,length_append->SF,mem_append->SG,getElem?_eq_getElem->SH,mem_cons_of_mem->SI,getElem?_map->SK,mem_cons_self->SS,length_take->SU,mem_of_getElem?->SV,size_toArray->SY,append_nil->S5,mem_append_right->S6,nodup_cons->Te,getD->Tf,map_cons->Th,append_assoc->To,map_map->Tt,not_mem_nil->Tz,take_length->TF,getElem?_eq_some_iff->TL,length_singleton->TR,length_cons->TX,take_add_one->T9,length_replicate->Ud,length_drop->Ue,length_filterMap_le->Ui,range->Uk,mem_filter->Ul,mem_range->Uv,mem_of_mem_take->UC,all_eq_true->UW,getElem_mem->UX,nodup_nil->UY,replicate_succ->Vf,take_of_length_le->Vg,lookup_cons->Vj,map_take->VA,lookup->VG,length_eq_zero_iff->VR,nodup_append->VU,cons_append->V4,mem_append_left->V5,flatten_cons->V9,range'->We,find?_cons->Wf,pairwise_map->Wg,map_drop->Wq,mem_of_mem_drop->Wr,getElem_inj->Wx,mem_filterMap->WB,any_cons->WG,length_range->WM,map_replicate->WN,length_filter_le->W4,map->W5,length->Xf,take_sublist->Xg,drop_zero->Xn,getElem_of_mem->Xt,lt_trans->Xu,ext_getElem->Xv,filter_cons->XE,filterMap_append->XQ,length_eq_one_iff->XR,filterMap_cons->X1,getElem?_set_self->X2,getElem?_set_ne->X3,of_mem_zip->Yc,foldl->Yj,map_nil->Yk,forIn_cons->Yt,length_nil->YB,any_eq_true->YC,le_antisymm->YD,pairwise_cons->YE,perm_ext_iff_of_nodup->YS,mem_iff_getElem?->YW,filter_eq_nil_iff->Y5,getElem?_append_left->Zk,foldl_cons->Zo,nil_append->Zp,getElem?_eq_none->Zt,range'_succ->ZD,nodup_range->ZJ,pairwise_iff_getElem->ZS,length_pos_of_mem->ZZ,length_eraseIdx_of_lt->Z5,getElem?_drop->sy,filter_append->sS,map_eq_nil_iff->sT,perm_middle->sU,getElem_take->sW,flatMap_append->sX,sum_append->sY,take_append_drop->sZ,drop_drop->ti,count_le_length->tq,take_succ_cons->tF
open Or renaming inr->R9,inl->Sd
open PySem.Str renaming ofString->Sa,empty->Sz,join->S9,length->VL
open PySem.Value renaming ref->Sg,none->SW,str->S2,int->Tu,type->UG,bool->Wt,isStrOf->W6,builtin->Xk,isInt->XU,float->XW,isStrOf_shape->Y7
open Nat renaming le_refl->Sh,ne_of_lt->Sw,le_trans->Sy,lt_of_lt_of_le->SN,zero_le->S7,le_of_ble_eq_true->Tp,le_succ->Tr,lt_irrefl->TK,ne_of_gt->T6,lt_succ_self->Uq,lt_succ_of_lt->Ut,min_le_left->Xl,sub_zero->Xo,succ_ne_self->Xs,succ->XJ,min_eq_left->XN,min_eq_right->XO,le_of_lt->X0,lt_of_le_of_lt->YA,max_le->Y4,log2_le_self->ZE
open PySem.Heap renaming lt_size->So,get?_push_of_some->Sq,get?_push_size->SO,SameBut->S4,size_push->Tb,get?_update_other->UQ,get?_update_self->Vn,size_update->YK,get?_push_ne->ZM,get?_update_ne->ZN
open Sum renaming inr->SM,inl->VB
open PyProof.Rows renaming seqObj->SQ,AllBare->Uw,envOfC->Uz,StrsAre->UU,callWith_type1->WA,IntsAre->WJ,Subscript_->Yf,subscriptTail->Yg,listUpdate_at->YG,seqEpoch_at->YH,subscriptTail_builtinR->Zl,slot_list_sort->ZP,entry_list_sort->ZQ,args_list_sort->ZR
open Ne renaming symm->S3
open Bool renaming false_ne_true->S8,and_eq_true->Ug,eq_iff_iff->U9,false_eq_true->VS,eq_false_iff->Wa,true_and->Wb,false_and->Wz,and_false->WH,and_comm->XS,not_eq_true'->Yo,not_eq_false'->sV
open PySem.Obj renaming mapSeq->Ti,mapFields->U0,putSet->Xw,data_mapFields->sJ
open PySem.PyData renaming str->Tj,depth->Ua,eqv->UR,depthAll->U4,canLay0->Vz,canLayAll0->V3,eqvAll->W3
open False renaming elim->Tn
open Array renaming length_toList->TC,getElem?_eq_getElem->Ur,getElem_mem_toList->YF,toList_push->YN,mem_toList_iff->Ze,getElem?_toList->Zy,getElem?_eq_none->Zz,perm_iff_toList_perm->ZL,eq_empty_of_size_eq_zero->Z9,toList_inj->sj,all_toList->sR
open Option.some renaming inj->TU
open True renaming intro->TY
open Int renaming toNat_natCast->T8,emod_nonneg->U1,emod_lt_of_pos->U2,toNat->Wi,zero_add->W2,eq_ofNat_of_zero_le->Yz
open Sum.inr renaming inj->Ub
open PySem.F renaming plainAttrs_str->Uh,called_set->Vs,plainAttrs_list->Vy,slot_list_append->V1,type_list_append->V2,slot_str_split->Wl,type_str_split->Wm,slot_str_join->Wn,type_str_join->Wo,slot_tuple_iterator_next->XF,slot_enumerate_next->XI,slot_str_split->YY,entry_str_split->YZ,args_str_split_2->Y0,slot_int_rmul->Zq,excBase_ValueError->Zs,typeOf_object_class->Zv,attr_ValueError->Zx,plain_set_new->ZX,slot_set_iter->Z7,plain_list_iadd->se,entry_tuple_iterator_next->sH,args_tuple_iterator_next_1->sI,entry_enumerate_next->sM,args_enumerate_next_1->sN,slot_zip_next->sP
open Option renaming map_eq_some_iff->UE,map_some->Vk,isSome_iff_exists->Ye,getD_none->Yh
open PySem.PassesOwn renaming never->U3,leaving->XM
open PySem.NameKind renaming free->Vi
open PySem.SetTable renaming grown->Vq,below->YU,orStandIn->ZT,standIn->ZU
open List.cons renaming inj->Vx
open PySem.Heap.SameBut renaming update->VW
open List.Sublist renaming refl->Wj
open PySem.SeqAt renaming eqv_refl->Ws
open PySem.W.KasT renaming kasWp_bind->WQ
open List.Perm renaming refl->WR,swap->Xy,cons->Xz,of_eq->YL,eq_of_pairwise->ZI
open PySem.Around renaming under_plainId->WS,under->Ya
open PySem.Shared renaming TypeIs->WT,heap->Y1
open Iff renaming rfl->WV
open PySem.Builtin.Str renaming strKind->WZ,strSliceIndices->Xm,occurrences->X7
open PySem.Builtin.SmallTypes renaming nextOf->W0,ownedTupleIsFree->XH,ownedTupleHandOut->sL
open PySem.Builtin.List renaming listTooLong->Xi,listLengthHint->rZ,listExtendWith->sf,listSameRef->sh
open ForInStep renaming yield->Xp
open PySem.StrLaws renaming occBody->XD,join_split->YX,strSub_toList->sv
open PySem.Code renaming isFrame->Yb,quiet_builtin->Zu
open PyProof.Rows.F renaming plain_set_update_loop->YO,entry_set_update_loop->ZW
open PySem.pickOrder renaming go->YT
open PySem.SetTable.below renaming go->YV
open PySem.AutoSeq1 renaming wpAny_loadPart'->Y2
open And renaming intro->Y3
open PySem.SeqAt.EqAt renaming int_str->Y9,str_int->Za
open PySem.Calls renaming Name_function_global->Zc,evalArgs_plain->Zn,call_function_entry->ZO
open Classical renaming byContradiction->ZK
open PySem.Builtin.Frozenset renaming addrOf->Z0,sizeOf->Z8
open List.Pairwise renaming filter->sr
set_option Elab.async false
set_option linter.all false
set_option maxRecDepth 100000
set_option maxHeartbeats 4000000
namespace L2
theorem AA {n:Nat}(h:Nat.ble n Y6=true:=by rfl):n<=Y6:=Tp h
theorem Cp {α:Type}{d R:α->Prop}{G:Prop}(h:∃ a,d a/\R a)(q:∀ a,d a->R a->G):G:=by obtain ⟨a,g,r⟩:=h;exact q a g r
theorem Gg {α β:Type}{d R:α->β->Prop}{G:Prop}(h:∃ a b,d a b/\R a b)(q:∀ a b,d a b->R a b->G):G:=by obtain ⟨a,b,g,r⟩:=h;exact q a b g r
theorem Az {α β:Type}{d g R:α->β->Prop}{G:Prop}(h:∃ a b,d a b/\g a b/\R a b)(q:∀ a b,d a b->g a b->R a b->G):G:=by obtain ⟨a,b,p,B,r⟩:=h;exact q a b p B r
theorem Fz {α β:Type}{d g P3 R:α->β->Prop}{G:Prop}(h:∃ a b,d a b/\g a b/\P3 a b/\R a b)(q:∀ a b,d a b->g a b->P3 a b->R a b->G):G:=by obtain ⟨a,b,p,B,D,r⟩:=h;exact q a b p B D r
inductive Mr (P1 P2 R:Prop):Prop
 | mk (h1:P1) (h2:P2) (r:R):Mr P1 P2 R
inductive Ms {α:Type}(P1 R:α->Prop):Prop
 | mk (a) (h1:P1 a) (r:R a):Ms P1 R
inductive Mt {α:Type}(P1 P2 R:α->Prop):Prop
 | mk (a) (h1:P1 a) (h2:P2 a) (r:R a):Mt P1 P2 R
inductive Mu {α β:Type}(P1 R:α->β->Prop):Prop
 | mk (a b) (h1:P1 a b) (r:R a b):Mu P1 R
inductive Mv {α β:Type}(P1 P2 R:α->β->Prop):Prop
 | mk (a b) (h1:P1 a b) (h2:P2 a b) (r:R a b):Mv P1 P2 R
inductive Mw {α β:Type}(P1 P2 P3 P4 R:α->β->Prop):Prop
 | mk (a b) (h1:P1 a b) (h2:P2 a b) (h3:P3 a b) (h4:P4 a b) (r:R a b):Mw P1 P2 P3 P4 R
inductive Mx {α β γ:Type}(P1 R:α->β->γ->Prop):Prop
 | mk (a b c) (h1:P1 a b c) (r:R a b c):Mx P1 R
inductive My {α β γ:Type}(P1 P2 P3 P4 R:α->β->γ->Prop):Prop
 | mk (a b c) (h1:P1 a b c) (h2:P2 a b c) (h3:P3 a b c) (h4:P4 a b c) (r:R a b c):My P1 P2 P3 P4 R
inductive Mz {α β γ δ:Type}(P1 R:α->β->γ->δ->Prop):Prop
 | mk (a b c d) (h1:P1 a b c d) (r:R a b c d):Mz P1 R
inductive MA {α β γ δ:Type}(P1 P2 P3 P4 P5 R:α->β->γ->δ->Prop):Prop
 | mk (a b c d) (h1:P1 a b c d) (h2:P2 a b c d) (h3:P3 a b c d) (h4:P4 a b c d) (h5:P5 a b c d) (r:R a b c d):MA P1 P2 P3 P4 P5 R
inductive MB {α β γ δ ε:Type}(P1 R:α->β->γ->δ->ε->Prop):Prop
 | mk (a b c d e) (h1:P1 a b c d e) (r:R a b c d e):MB P1 R
inductive MC {α β γ δ ε:Type}(P1 P2 P3 P4 P5 R:α->β->γ->δ->ε->Prop):Prop
 | mk (a b c d e) (h1:P1 a b c d e) (h2:P2 a b c d e) (h3:P3 a b c d e) (h4:P4 a b c d e) (h5:P5 a b c d e) (r:R a b c d e):MC P1 P2 P3 P4 P5 R
inductive Q81 {α β γ δ ε ζ η θ:Type}(P1 R:α->β->γ->δ->ε->ζ->η->θ->Prop):Prop
 | mk (a b c d e f g h) (h1:P1 a b c d e f g h) (r:R a b c d e f g h):Q81 P1 R
inductive MD {α β γ δ ε ζ η θ ι:Type}(P1 R:α->β->γ->δ->ε->ζ->η->θ->ι->Prop):Prop
 | mk (a b c d e f g h i) (h1:P1 a b c d e f g h i) (r:R a b c d e f g h i):MD P1 R
theorem AJ {d g R:Prop}(h:d/\g/\R):Mr d g R:=by obtain ⟨p,B,r⟩:=h;exact ⟨p,B,r⟩
theorem Am {α:Type}{d R:α->Prop}(h:∃ a,d a/\R a):Ms d R:=by obtain ⟨a,g,r⟩:=h;exact ⟨a,g,r⟩
theorem Ax {α:Type}{d g R:α->Prop}(h:∃ a,d a/\g a/\R a):Mt d g R:=by obtain ⟨a,p,B,r⟩:=h;exact ⟨a,p,B,r⟩
theorem Bi {α β:Type}{d R:α->β->Prop}(h:∃ a b,d a b/\R a b):Mu d R:=by obtain ⟨a,b,g,r⟩:=h;exact ⟨a,b,g,r⟩
theorem Bc {α β:Type}{d g R:α->β->Prop}(h:∃ a b,d a b/\g a b/\R a b):Mv d g R:=by obtain ⟨a,b,p,B,r⟩:=h;exact ⟨a,b,p,B,r⟩
theorem FA {α β:Type}{d g P3 p R:α->β->Prop}(h:∃ a b,d a b/\g a b/\P3 a b/\p a b/\R a b):Mw d g P3 p R:=by obtain ⟨a,b,B,D,H,I,r⟩:=h;exact ⟨a,b,B,D,H,I,r⟩
theorem Cq {α β γ:Type}{d R:α->β->γ->Prop}(h:∃ a b c,d a b c/\R a b c):Mx d R:=by obtain ⟨a,b,c,g,r⟩:=h;exact ⟨a,b,c,g,r⟩
theorem Em {α β γ:Type}{d g P3 p R:α->β->γ->Prop}(h:∃ a b c,d a b c/\g a b c/\P3 a b c/\p a b c/\R a b c):My d g P3 p R:=by obtain ⟨a,b,c,B,D,H,I,r⟩:=h;exact ⟨a,b,c,B,D,H,I,r⟩
theorem Df {α β γ δ:Type}{g R:α->β->γ->δ->Prop}(h:∃ a b c d,g a b c d/\R a b c d):Mz g R:=by obtain ⟨a,b,c,d,p,r⟩:=h;exact ⟨a,b,c,d,p,r⟩
theorem ES {α β γ δ:Type}{g p P3 B D R:α->β->γ->δ->Prop}(h:∃ a b c d,g a b c d/\p a b c d/\P3 a b c d/\B a b c d/\D a b c d/\R a b c d):MA g p P3 B D R:=by obtain ⟨a,b,c,d,H,I,J,L,O,r⟩:=h;exact ⟨a,b,c,d,H,I,J,L,O,r⟩
theorem ME {α β γ δ ε:Type}{g R:α->β->γ->δ->ε->Prop}(h:∃ a b c d e,g a b c d e/\R a b c d e):MB g R:=by obtain ⟨a,b,c,d,e,p,r⟩:=h;exact ⟨a,b,c,d,e,p,r⟩
theorem Gh {α β γ δ ε:Type}{g p P3 B D R:α->β->γ->δ->ε->Prop}(h:∃ a b c d e,g a b c d e/\p a b c d e/\P3 a b c d e/\B a b c d e/\D a b c d e/\R a b c d e):MC g p P3 B D R:=by obtain ⟨a,b,c,d,e,H,I,J,L,O,r⟩:=h;exact ⟨a,b,c,d,e,H,I,J,L,O,r⟩
theorem JG {α β γ δ ε ζ η θ ι:Type}{p R:α->β->γ->δ->ε->ζ->η->θ->ι->Prop}(h:∃ a b c d e f g h i,p a b c d e f g h i/\R a b c d e f g h i):MD p R:=by obtain ⟨a,b,c,d,e,f,g,h,i,B,r⟩:=h;exact ⟨a,b,c,d,e,f,g,h,i,B,r⟩
end L2
namespace L2
open PySem PySem.Spec PyProof.Rows
abbrev Aq:=Sum Int Str
noncomputable def DE:Aq->Value->Bool
 | .inl k,v=>XU k v
 | .inr x,v=>W6 x v
noncomputable def MF (w:R3):Aq->Int
 | .inl k=>hashInt k
 | .inr x=>T3 w x
theorem DX:∀{k:Aq}{v:Value},DE k v=true->(∃ i t,k=VB i/\v=Tu i t)\/(∃ x t,k=SM x/\v=S2 x t)
 | .inl i,v,h=>by
  obtain ⟨t,e⟩:=Value.isInt_shape (k:=i) (v:=v) h;exact .inl ⟨i,t,rfl,e⟩
 | .inr x,v,h=>by
  obtain ⟨t,e⟩:=Y7 (x:=x) (v:=v) h;exact .inr ⟨x,t,rfl,e⟩
theorem Aaa (i:Int)(t:Tok):DE (.inl i) (.int i t)=true:=by simp [DE,XU]
theorem MI (x:Str)(t:Tok):DE (.inr x) (.str x t)=true:=by simp [DE,W6]
theorem Aab (a b:Int):decide ((VB a:Aq)=VB b)=(a == b):=by
 by_cases e:a=b
 .subst e;simp
 .have h:¬ (VB a:Aq)=VB b:=λq=>e (Sum.inl.inj q);rw [decide_eq_false h];exact (beq_eq_false_iff_ne.mpr e).symm
theorem Aac (a b:Str):decide ((SM a:Aq)=SM b)=decide (a=b):=by
 by_cases e:a=b
 .subst e;simp
 .have h:¬ (SM a:Aq)=SM b:=λq=>e (Ub q);rw [decide_eq_false h,decide_eq_false e]
theorem Aad (a:Int)(b:Str):decide ((VB a:Aq)=SM b)=false:=decide_eq_false (λq=>nomatch q)
theorem Aae (a:Str)(b:Int):decide ((SM a:Aq)=VB b)=false:=decide_eq_false (λq=>nomatch q)
noncomputable def Bp (prog:R7)(w:R3):PySem.KeyKind prog w Aq where
 is:=DE
 hash:=MF w
 inj:=λv a b ha hb=>by
  rcases DX ha with ⟨i,t,rfl,rfl⟩ | ⟨x,t,rfl,rfl⟩
  .rcases DX hb with ⟨j,u,rfl,e⟩ | ⟨y,u,rfl,e⟩
   .injection e with e1 _;rw [e1]
   .exact nomatch e
  .rcases DX hb with ⟨j,u,rfl,e⟩ | ⟨y,u,rfl,e⟩
   .exact nomatch e
   .injection e with e1 _;rw [e1]
 byValue:=λk v h=>by
  rcases DX h with ⟨i,t,rfl,rfl⟩ | ⟨x,t,rfl,rfl⟩<;>rfl
 pyHash:=λhv h=>by
  rcases DX hv with ⟨i,t,rfl,rfl⟩ | ⟨x,t,rfl,rfl⟩
  .exact wpAny_pyHash_int h
  .exact wpAny_pyHash_str h
 eqBool:=λhu hv h=>by
  rcases DX hu with ⟨i,t,rfl,rfl⟩ | ⟨x,t,rfl,rfl⟩
  .rcases DX hv with ⟨j,u,rfl,rfl⟩ | ⟨y,u,rfl,rfl⟩
   .rw [Aab] at h;exact Y8 h
   .rw [Aad] at h;exact Y9 i t y u _ _ _ _ h
  .rcases DX hv with ⟨j,u,rfl,rfl⟩ | ⟨y,u,rfl,rfl⟩
   .rw [Aae] at h;exact Za x t j u _ _ _ _ h
   .rw [Aac] at h;exact wpAny_eqBool_str h
 «strs»:=λk x t v h=>by
  rcases DX h with ⟨i,u,rfl,e⟩ | ⟨y,u,rfl,e⟩
  .exact nomatch e
  .injection e with e1 _;subst e1;cases v<;>rfl
theorem Aaf (prog:R7)(w:R3)(k:Aq)(v:Value):(Bp prog w).is k v=DE k v:=rfl
theorem Aag (prog:R7)(w:R3)(i:Int)(t:Tok):(Bp prog w).is (.inl i) (.int i t)=true:=Aaa i t
theorem FC (prog:R7)(w:R3)(x:Str)(t:Tok):(Bp prog w).is (.inr x) (.str x t)=true:=MI x t
inductive V where
 | ae | bl (b:Bool) | int (i:Int) | str (x:Str) | bR (b:Array UInt8) | eP (b:UInt64) | ref (a:Addr) | ty (n:String)
 deriving DecidableEq
def AB:V->Value->Prop
 | .ae,u=>u=SW
 | .bl b,u=>u=Wt b
 | .int i,u=>∃ t,u=Tu i t
 | .str x,u=>∃ t,u=S2 x t
 | .bR b,u=>∃ t,u=Value.bytes b t
 | .eP b,u=>∃ t,u=XW b t
 | .ref a,u=>u=Sg a
 | .ty n,u=>u=UG n
abbrev Ar:List V->List Value->Prop:=Paired AB
theorem Ar.length {xs:List V}{us:List Value}(r:Ar xs us):xs.length=us.length:=Paired.length r
theorem Ar.get:∀{xs:List V}{us:List Value}{i:Nat}{x:V},Ar xs us->xs[i]?=some x->∃ u,us[i]?=some u/\AB x u
 | _,_,_,_,.nil,e=>by simp at e
 | _,_,0,_,.cons r _,e=>by simp at e;subst e;exact ⟨_,rfl,r⟩
 | _,_,i+1,x,.cons _ t,e=>by
  obtain ⟨u,d,g⟩:=Am (Ar.get (i:=i) (x:=x) t (by simpa using e));exact ⟨u,by simpa using d,g⟩
theorem Ar.append:∀{xs ys:List V}{us ws:List Value},Ar xs us->Ar ys ws->Ar (xs++ys) (us++ws)
 | _,_,_,_,.nil,s=>s
 | _,_,_,_,.cons r t,s=>.cons r (Ar.append t s)
theorem Ar.take:∀{xs:List V}{us:List Value}(n:Nat),Ar xs us->Ar (xs.take n) (us.take n)
 | _,_,0,_=>.nil
 | _,_,_+1,.nil=>.nil
 | _,_,n+1,.cons r t=>.cons r (Ar.take n t)
theorem Ar.drop:∀{xs:List V}{us:List Value}(n:Nat),Ar xs us->Ar (xs.drop n) (us.drop n)
 | _,_,0,r=>r
 | _,_,_+1,.nil=>.nil
 | _,_,n+1,.cons _ t=>Ar.drop n t
def CJ:Option V->Option Value->Prop
 | some v,some u=>AB v u
 | none,none=>True
 | _,_=>False
def KV {κ:Type}:List (κ×V)->List (κ×Value)->Prop:=Paired λ(p:κ×V) (q:κ×Value)=>p.1=q.1/\AB p.2 q.2
noncomputable def kV:Aq->V
 | .inl i=>.int i
 | .inr x=>.str x
inductive HO where
 | lst (xs:List V)
 | tup (xs:List V)
 | dK (kvs:List (Aq×V)) | dT (kvs:List (List Aq×V))
 | set (S:Int->Bool) (n:Nat)
 | ins (C dx:Addr) (fs:List (Str×V))
 | own (x:Addr)
 | xd (fs:List (Str×V))
 | met (f x:Addr)
 | fJ (lo hi:Int)
 | bF (o:Obj) (u:HO)
 | dW (ps:Array Value)
 | ext (φ:Heap->Prop)
abbrev Hp:=Addr->Option HO
noncomputable def upd (H:Hp)(a:Addr)(o:HO):Hp:=λb=>if b=a then some o else H b
theorem Ah {H:Hp}{a:Addr}{o:HO}:upd H a o a=some o:=by unfold upd;rw [if_pos rfl]
theorem Ak {H:Hp}{a b:Addr}{o:HO}(h:b≠a):upd H a o b=H b:=by unfold upd;rw [if_neg h]
theorem Gi {H:Hp}{a:Addr}{o u:HO}:upd (upd H a o) a u=upd H a u:=by funext b;unfold upd;split<;>rfl
theorem Hu {H:Hp}{a b:Addr}{o u:HO}(h:H a=some o)(h':H b=some u)(d:o≠u):a≠b:=by intro e;subst e;rw [h] at h';exact d (TU h')
theorem Be {H:Hp}{a b:Addr}{o:HO}(h:H a=some o)(h':H b=none):a≠b:=by intro e;subst e;rw [h] at h';cases h'
section
variable (P:R7)(w:R3)
def A4 (H:Hp)(h:Heap)(a:Addr):HO->Prop
 | .lst xs=>xs.length<=sizeLine/\∃(its:List Value)(n:Nat),Ar xs its/\h.get? a=some { cls:=.type "list",data:=.seq its.toArray n }
 | .tup xs=>xs.length<=sizeLine/\∃ its:List Value,Ar xs its/\IsTup h a its.toArray
 | .dK kvs=>kvs.length<=sizeLine/\(a == Tv)=false/\∃ vs,KV kvs vs/\h.DictOf (Bp P w) a vs
 | .dT kvs=>kvs.length<=sizeLine/\(a == Tv)=false/\∃ xs:List (List Aq×Addr×Value),
   Paired (λ(p:List Aq×V) (q:List Aq×Addr×Value)=>p.1=q.1/\H q.2.1=some (.tup (p.1.map kV))/\AB p.2 q.2.2) kvs xs /\
   ∃ o es ep,h.get? a=some o/\o.ExactDict/\o.data=.dict es ep/\es.toList=xs.map (entryOfKey (Wu (Bp P w)))/\(xs.map (·.1)).Nodup
 | .set S n=>h.SetOf (intKind P w) a S n
 | .ins C dx fs=>H dx=some (.own a)/\fs.length<=1000/\dx≠a/\h.get? a=some (U5 C dx) /\
   ∃ mA,h.Ns1 dx mA/\(∀ f,CJ (fs.lookup f) (mA f))/\XX mA (fs.map (·.1))
 | .own _=>∃ o,h.get? a=some o
 | .xd fs=>∃ mA,h.Ns1 a mA/\∀ f,CJ (fs.lookup f) (mA f)
 | .fJ lo hi=>∃ t u v,h.get? a=some { cls:=.type "range",data:=.fields #[.int lo t,.int hi u,.int 1 v] }
 | .bF o u=>h.get? a=some o/\A4 H h a u
 | .dW ps=>h.get? a=some { cls:=.none,data:=.fields ps }
 | .met f x=>h.get? a=some (XY (.ref f) (.ref x))
 | .ext φ=>φ h/\(∃ o,h.get? a=some o)/\∀ h1 h2:Heap,φ h1->(∀ o,h1.get? a=some o->h2.get? a=some o)->φ h2
def AY (H:Hp)(h:Heap):Prop:=∀ a o,H a=some o->A4 P w H h a o
end
section
variable {P:R7}{w:R3}{H H':Hp}{h h':Heap}{a:Addr}{o:HO}
theorem A4.lt (x:A4 P w H h a o):a<h.objs.size:=by
 cases o with
 | lst g=>obtain ⟨_,_,_,_,e⟩:=x;exact So e
 | tup g=>obtain ⟨_,_,_,p⟩:=x;exact p.lt
 | dK d=>obtain ⟨_,_,_,_,o,_,_,e,_⟩:=AJ x;exact So e
 | dT d=>obtain ⟨_,_,_,_,o,_,_,e,_⟩:=AJ x;exact So e
 | set S n=>obtain ⟨o,_,_,_,e,_⟩:=Df x;exact So e
 | ins C B fs=>obtain ⟨_,_,_,e,_⟩:=AJ x;exact So e
 | own y=>obtain ⟨_,e⟩:=x;exact So e
 | xd fs=>obtain ⟨_,⟨_,_,_,e,_⟩,_⟩:=Am x;exact So e
 | fJ lo D=>obtain ⟨_,_,_,e⟩:=x;exact So e
 | bF I u=>obtain ⟨e,_⟩:=x;exact So e
 | dW ps=>exact So (show h.get? a=some _ from x)
 | met f y=>exact So (show h.get? a=some _ from x)
 | ext φ=>obtain ⟨_,⟨_,e⟩,_⟩:=AJ x;exact So e
theorem Paired.jL {α β:Type}{F G:α->β->Prop}:∀{d:List α}{g:List β},Paired F d g->(∀ a b,F a b->G a b)->Paired G d g
 | _,_,.nil,_=>.nil
 | _,_,.cons r t,f=>.cons (f _ _ r) (Paired.jL t f)
theorem A4.cU (x:A4 P w H h a o)(k:∀ b u,(b=a\/H b=some (.own a))->h.get? b=some u->h'.get? b=some u)(O:∀ b,H b=some (.own a)->H' b=some (.own a))(V:∀ b xs,H b=some (.tup xs)->H' b=some (.tup xs)):A4 P w H' h' a o:=by
 induction o with
 | lst xs=>obtain ⟨z,its,n,r,e⟩:=x;exact ⟨z,its,n,r,k _ _ (.inl rfl) e⟩
 | tup xs=>obtain ⟨z,its,r,g,e,c⟩:=x;exact ⟨z,its,r,g,k _ _ (.inl rfl) e,c⟩
 | dK I=>obtain ⟨z,y,vs,r,g,B,D,e,c⟩:=AJ x;exact ⟨z,y,vs,r,g,B,D,k _ _ (.inl rfl) e,c⟩
 | dT I =>
  obtain ⟨z,y,xs,r,g,B,D,e,c⟩:=AJ x;exact ⟨z,y,xs,Paired.jL r λp q z=>⟨z.1,V _ _ z.2.1,z.2.2⟩,g,B,D,k _ _ (.inl rfl) e,c⟩
 | set S n=>obtain ⟨g,B,D,t,e,c⟩:=Df x;exact ⟨g,B,D,t,k _ _ (.inl rfl) e,c⟩
 | ins C dx fs =>
  obtain ⟨d,z,ne,e,J,⟨L,B,D,Y,c⟩,r⟩:=AJ x;exact ⟨O _ d,z,ne,k _ _ (.inl rfl) e,J,⟨L,B,D,k _ _ (.inr d) Y,c⟩,r⟩
 | own y=>obtain ⟨g,e⟩:=x;exact ⟨g,k _ _ (.inl rfl) e⟩
 | xd fs=>obtain ⟨J,⟨L,B,D,e,c⟩,r⟩:=Am x;exact ⟨J,⟨L,B,D,k _ _ (.inl rfl) e,c⟩,r⟩
 | fJ lo hi=>obtain ⟨t,u,v,e⟩:=x;exact ⟨t,u,v,k _ _ (.inl rfl) e⟩
 | bF g u ih=>obtain ⟨e,q⟩:=x;exact ⟨k _ _ (.inl rfl) e,ih q⟩
 | dW ps =>
  have e:h.get? a=some { cls:=.none,data:=.fields ps }:=x;show h'.get? a=some { cls:=.none,data:=.fields ps };exact k a _ (.inl rfl) e
 | met f y =>
  have e:h.get? a=some (XY (.ref f) (.ref y)):=x;show h'.get? a=some (XY (.ref f) (.ref y));exact k a _ (.inl rfl) e
 | ext φ=>obtain ⟨p,⟨o,e⟩,st⟩:=AJ x;exact ⟨st _ _ p λo q=>k _ _ (.inl rfl) q,⟨o,k _ _ (.inl rfl) e⟩,st⟩
theorem AY.lt (x:AY P w H h)(e:H a=some o):a<h.objs.size:=(x a o e).lt
theorem AY.fresh (x:AY P w H h)(e:h.objs.size<=a):H a=none:=by
 cases q:H a with
 | none=>rfl
 | some u=>exact absurd (SN (x.lt q) e) (TK _)
theorem AY.kept (x:AY P w H h)(k:∀ b u,h.get? b=some u->h'.get? b=some u):AY P w H h':=λa o e =>
 (x a o e).cU (λb u _ q=>k b u q) (λ_ q=>q) λ_ _ q=>q
theorem AY.laid (x:AY P w H h)(k:∀ b u,h.get? b=some u->h'.get? b=some u)(hp:h.objs.size<=a)(new:A4 P w (upd H a o) h' a o):AY P w (upd H a o) h':=λb u e=>by
 have hn:=x.fresh hp;by_cases hb:b=a
 .subst hb;rw [Ah] at e;cases e;exact new
 .rw [Ak hb] at e;exact (x b u e).cU (λc v _ q=>k c v q) (λc q=>by rw [Ak (Be q hn)];exact q) λc d q=>by rw [Ak (Be q hn)];exact q
end
def Rd (H:Hp)(a:Addr)(u:HO):Prop:=H a=some u\/∃ o,H a=some (.bF o u)
theorem Rd.ok {P:R7}{w:R3}{H:Hp}{h:Heap}{a:Addr}{u:HO}(r:Rd H a u)(x:AY P w H h):A4 P w H h a u:=by
 rcases r with r | ⟨o,r⟩
 .exact x a u r
 .obtain ⟨_,q⟩:=x a _ r;exact q
def Gj:Option HO->Prop
 | some (.lst _)=>True
 | some (.dK _)=>True
 | some (.dT _)=>True
 | some (.set _ _)=>True
 | some (.ins _ _ _)=>True
 | some (.ext _)=>True
 | _=>False
section
variable {P:R7}{w:R3}{H:Hp}{h h':Heap}{x e:Addr}{o':HO}
theorem AY.write (ok:AY P w H h)(d:Gj (H x))(D:e=x\/H e=some (.own x))(k:∀ b u,b≠e->h.get? b=some u->h'.get? b=some u)(L:∃ u,h'.get? e=some u)(new:A4 P w (upd H x o') h' x o'):AY P w (upd H x o') h':=λb u q=>by
 have I:∀ c y,H c=some (.own y)->c≠x:=λc y r z=>by subst z;rw [r] at d;exact d
 have B:∀ c g,H c=some (.tup g)->c≠x:=λc g r z=>by subst z;rw [r] at d;exact d
 by_cases hb:b=x
 .subst hb;rw [Ah] at q;cases q;exact new
 .rw [Ak hb] at q;by_cases p:b=e
  .have J:H b=some (.own x):=by
    rcases D with z | z
    .exact absurd (p.trans z) hb
    .rw [p];exact z
   rw [q] at J;cases J;obtain ⟨v,O⟩:=L;exact ⟨v,by rw [p];exact O⟩
  .refine (ok b u q).cU (λc v hc r=>k c v ?_ r) (λc r=>by rw [Ak (I c b r)];exact r) λc g r=>by rw [Ak (B c g r)];exact r
   rcases hc with rfl | hc
   .exact p
   .rintro rfl;rcases D with z | z
    .exact I c b hc z
    .rw [hc] at z;cases z;exact hb rfl
end
structure Un (fs ex:List Addr)(H H':Hp)(h h':Heap):Prop where
 keep:∀ b o,h.get? b=some o->H b=none->b ∉ fs->b ∉ ex->h'.get? b=some o
 slot:∀ b o,h.get? b=some o->H b=none->b∈fs->b ∉ ex->∃ sl,h'.get? b=some { o with slots:=sl }
 free:∀ b o,h.get? b=some o->H b=none->b ∉ ex->H' b=none
 there:∀ b o,h.get? b=some o->b ∉ ex->∃ o',h'.get? b=some o'
 aQ:∀ b xs,H b=some (.tup xs)->H' b=some (.tup xs)
 cm:∀ b o u,H b=some (.bF o u)->H' b=some (.bF o u)
 cA:∀ b ps,H b=some (.dW ps)->∃ more,H' b=some (.dW (ps++more))
section
variable {fs fs' ex ex':List Addr}{H H1 H2:Hp}{h h1 h2 h':Heap}{a x e:Addr}{o:HO}
theorem Un.any (u:Un fs ex H H1 h h1){b:Addr}{d:Obj}(q:h.get? b=some d)(n:H b=none)(hx:b ∉ ex):∃ g,h1.get? b=some { d with slots:=g }:=by
 by_cases hb:b∈fs
 .exact u.slot b d q n hb hx
 .exact ⟨d.slots,u.keep b d q n hb hx⟩
theorem Un.kept (k:∀ b u,h.get? b=some u->h'.get? b=some u):Un fs ex H H h h' :=
 ⟨λb d q _ _ _=>k b d q,λb d q _ _ _=>⟨d.slots,k b d q⟩,λ_ _ _ n _=>n,λb d q _=>⟨d,k b d q⟩,λ_ _ q=>q,λ_ _ _ q=>q,λ_ ps q=>⟨#[],by rw [q];simp⟩⟩
theorem Un.refl:Un fs ex H H h h:=Un.kept λ_ _ q=>q
theorem Un.laid (k:∀ b u,h.get? b=some u->h'.get? b=some u)(hp:h.objs.size<=a)(hn:H a=none):Un fs ex H (upd H a o) h h' where
 keep:=λb u q _ _ _=>k b u q
 slot:=λb u q _ _ _=>⟨u.slots,k b u q⟩
 free:=λb u q n _=>by rw [Ak (Sw (SN (So q) hp))];exact n
 there:=λb u q _=>⟨u,k b u q⟩
 aQ:=λb d q=>by rw [Ak (Be q hn)];exact q
 cm:=λb u d q=>by rw [Ak (Be q hn)];exact q
 cA:=λb ps q=>⟨#[],by rw [Ak (Be q hn),q];simp⟩
theorem Un.write (d:Gj (H x))(B:e=x\/H e=some (.own x))(k:∀ b u,b≠e->h.get? b=some u->h'.get? b=some u)(D:∃ u,h'.get? e=some u):Un fs ex H (upd H x o) h h':=by
 have hx:∀ b,H b=none->b≠x:=λb n z=>by subst z;rw [n] at d;exact d
 have hb:∀ b,H b=none->b≠e:=λb n z=>by
  subst z;rcases B with r | r
  .exact hx b n r
  .rw [n] at r;cases r
 have g:∀ b u,H b=some u->¬ Gj (some u)->b≠x:=λb u q I z=>by subst z;rw [q] at d;exact I d
 refine ⟨λb u q n _ _=>k b u (hb b n) q,λb u q n _ _=>⟨u.slots,k b u (hb b n) q⟩,λb u q n _=>by rw [Ak (hx b n)];exact n,λb u q _=>?_,
  λb J q=>by rw [Ak (g b _ q λz=>z)];exact q,λb u J q=>by rw [Ak (g b _ q λz=>z)];exact q,λb ps q=>⟨#[],by rw [Ak (g b _ q λz=>z),q];simp⟩⟩
 by_cases p:b=e
 .subst p;exact D
 .exact ⟨u,k b u p q⟩
end
noncomputable def Hv (h:Heap)(H:Hp):List Addr:=(Uk h.objs.size).filter λa=>(H a).isSome
def DY (h:Heap)(H:Hp):Heap:=W7 h (Hv h H)
theorem Aah (h:Heap)(H:Hp):(DY h H).objs.size=h.objs.size:=PySem.W.hideAll_size _ _
theorem Aai {h:Heap}{H:Hp}{b:Addr}{o:Obj}(e:h.get? b=some o)(n:H b=none):(DY h H).get? b=some o :=
 Wv _ e λd=>by
  have q:(H b).isSome=true:=(Ul.mp d).2;rw [n] at q;simp at q
theorem Aaj {h:Heap}{H:Hp}{b:Addr}{o:Obj}(e:(DY h H).get? b=some o):h.get? b=some o/\H b=none:=by
 have d:h.get? b=some o:=Zb (Hv h H) e;refine ⟨d,?_⟩;cases q:H b with
 | none=>rfl
 | some x =>
  have g:b∈Hv h H:=Ul.mpr ⟨Uv.mpr (So d),by simp [q]⟩;have z:(DY h H).get? b=none:=PySem.W.hideAll_none (Hv h H) g;rw [z] at e;cases e
structure Mod (K:R0)(mg:Str->Option Value)(base:Heap):Prop where
 bS:K.In base
 glob:base.Ns Sl mg
 blt:∃ mb,base.Ns XZ mb/\∀ x:Str,x≠"__name__"->mb x=Ta x
 nolimit:base.NoLimit
structure Cx where
 prog:R7
 w:R3
 K:R0
 mg:Str->Option Value
 base:Heap
 A:Sj
 N:List Str
 s₀:RY
 H₀:Hp
 env:Env
 outer:List Env
 stack:List Env
 ex:List Addr
 fn:Str->Bool
 calm:Bool
 pn:List (Addr×Obj)
 xe:Value->RY->Prop
noncomputable def Cg (l:List Env):List Addr:=l.filterMap (·.frame)
abbrev Cx.fs (X:Cx):List Addr:=Cg X.outer
def FD (sc:Scope)(x:Str):Prop:=sc.names.lookup x=some .local\/sc.names.lookup x=some .cell\/sc.names.lookup x=some .free
def FE (sc:Scope)(x:Str):Prop:=sc.names.lookup x=some .local\/sc.names.lookup x=some .cell
def MJ (env:Env)(h:Heap)(m:Str->Option Value)(x:Str)(u:Value):Prop :=
 (env.kindOf x=some .local/\m x=some u)\/((env.kindOf x=some .cell\/env.kindOf x=some .free)/\∃ c,env.cells.lookup x=some c/\h.IsCell c (some u))
structure Cx.Ok (X:Cx):Prop where
 mod:Mod X.K X.mg X.base
 kind:X.env.scope.kind=.function
 glob:X.env.globals=Sl
 blt:X.env.builtins=XZ
 above:X.s₀.heap.objs.size<=X.env.locals
 inj:∀ x y c,X.env.cells.lookup x=some c->X.env.cells.lookup y=some c->x=y
 has:∀ x,(X.env.kindOf x=some .cell\/X.env.kindOf x=some .free)->∃ c,X.env.cells.lookup x=some c
 cV:∀ x c,X.fn x=true->X.env.cells.lookup x=some c->X.s₀.heap.objs.size<=c
 hd:X.calm=true->X.A.handled=none
 frames:X.A.frames=some X.stack
 dv:X.stack=X.outer\/(X.stack=X.env :: X.outer/\X.env.frame=some X.env.locals)
 cW:∀ b∈X.ex,b≠X.env.locals/\∀ x c,X.env.cells.lookup x=some c->c≠b
 bs:∀ b o,X.base.get? b=some o->X.s₀.heap.get? b=some o/\X.H₀ b=none
 bY:X.base.objs.size<=X.s₀.heap.objs.size
 cX:∀ b o,X.base.get? b=some o->b ∉ X.ex
 cq:∀ b∈X.ex,b ∉ X.fs
 bq:X.s₀.heap.FunFrames X.base X.outer
 cu:∀ b∈X.fs,X.H₀ b=none
structure Ad (X:Cx)(pins:List (Addr×Obj))(σ:List (Option V))(H:Hp)(s:RY):Prop where
 ok:X.Ok
 os:s.os=X.s₀.os
 bare:Uw s.gens
 base:Un X.fs X.ex X.H₀ H X.s₀.heap s.heap
 loc:∃ m,s.heap.Ns X.env.locals m/\∀(i:Nat)(x:Str)(v:V),X.N[i]?=some x->σ[i]?=some (some v)->FD X.env.scope x->∃ u,AB v u/\MJ X.env s.heap m x u
 cell:∀ x c,X.env.cells.lookup x=some c->∃ v,s.heap.IsCell c v
 free:H X.env.locals=none
 br:∀ x c,X.env.cells.lookup x=some c->H c=none
 pin:∀ p∈X.pn++pins,s.heap.get? p.1=some p.2/\H p.1=none/\p.1≠X.env.locals/\p.1 ∉ X.fs/\∀ v,p.2.data≠.cell v
 aa:AY X.prog X.w H s.heap
 len:σ.length=X.N.length
section
variable {X:Cx}{pins:List (Addr×Obj)}{σ:List (Option V)}{H H':Hp}{s:RY}{h':Heap}
theorem Cx.Ok.aab (ok:X.Ok){b:Addr}{o:Obj}(e:X.base.get? b=some o):b ∉ X.fs:=λhb=>by
 have:=(ok.bq.mem hb).1;rw [e] at this;cases this
theorem Ad.bs (I:Ad X pins σ H s):∀ b o,X.base.get? b=some o->s.heap.get? b=some o/\H b=none:=λb o e =>
 ⟨I.base.keep b o (I.ok.bs b o e).1 (I.ok.bs b o e).2 (I.ok.aab e) (I.ok.cX b o e),I.base.free b o (I.ok.bs b o e).1 (I.ok.bs b o e).2 (I.ok.cX b o e)⟩
theorem Ad.bk (I:Ad X pins σ H s):∀ b o,X.base.get? b=some o->s.heap.get? b=some o:=λb o e=>(I.bs b o e).1
theorem Ad.mod (I:Ad X pins σ H s):Mod X.K X.mg X.base:=I.ok.mod
theorem Ad.aw (I:Ad X pins σ H s):X.K.In s.heap:=I.ok.mod.bS.keeps I.bk
theorem Ad.lt (I:Ad X pins σ H s):X.env.locals<s.heap.objs.size:=let ⟨_,hn,_⟩:=I.loc;hn.lt
theorem Ad.sz (I:Ad X pins σ H s):X.s₀.heap.objs.size<=s.heap.objs.size:=Sy I.ok.above (X0 I.lt)
theorem Ad.aac (I:Ad X pins σ H s){a:Addr}(h:s.heap.objs.size<=a):a ∉ X.fs:=λhb=>by
 obtain ⟨_,o,d,_⟩:=I.ok.bq.mem hb;exact absurd (SN (So d) (Sy I.sz h)) (TK _)
theorem Ad.dw (I:Ad X pins σ H s):∀ x c,X.env.cells.lookup x=some c->c≠X.env.locals:=λx c e z=>by
 obtain ⟨v,o,d,hd⟩:=Bi (I.cell x c e);obtain ⟨m,⟨B,D,J,g,p,_⟩,_⟩:=Am I.loc;rw [z,g] at d;cases d;rw [p] at hd;cases hd
theorem Ad.bq (I:Ad X pins σ H s):s.heap.FunFrames X.base X.outer:=by
 have all:∀(l:List Env),(∀ b∈Cg l,b∈X.fs)->X.s₀.heap.FunFrames X.base l->s.heap.FunFrames X.base l:=by
  intro l;induction l with
  | nil=>intro _ _;trivial
  | cons env r ih =>
   intro p B;obtain ⟨hk,⟨L,o,d,hn,D,hd⟩,J⟩:=AJ B;have g:L∈X.fs:=p L (by unfold Cg;rw [X1,d];exact SS);obtain ⟨O,e⟩:=I.base.slot L o D (I.ok.cu L g) g λz=>I.ok.cq L z g;exact ⟨hk,⟨L,_,d,hn,e,hd⟩,ih (λb hb=>p b (by unfold Cg;rw [X1,d];exact SI _ hb)) J⟩
 exact all X.outer (λ_ hb=>hb) I.ok.bq
theorem Ad.stack (I:Ad X pins σ H s):s.heap.FunFrames X.base X.stack:=by
 rcases I.ok.dv with e | ⟨e,d⟩
 .rw [e];exact I.bq
 .rw [e];obtain ⟨m,hn,_⟩:=Am I.loc;refine .cons (by rw [I.ok.kind];decide) d hn ?_ I.bq;exact Heap.get?_none_of_le (Sy I.ok.bY I.ok.above)
theorem Ad.cC (I:Ad X pins σ H s):∀ b∈Cg X.stack,b∈X.env.locals :: X.fs:=λb hb=>by
 rcases I.ok.dv with e | ⟨e,d⟩
 .rw [e] at hb;exact SI _ hb
 .rw [e] at hb;unfold Cg at hb;rw [X1,d] at hb;exact hb
theorem Ad.jM (I:Ad X pins σ H s):∀ b∈Cg X.stack,H b=none:=λb hb=>by
 rcases Si.mp (I.cC b hb) with e | hb
 .rw [e];exact I.free
 .obtain ⟨_,o,d,_⟩:=I.ok.bq.mem hb;exact I.base.free b o d (I.ok.cu b hb) λz=>I.ok.cq b z hb
theorem Ad.step {g':Array Ww}{t':Nat}{d':Drawn}{ch:List Addr}(I:Ad X pins σ H s)(J:∀ b∈ch,(b∈X.ex\/X.s₀.heap.objs.size<=b)/\b≠X.env.locals/\(∀ x c,X.env.cells.lookup x=some c->c≠b)/\∀ p∈X.pn++pins,p.1≠b)(keep:∀ b o,b≠X.env.locals->b ∉ X.fs->b ∉ ch->s.heap.get? b=some o->H b=none->h'.get? b=some o)(slot:∀ b o,b≠X.env.locals->b∈X.fs->b ∉ ch->s.heap.get? b=some o->H b=none->∃ sl,h'.get? b=some { o with slots:=sl })(free:∀ b o,b ∉ ch->s.heap.get? b=some o->H b=none->H' b=none)(there:∀ b o,b ∉ ch->s.heap.get? b=some o->∃ o',h'.get? b=some o')(aQ:∀ b xs,H b=some (.tup xs)->H' b=some (.tup xs))(cm:∀ b o u,H b=some (.bF o u)->H' b=some (.bF o u))(cA:∀ b ps,H b=some (.dW ps)->∃ more,H' b=some (.dW (ps++more)))(ns:∀ m,s.heap.Ns X.env.locals m->h'.Ns X.env.locals m)(aa:AY X.prog X.w H' h')(hg:Uw g') :
  Ad X pins σ H' { s with heap:=h',gens:=g',drawn:=d',toks:=t' }:=by
 have cD:∀ b o,X.s₀.heap.get? b=some o->b≠X.env.locals:=λb o e=>Sw (SN (So e) I.ok.above);have Y:∀ b o,X.s₀.heap.get? b=some o->b ∉ X.ex->b ∉ ch:=λb o e hx hb=>by
  rcases (J b hb).1 with z | z
  .exact hx z
  .exact absurd (SN (So e) z) (TK _)
 have g:∀ x c,X.env.cells.lookup x=some c->∀ v,s.heap.IsCell c v->h'.IsCell c v:=λx c e v zz=>Cp zz λo D hd=>by
  have L:c ∉ ch:=λz=>(J c z).2.2.1 x c e rfl;by_cases hc:c∈X.fs
  .obtain ⟨sl,q⟩:=slot c o (I.dw x c e) hc L D (I.br x c e);exact ⟨_,q,hd⟩
  .exact ⟨o,keep c o (I.dw x c e) hc L D (I.br x c e),hd⟩
 refine ⟨I.ok,I.os,hg,⟨λb o e n hb hx=>?_,λb o e n hb hx=>?_,λb o e n hx=>?_,λb o e hx=>?_,λb xs e=>aQ b xs (I.base.aQ b xs e),λb o xs e=>cm b o xs (I.base.cm b o xs e),λb ps e=>?_⟩,?_,λx c e=>?_,?_,λx c e=>?_,λp hp=>?_,aa,I.len⟩
 .exact keep b o (cD b o e) hb (Y b o e hx) (I.base.keep b o e n hb hx) (I.base.free b o e n hx)
 .obtain ⟨sl,B⟩:=I.base.slot b o e n hb hx;obtain ⟨fL,O⟩:=slot b _ (cD b o e) hb (Y b o e hx) B (I.base.free b o e n hx);exact ⟨fL,O⟩
 .obtain ⟨o',B⟩:=I.base.there b o e hx;exact free b o' (Y b o e hx) B (I.base.free b o e n hx)
 .obtain ⟨o',B⟩:=I.base.there b o e hx;exact there b o' (Y b o e hx) B
 .obtain ⟨m1,B⟩:=I.base.cA b ps e;obtain ⟨m2,O⟩:=cA b _ B;exact ⟨m1++m2,by rw [O,Array.append_assoc]⟩
 .obtain ⟨m,hn,hl⟩:=Am I.loc;refine ⟨m,ns m hn,λi x v B O e3=>?_⟩;obtain ⟨u,r,l⟩:=Am (hl i x v B O e3);refine ⟨u,r,?_⟩;rcases l with l | ⟨k,c,e,z⟩
  .exact .inl l
  .exact .inr ⟨k,c,e,g x c e _ z⟩
 .obtain ⟨v,z⟩:=I.cell x c e;exact ⟨v,g x c e v z⟩
 .obtain ⟨m,⟨o,_,_,D,_⟩,_⟩:=Am I.loc;exact free _ o (λz=>(J _ z).2.1 rfl) D I.free
 .obtain ⟨v,o,D,hd⟩:=Bi (I.cell x c e);exact free c o (λz=>(J c z).2.2.1 x c e rfl) D (I.br x c e)
 .obtain ⟨e,n,ne,nf,d⟩:=AJ (I.pin p hp);have L:p.1 ∉ ch:=λz=>(J p.1 z).2.2.2 p hp rfl;exact ⟨keep p.1 p.2 ne nf L e n,free p.1 p.2 L e n,ne,nf,d⟩
theorem Ad.un {t':Nat}(I:Ad X pins σ H s)(u:Un X.fs [] H H' s.heap h')(B:AY X.prog X.w H' h'):Ad X pins σ H' { s with heap:=h',toks:=t' }:=by
 obtain ⟨m,⟨o,Y,ep,g,r⟩,_⟩:=Am (id I.loc);obtain ⟨sl,D⟩:=u.any g I.free (by simp);exact I.step (g':=s.gens) (d':=s.drawn) (ch:=[]) (λ_ z=>nomatch z) (λb o _ hb _ e n=>u.keep b o e n hb (by simp)) (λb o _ hb _ e n=>u.slot b o e n hb (by simp)) (λb o _ e n=>u.free b o e n (by simp)) (λb o _ e=>u.there b o e (by simp)) u.aQ u.cm u.cA (λm' J=>by
  obtain ⟨o',d,L,p,O⟩:=Cq J;rw [g] at p;cases p;exact ⟨_,d,L,D,O⟩) B I.bare
theorem Ad.call {g':Array Ww}{t':Nat}{d':Drawn}{ch:List Addr}(I:Ad X pins σ H s)(u:Un (Cg X.stack) ch H H' s.heap h')(L:AY X.prog X.w H' h')(O:Uw g')(B:∀ b∈ch,(b∈X.ex\/X.s₀.heap.objs.size<=b)/\b≠X.env.locals/\(∀ x c,X.env.cells.lookup x=some c->c≠b)/\∀ p∈X.pn++pins,p.1≠b) :
  Ad X pins σ H' { s with heap:=h',gens:=g',drawn:=d',toks:=t' }:=by
 obtain ⟨m,⟨o,es,ep,D,r⟩,_⟩:=Am (id I.loc);obtain ⟨sl,d⟩:=u.any D I.free λz=>(B _ z).2.1 rfl;exact I.step (ch:=ch) B (λb o d hb hc e n=>u.keep b o e n (λz=>(Si.mp (I.cC b z)).elim d hb) hc) (λb o _ _ hc e n=>u.any e n hc) (λb o hc e n=>u.free b o e n hc) (λb o hc e=>u.there b o e hc) u.aQ u.cm u.cA (λm' Y=>by
  obtain ⟨o',g,jN,J,r'⟩:=Cq Y;rw [D] at J;cases J;exact ⟨_,g,jN,d,r'⟩) L O
theorem Ad.turned {t':Nat}{it:Addr}(I:Ad X pins σ H s)(k:∀ b o,b≠it->s.heap.get? b=some o->h'.get? b=some o)(hn:H it=none)(d:it≠X.env.locals)(B:it∈X.ex\/X.s₀.heap.objs.size<=it)(D:∀ x c,X.env.cells.lookup x=some c->c≠it)(J:∀ p∈X.pn++pins,p.1≠it):Ad X pins σ H { s with heap:=h',toks:=t' }:=by
 have g:∀ b u,H b=some u->b≠it:=λb u e z=>by rw [z,hn] at e;cases e
 refine I.step (g':=s.gens) (d':=s.drawn) (ch:=[it]) (λb hb=>?_) (λb o _ _ hc e _=>k b o (λz=>hc (by simp [z])) e) (λb o _ _ hc e _=>⟨o.slots,k b o (λz=>hc (by simp [z])) e⟩) (λ_ _ _ _ n=>n)
  (λb o hc e=>⟨o,k b o (λz=>hc (by simp [z])) e⟩) (λ_ _ e=>e) (λ_ _ _ e=>e) (λb ps e=>⟨#[],by rw [e];simp⟩) (λm L=>?_) (λb u e=>?_) I.bare
 .have e:b=it:=by simpa using hb
  subst e;exact ⟨B,d,D,J⟩
 .obtain ⟨o,O,Y,ho,r⟩:=Cq L;exact ⟨o,O,Y,k _ o (S3 d) ho,r⟩
 .refine (I.aa b u e).cU (λc v hc q=>k c v ?_ q) (λ_ q=>q) λ_ _ q=>q;rcases hc with z | z
  .rw [z];exact g b u e
  .exact g c _ z
theorem Ad.tok (I:Ad X pins σ H s)(t:Nat):Ad X pins σ H { s with toks:=t }:=I.un (h':=s.heap) (t':=t) Un.refl I.aa
theorem Ad.kept {t':Nat}(I:Ad X pins σ H s)(k:∀ b u,s.heap.get? b=some u->h'.get? b=some u):Ad X pins σ H { s with heap:=h',toks:=t' }:=I.un (Un.kept k) (I.aa.kept k)
theorem Ad.laid {a:Addr}{o:HO}{t':Nat}(I:Ad X pins σ H s)(k:∀ b u,s.heap.get? b=some u->h'.get? b=some u)(hp:s.heap.objs.size<=a)(new:A4 X.prog X.w (upd H a o) h' a o) :
  Ad X pins σ (upd H a o) { s with heap:=h',toks:=t' }:=I.un (Un.laid k hp (I.aa.fresh hp)) (I.aa.laid k hp new)
theorem Ad.write {x e:Addr}{o:HO}{t':Nat}(I:Ad X pins σ H s)(d:Gj (H x))(g:e=x\/H e=some (.own x))(k:∀ b u,b≠e->s.heap.get? b=some u->h'.get? b=some u)(p:∃ u,h'.get? e=some u)(new:A4 X.prog X.w (upd H x o) h' x o):Ad X pins σ (upd H x o) { s with heap:=h',toks:=t' }:=I.un (Un.write d g k p) (I.aa.write d g k p new)
theorem Ad.mU {cY:List (Addr×Obj)}(I:Ad X pins σ H s)(h:∀ p∈cY,s.heap.get? p.1=some p.2/\H p.1=none/\p.1≠X.env.locals/\p.1 ∉ X.fs/\∀ v,p.2.data≠.cell v):Ad X cY σ H s :=
 ⟨I.ok,I.os,I.bare,I.base,I.loc,I.cell,I.free,I.br,λp hp=>(SG.mp hp).elim (λz=>I.pin p (V5 _ z)) (h p),I.aa,I.len⟩
theorem JH {N:List Str}(d:N.Nodup){i j:Nat}{x:Str}(a:N[i]?=some x)(b:N[j]?=some x):i=j:=by obtain ⟨B,g⟩:=TL.mp a;obtain ⟨D,p⟩:=TL.mp b;exact (Wx d).mp (g.trans p.symm)
theorem JI {M:U6}{A:Sj}{E:Value->RY->Prop}{i:Nat}{x:Str}{v:V}{u:Value}{Q:Unit->RY->Prop}(I:Ad X pins σ H s)(hN:X.N.Nodup)(hi:X.N[i]?=some x)(hx:FE X.env.scope x)(r:AB v u)(h:∀ Y,Ad X pins (σ.set i (some v)) H Y->(∃ a,S4 a s.heap Y.heap/\(a=X.env.locals\/X.env.cells.lookup x=some a))->Q () Y)(hf:X.fn x=true\/X.env.scope.names.lookup x=some .local:=by first | exact .inl rfl | exact .inr rfl | assumption):R1 M A (storeName X.env x u) Q E s:=by
 obtain ⟨m,hn,hl⟩:=Am (id I.loc);have aad:(X.env.scope.kind == .class || (X.env.scope.kind == .module && X.env.locals != X.env.globals))=false:=by rw [I.ok.kind];rfl
 have mV:i<σ.length:=by rw [I.len];exact (TL.mp hi).1
 have dw:=I.dw;have B:∀{a:Addr}{h':Heap},(∃ o,s.heap.get? a=some o/\H a=none)->S4 a s.heap h'->AY X.prog X.w H h':=λ{a h'} ha g b ob e=>by
  obtain ⟨_,_,mW⟩:=Am ha;refine (I.aa b ob e).cU (λc O hc q=>(g.2 c ?_).trans q) (λ_ q=>q) λ_ _ q=>q;rintro rfl;rcases hc with rfl | hc
  .rw [mW] at e;cases e
  .rw [mW] at hc;cases hc
 rcases hx with hk | hk
 .refine wpAny_storeName_local hk hn (λh' jO g=>?_) aad;obtain ⟨oL,_,_,hoL,_⟩:=Cq (id hn);refine h _ ⟨I.ok,I.os,I.bare,⟨λb o e n hb hx=>?_,λb o e n hb hx=>?_,I.base.free,λb o e hx=>?_,I.base.aQ,I.base.cm,I.base.cA⟩,⟨_,jO,λj y v' D J e3=>?_⟩,λy c e=>?_,I.free,I.br,λp hp=>?_,B ⟨oL,hoL,I.free⟩ g,by simpa using I.len⟩ ⟨_,g,.inl rfl⟩
  .exact (g.2 b (Sw (SN (So e) I.ok.above))).trans (I.base.keep b o e n hb hx)
  .obtain ⟨sl,D⟩:=I.base.slot b o e n hb hx;exact ⟨sl,(g.2 b (Sw (SN (So e) I.ok.above))).trans D⟩
  .obtain ⟨o',D⟩:=I.base.there b o e hx;exact ⟨o',(g.2 b (Sw (SN (So e) I.ok.above))).trans D⟩
  .by_cases L:j=i
   .subst L;rw [hi] at D;cases D;rw [X2 mV] at J;cases J;exact ⟨u,r,.inl ⟨hk,by simp⟩⟩
   .rw [X3 (S3 L)] at J;obtain ⟨u',r',q⟩:=Am (hl j y v' D J e3);refine ⟨u',r',?_⟩;rcases q with ⟨k,e⟩ | ⟨k,c,e,z⟩
    .refine .inl ⟨k,?_⟩;have:y≠x:=λe=>L (JH hN D (e▸hi));simp [this,e]
    .exact .inr ⟨k,c,e,z.sameBut g (dw y c e)⟩
  .obtain ⟨O,z⟩:=I.cell y c e;exact ⟨O,z.sameBut g (dw y c e)⟩
  .obtain ⟨e,n,ne,nf,d⟩:=AJ (I.pin p hp);exact ⟨(g.2 p.1 ne).trans e,n,ne,nf,d⟩
 .have jP:X.fn x=true:=by
   rcases hf with z | z
   .exact z
   .rw [z] at hk;cases hk
  obtain ⟨c,hc⟩:=I.ok.has x (.inl hk);obtain ⟨O,z⟩:=I.cell x c hc;refine wpAny_storeName_cell I.ok.kind hk hc z (λh' jQ g=>?_);obtain ⟨oc,mX,aae⟩:=Am (id z);refine h { s with heap:=h' } ⟨I.ok,I.os,I.bare,⟨λb o e n hb hx=>?_,λb o e n hb hx=>?_,I.base.free,λb o e hx=>?_,I.base.aQ,I.base.cm,I.base.cA⟩,⟨m,hn.sameBut g (S3 (dw x c hc)),λj y v' D J e3=>?_⟩,λy c' e=>?_,I.free,I.br,λp hp=>?_,B ⟨oc,mX,I.br x c hc⟩ g,by simpa using I.len⟩ ⟨c,g,.inr hc⟩
  .exact (g.2 b (Sw (SN (So e) (I.ok.cV x c jP hc)))).trans (I.base.keep b o e n hb hx)
  .obtain ⟨sl,D⟩:=I.base.slot b o e n hb hx;exact ⟨sl,(g.2 b (Sw (SN (So e) (I.ok.cV x c jP hc)))).trans D⟩
  .obtain ⟨o',D⟩:=I.base.there b o e hx;exact ⟨o',(g.2 b (Sw (SN (So e) (I.ok.cV x c jP hc)))).trans D⟩
  .by_cases L:j=i
   .subst L;rw [hi] at D;cases D;rw [X2 mV] at J;cases J;exact ⟨u,r,.inr ⟨.inl hk,c,hc,jQ⟩⟩
   .rw [X3 (S3 L)] at J;obtain ⟨u',r',q⟩:=Am (hl j y v' D J e3);refine ⟨u',r',?_⟩;rcases q with q | ⟨k,c',e,z'⟩
    .exact .inl q
    .refine .inr ⟨k,c',e,z'.sameBut g ?_⟩;rintro rfl;exact L (JH hN D (I.ok.inj _ _ _ e hc▸hi))
  .by_cases mY:c'=c
   .subst mY;exact ⟨_,jQ⟩
   .obtain ⟨w2,z2⟩:=I.cell y c' e;exact ⟨w2,z2.sameBut g mY⟩
  .obtain ⟨e,n,ne,nf,d⟩:=AJ (I.pin p hp);refine ⟨(g.2 p.1 ?_).trans e,n,ne,nf,d⟩;intro q;rw [q,mX] at e;have q':oc=p.2:=TU e;exact d O (by rw [<- q'];exact aae)
theorem JJ {M:U6}{A:Sj}{E:Value->RY->Prop}{i:Nat}{x:Str}{v:V}{u:Value}{Q:Unit->RY->Prop}(I:Ad X pins σ H s)(g:X.N.Nodup)(hi:X.N[i]?=some x)(hx:FE X.env.scope x)(r:AB v u)(h:∀ d,Ad X pins (σ.set i (some v)) H d->Q () d)(p:X.fn x=true\/X.env.scope.names.lookup x=some .local:=by first | exact .inl rfl | exact .inr rfl | assumption):R1 M A (storeName X.env x u) Q E s :=
 JI I g hi hx r (λd B _=>h d B) p
theorem Ad.mZ {d:RY}{ch:List Addr}(I:Ad X pins σ H s)(J:d.os=s.os)(u:Un (Cg X.stack) ch H H' s.heap d.heap)(L:AY X.prog X.w H' d.heap)(O:Uw d.gens)(Y:∀ b∈ch,(b∈X.ex\/X.s₀.heap.objs.size<=b)/\b≠X.env.locals/\(∀ x c,X.env.cells.lookup x=some c->c≠b)/\∀ p∈X.pn++pins,p.1≠b):Ad X pins σ H' d:=by obtain ⟨h',g,B,D,o'⟩:=d;have e:o'=s.os:=J;subst e;exact I.call (g':=g) (t':=D) (d':=B) u L O Y
end
abbrev XK:=Value->Option Addr->Hp->Prop
abbrev St:=List (Option V)
abbrev VK:=V->Hp->Prop
abbrev TE:=St->Hp->VK->Prop
abbrev TT:=St->Hp->(Bool->Hp->Prop)->Prop
abbrev TA:=St->Hp->(List V->Hp->Prop)->Prop
structure DF where
 nx:St->Hp->Prop
 rt:VK
 bk:St->Hp->Prop:=λ_ _=>False
 ct:St->Hp->Prop:=λ_ _=>False
abbrev TS:=DF->St->Hp->Prop
def EP (X:Cx)(pins:List (Addr×Obj))(σ:St)(Q:VK)(u:Value)(s':RY):Prop:=∃ v H',Ad X pins σ H' s'/\AB v u/\Q v H'
def TP (X:Cx)(pins:List (Addr×Obj))(σ:St)(Q:Bool->Hp->Prop)(b:Bool)(s':RY):Prop:=∃ H',Ad X pins σ H' s'/\Q b H'
def AP (X:Cx)(pins:List (Addr×Obj))(σ:St)(Q:List V->Hp->Prop)(us:List Value)(s':RY):Prop:=∃ vs H',Ad X pins σ H' s'/\Ar vs us/\Q vs H'
def SP (X:Cx)(pins:List (Addr×Obj))(D:DF)(f:Flow)(s':RY):Prop :=
 match f with
 | .next=>∃ σ' H',Ad X pins σ' H' s'/\D.nx σ' H'
 | .brk=>∃ σ' H',Ad X pins σ' H' s'/\D.bk σ' H'
 | .cont=>∃ σ' H',Ad X pins σ' H' s'/\D.ct σ' H'
 | .ret u=>∃ v σ' H',Ad X pins σ' H' s'/\AB v u/\D.rt v H'
def PE (X:Cx)(e:R6)(t:TE):Prop :=
 ∀(pins:List (Addr×Obj))(s:RY)(σ:St)(H:Hp)(Q:VK),Ad X pins σ H s->t σ H Q->R1 (R4 X.prog X.w) X.A (Sf e X.env) (EP X pins σ Q) X.xe s
def PT (X:Cx)(e:R6)(t:TT):Prop :=
 ∀(pins:List (Addr×Obj))(s:RY)(σ:St)(H:Hp)(Q:Bool->Hp->Prop),Ad X pins σ H s->t σ H Q->R1 (R4 X.prog X.w) X.A (Wy e X.env (Sf e X.env)) (TP X pins σ Q) X.xe s
def PW (X:Cx)(e:R6)(t:TT):Prop :=
 ∀(whole:Sem Value)(pins:List (Addr×Obj))(s:RY)(σ:St)(H:Hp)(Q:Bool->Hp->Prop),Ad X pins σ H s->t σ H Q->R1 (R4 X.prog X.w) X.A (Wy e X.env whole) (TP X pins σ Q) X.xe s
theorem PW.pt {X:Cx}{e:R6}{t:TT}(h:PW X e t):PT X e t:=h _
def PA (X:Cx)(es:List R6)(t:TA):Prop :=
 ∀(pos:Pos)(pins:List (Addr×Obj))(s:RY)(σ:St)(H:Hp)(Q:List V->Hp->Prop),Ad X pins σ H s->t σ H Q->R1 (R4 X.prog X.w) X.A (spliced (SJ pos (Se es X.env))) (AP X pins σ Q) X.xe s
def PS (X:Cx)(st:Stmt)(t:TS):Prop :=
 ∀(pins:List (Addr×Obj))(s:RY)(σ:St)(H:Hp)(D:DF),Ad X pins σ H s->t D σ H->R1 (R4 X.prog X.w) X.A (exec st X.env) (SP X pins D) X.xe s
def Cr (X:Cx)(st:List Stmt)(t:TS):Prop :=
 ∀(pins:List (Addr×Obj))(s:RY)(σ:St)(H:Hp)(D:DF),Ad X pins σ H s->t D σ H->R1 (R4 X.prog X.w) X.A (execs st X.env) (SP X pins D) X.xe s
theorem Al {α:Type}{t:Sem α}{Q d:α->RY->Prop}{M:U6}{A:Sj}{E:Value->RY->Prop}{s:RY}(h:R1 M A t Q E s)(g:∀ a s,Q a s->d a s):R1 M A t d E s:=TV h g λ_ _ x=>x
section
variable {X:Cx}
def FF (i:Nat):TE:=λσ H Q=>∃ v,σ[i]?=some (some v)/\Q v H
def tC (v:V):TE:=λ_ H Q=>Q v H
theorem JK {i:Nat}{x:Str}{pos:Pos}(p:X.N[i]?=some x)(B:FD X.env.scope x)(hd:(x == ("__debug__":Str))=false:=by decide)(D:(x == ("__classdict__":Str))=false:=by decide):PE X (.Name x pos) (FF i):=by
 intro pins s σ H Q I h;replace h:=Am h;obtain ⟨v,e,h⟩:=h
 obtain ⟨m,hn,J⟩:=Am I.loc;obtain ⟨u,r,l⟩:=Am (J i x v p e B);have d:EP X pins σ Q u s:=⟨v,H,I,r,h⟩;rcases l with ⟨hk,L⟩ | ⟨hk,c,hc,g⟩
 .exact X4 (wpAny_loadName_local I.ok.kind hk hn L d) hd
 .rcases hk with hk | hk
  .exact X4 (wpAny_loadName_cell I.ok.kind hk hc g d) hd
  .exact X4 (wpAny_loadName_free I.ok.kind hk hc g d D) hd
theorem Ag {i j pos}:PE X (.Constant (.int i) j pos) (tC (.int i)):=λ_ _ _ H _ I h=>wpAny_Constant_int ⟨.int i,H,I.tok _,⟨_,rfl⟩,h⟩
theorem Du {b j pos}:PE X (.Constant (.bool b) j pos) (tC (.bl b)):=λ_ _ _ H _ I h=>Constant_bool ⟨.bl b,H,I,rfl,h⟩
theorem Ci {j pos}:PE X (.Constant .none j pos) (tC .ae):=λ_ _ _ H _ I h=>Constant_none ⟨.ae,H,I,rfl,h⟩
theorem Ay {x j pos}:PE X (.Constant (.str x) j pos) (tC (.str x)):=λ_ _ _ H _ I h=>Calls.Constant_str ⟨.str x,H,I.tok _,⟨_,rfl⟩,h⟩
def Gl (X:Cx)(x:Str):Prop:=X.env.kindOf x=some .globalImplicit
theorem ET {E:Value->RY->Prop}{pins:List (Addr×Obj)}{s:RY}{σ:St}{H:Hp}{x:Str}{u:Value}{pos:Pos}{Q:Value->RY->Prop}(I:Ad X pins σ H s)(d:Gl X x)(g:X.mg x=some u)(h:Q u s)(hd:(x == ("__debug__":Str))=false:=by decide):R1 (R4 X.prog X.w) X.A (Sf (.Name x pos) X.env) Q E s :=
 Zc I.ok.kind d (Calls.loadGlobal_global (by rw [I.ok.glob];exact I.mod.glob.keeps I.bk) g h) hd
theorem EU {E:Value->RY->Prop}{pins:List (Addr×Obj)}{s:RY}{σ:St}{H:Hp}{x:Str}{u:Value}{pos:Pos}{Q:Value->RY->Prop}(I:Ad X pins σ H s)(d:Gl X x)(g:X.mg x=none)(p:Ta x=some u)(h:Q u s)(hn:x≠"__name__":=by decide)(hd:(x == ("__debug__":Str))=false:=by decide):R1 (R4 X.prog X.w) X.A (Sf (.Name x pos) X.env) Q E s:=by obtain ⟨J,B,D⟩:=Am I.mod.blt;exact Zc I.ok.kind d (Calls.loadGlobal_builtin (by rw [I.ok.glob];exact I.mod.glob.keeps I.bk) g (by rw [I.ok.blt];exact B.keeps I.bk) ((D x hn).trans p) h) hd
theorem Aak {x:Str}{v:V}{u:Value}{pos:Pos}(d:Gl X x)(g:X.mg x=some u)(r:AB v u)(hd:(x == ("__debug__":Str))=false:=by decide):PE X (.Name x pos) (tC v) :=
 λ_ _ _ H _ I h=>ET I d g ⟨v,H,I,r,h⟩ hd
theorem Aal {x:Str}{v:V}{u:Value}{pos:Pos}(d:Gl X x)(g:X.mg x=none)(p:Ta x=some u)(r:AB v u)(hn:x≠"__name__":=by decide)(hd:(x == ("__debug__":Str))=false:=by decide):PE X (.Name x pos) (tC v) :=
 λ_ _ _ H _ I h=>EU I d g p ⟨v,H,I,r,h⟩ hn hd
variable {a b:R6}{ta tb:TE}{pos:Pos}
def tB (t:TE):TT:=λσ H Q=>t σ H λx H1=>∃ c,x=.bl c/\Q c H1
theorem Dg {e:R6}{t:TE}(h:PE X e t)(B:∀ g,Wy e X.env g=(do let v <- g;Um e.pos;UH [v] (truthy v)):=by intro _;rfl):PT X e (tB t):=by
 intro pins s σ H Q I hw;refine isTrue_plain (Al (h pins s σ H _ I hw) λv V D=>Az D λx J L O p=>?_) (B _);replace p:=Am p;obtain ⟨d,rfl,q⟩:=p
 cases O;exact UI ⟨J,L,q⟩
variable {tA iM:TT}{rest:List R6}
def Aam (t u:TT):TT:=λσ H Q=>t σ H λc H1=>if c=true then u σ H1 Q else Q false H1
def tOr (t u:TT):TT:=λσ H Q=>t σ H λc H1=>if c=true then Q true H1 else u σ H1 Q
def Aan (t:TT):TT:=λσ H Q=>t σ H λc H1=>Q (!c) H1
theorem JL (d:PT X a tA):PW X (.BoolOp .And [a] pos) tA:=by
 intro g pins s σ H Q I h;refine isTrue_and (Al (d pins s σ H Q I h) λc p e=>?_);cases c with
 | true=>exact isTrue_and_nil e
 | false=>exact e
theorem Dh (d:PT X a tA):PW X (.BoolOp .Or [a] pos) tA:=by
 intro g pins s σ H Q I h;refine isTrue_or (Al (d pins s σ H Q I h) λc p e=>?_);cases c with
 | false=>exact isTrue_or_nil e
 | true=>exact e
theorem JM (B:PT X a tA)(hb:PW X (.BoolOp .And (b :: rest) pos) iM):PW X (.BoolOp .And (a :: b :: rest) pos) (Aam tA iM):=by
 intro D pins s σ H Q I h;refine isTrue_and (Al (B pins s σ H _ I h) λc J L=>Cp L λd g p=>?_);cases c with
 | true=>exact hb D pins J σ d Q g p
 | false=>exact ⟨d,g,p⟩
theorem Cz (B:PT X a tA)(hb:PW X (.BoolOp .Or (b :: rest) pos) iM):PW X (.BoolOp .Or (a :: b :: rest) pos) (tOr tA iM):=by
 intro D pins s σ H Q I h;refine isTrue_or (Al (B pins s σ H _ I h) λc J L=>Cp L λd g p=>?_);cases c with
 | true=>exact ⟨d,g,p⟩
 | false=>exact hb D pins J σ d Q g p
theorem Cs (d:PT X a tA):PT X (.UnaryOp .Not a pos) (Aan tA):=by intro pins s σ H Q I h;exact isTrue_not (d pins s σ H (λc g=>Q (!c) g) I h)
def Aao (ta tb:TE):TE:=λσ H Q=>ta σ H λx H1=>∃ c,x=.bl c/\if c=true then tb σ H1 Q else Q (.bl false) H1
def Aap (ta:TE):TE:=λσ H Q=>ta σ H λx H1=>∃ c,x=.bl c/\Q (.bl (!c)) H1
theorem Hw {op} {t:TE} (h:PE X a t):PE X (.BoolOp op [a] pos) t:=λpins s σ H Q I hw=>BoolOp_one (h pins s σ H Q I hw)
theorem JN (B:PE X a ta)(hb:PE X (.BoolOp .And (b :: rest) pos) tb):PE X (.BoolOp .And (a :: b :: rest) pos) (Aao ta tb):=by
 intro pins s σ H Q I h;refine BoolOp_and (Al (B pins s σ H _ I h) λv D J=>Az J λx g p L d=>?_);replace d:=Am d;obtain ⟨c,rfl,d⟩:=d
 cases L;refine UI ?_;cases c with
 | true=>exact hb pins D σ g Q p d
 | false=>exact ⟨.bl false,g,p,rfl,d⟩
theorem Aaq (g:PE X a ta):PE X (.UnaryOp .Not a pos) (Aap ta):=by
 intro pins s σ H Q I h;refine UnaryOp_ (Al (g pins s σ H _ I h) λv L p=>Az p λx B D J d=>?_);replace d:=Am d;obtain ⟨c,rfl,d⟩:=d
 cases J;exact not_of (UI ⟨.bl (!c),B,D,rfl,d⟩)
def tIf (t:TT)(ta tb:TE):TE:=λσ H Q=>t σ H λc H1=>if c=true then ta σ H1 Q else tb σ H1 Q
theorem MK {c:R6}(hc:PT X c tA)(J:PE X a ta)(hb:PE X b tb):PE X (.IfExp c a b pos) (tIf tA ta tb):=by
 intro pins s σ H Q I h;refine wpAny_IfExp (Al (hc pins s σ H _ I h) λd g L=>Cp L λp B D=>?_);cases d with
 | true=>exact J pins g σ p Q B D
 | false=>exact hb pins g σ p Q B D
end
def AZ (K:R0)(H:Hp)(a:Addr)(xs:List V):Prop :=
 Rd H a (.lst xs) \/
  ∃(o:Obj)(its:Array Value)(n:Nat),K.lookup a=some o/\o.cls=.type "list"/\o.dict=none/\o.data=.seq its n/\its.size<=sizeLine/\Ar xs its.toList
def A5 (K:R0)(H:Hp)(a:Addr)(xs:List V):Prop :=
 Rd H a (.tup xs) \/
  ∃(o:Obj)(its:Array Value)(n:Nat),K.lookup a=some o/\o.cls=.type "tuple"/\o.data=.seq its n/\its.size<=sizeLine/\Ar xs its.toList
noncomputable def Aar:Value->Option V
 | .none=>some .ae
 | .bool b=>some (.bl b)
 | .int i _=>some (.int i)
 | .str x _=>some (.str x)
 | .bytes b _=>some (.bR b)
 | .float b _=>some (.eP b)
 | .ref a=>some (.ref a)
 | .type n=>some (.ty n)
 | _=>none
theorem AB.abs {x:V}{u:Value}(r:AB x u):Aar u=some x:=by
 cases x with
 | ae=>cases r;rfl
 | bl _=>cases r;rfl
 | int _=>obtain ⟨t,rfl⟩:=r;rfl
 | str _=>obtain ⟨t,rfl⟩:=r;rfl
 | bR _=>obtain ⟨t,rfl⟩:=r;rfl
 | eP _=>obtain ⟨t,rfl⟩:=r;rfl
 | ref _=>cases r;rfl
 | ty _=>cases r;rfl
theorem AB.inj {x y:V}{u:Value}(r:AB x u)(q:AB y u):x=y:=TU (r.abs.symm.trans q.abs)
theorem Ar.inj:∀{xs ys:List V}{us:List Value},Ar xs us->Ar ys us->xs=ys
 | _,_,_,.nil,.nil=>rfl
 | _,_,_,.cons r t,.cons d g=>by rw [r.inj d,Ar.inj t g]
section
variable {X:Cx}{pins:List (Addr×Obj)}{σ:St}{H:Hp}{s:RY}{a:Addr}{xs ys:List V}
theorem AZ.of {K:R0}(h:H a=some (.lst xs)):AZ K H a xs:=.inl (.inl h)
theorem A5.of {K:R0}(h:H a=some (.tup xs)):A5 K H a xs:=.inl (.inl h)
theorem Ad.list (I:Ad X pins σ H s)(h:AZ X.K H a xs):∃ its:List Value,Ar xs its/\PlainL s.heap a its.toArray/\xs.length<=sizeLine:=by
 rcases h with h | ⟨o,its,n,hk,hc,hd,d,g,r⟩
 .obtain ⟨z,its,n,r,e⟩:=h.ok I.aa;exact ⟨its,r,⟨_,n,e,rfl,rfl,rfl⟩,z⟩
 .refine ⟨its.toList,r,⟨o,n,I.aw a o hk,hc,hd,by simpa using d⟩,?_⟩;have e:=r.length;simp only [TC] at e;omega
theorem Ad.tuple (I:Ad X pins σ H s)(h:A5 X.K H a xs):∃ its:List Value,Ar xs its/\IsTup s.heap a its.toArray/\xs.length<=sizeLine:=by
 rcases h with h | ⟨o,its,n,hk,hc,d,g,r⟩
 .obtain ⟨z,its,r,p⟩:=h.ok I.aa;exact ⟨its,r,p,z⟩
 .refine ⟨its.toList,r,⟨o,I.aw a o hk,hc,n,by simpa using d⟩,?_⟩;have e:=r.length;simp only [TC] at e;omega
theorem Ad.list_inj (I:Ad X pins σ H s)(h:AZ X.K H a xs)(h':AZ X.K H a ys):xs=ys:=by
 obtain ⟨its,r,⟨o,n,e,_,_,d⟩,_⟩:=Ax (I.list h);obtain ⟨g,D,⟨L,O,p,_,_,B⟩,_⟩:=Ax (I.list h');rw [e] at p;cases p;rw [d] at B;injection B with J _;have:its=g:=by simpa using congrArg Array.toList J
 subst this;exact r.inj D
theorem Ad.m6 (I:Ad X pins σ H s)(h:A5 X.K H a xs)(h':A5 X.K H a ys):xs=ys:=by
 obtain ⟨its,r,⟨o,e,_,n,d⟩,_⟩:=Ax (I.tuple h);obtain ⟨g,D,⟨L,p,_,O,B⟩,_⟩:=Ax (I.tuple h');rw [e] at p;cases p;rw [d] at B;injection B with J _;have:its=g:=by simpa using congrArg Array.toList J
 subst this;exact r.inj D
end
noncomputable abbrev Cx.cZ (X:Cx)(E:Value->RY->Prop):Cx:={ X with xe:=E }
noncomputable abbrev Cx.iN (X:Cx):Cx:=X.cZ λ_ _=>False
theorem Cx.Ok.cZ {X:Cx}(ok:X.Ok)(E:Value->RY->Prop):(X.cZ E).Ok :=
 ⟨ok.mod,ok.kind,ok.glob,ok.blt,ok.above,ok.inj,ok.has,ok.cV,ok.hd,ok.frames,ok.dv,ok.cW,ok.bs,ok.bY,ok.cX,ok.cq,ok.bq,ok.cu⟩
theorem Cx.Ok.dX {X:Cx}{E:Value->RY->Prop}(ok:(X.cZ E).Ok):X.Ok :=
 ⟨ok.mod,ok.kind,ok.glob,ok.blt,ok.above,ok.inj,ok.has,ok.cV,ok.hd,ok.frames,ok.dv,ok.cW,ok.bs,ok.bY,ok.cX,ok.cq,ok.bq,ok.cu⟩
section
variable {X:Cx}{pins:List (Addr×Obj)}{σ:St}{H:Hp}{s:RY}{E:Value->RY->Prop}
theorem Ad.cZ (I:Ad X pins σ H s)(E:Value->RY->Prop):Ad (X.cZ E) pins σ H s:=⟨I.ok.cZ E,I.os,I.bare,I.base,I.loc,I.cell,I.free,I.br,I.pin,I.aa,I.len⟩
theorem Ad.dX (I:Ad (X.cZ E) pins σ H s):Ad X pins σ H s:=⟨I.ok.dX,I.os,I.bare,I.base,I.loc,I.cell,I.free,I.br,I.pin,I.aa,I.len⟩
theorem SP.dX {D:DF}{f:Flow}{g:RY}(h:SP (X.cZ E) pins D f g):SP X pins D f g:=by
 cases f with
 | next=>obtain ⟨σ',d,I,q⟩:=Bi h;exact ⟨σ',d,I.dX,q⟩
 | brk=>obtain ⟨σ',d,I,q⟩:=Bi h;exact ⟨σ',d,I.dX,q⟩
 | cont=>obtain ⟨σ',d,I,q⟩:=Bi h;exact ⟨σ',d,I.dX,q⟩
 | ret u=>obtain ⟨v,σ',d,I,r,q⟩:=Cq h;exact ⟨v,σ',d,I.dX,r,q⟩
theorem Cr.iN {st:List Stmt}{t:TS}(h:Cr X.iN st t):Cr X st t:=λpins s σ H D I hw =>
 TV (h pins s σ H D (I.cZ _) hw) (λ_ _ q=>q.dX) λ_ _ z=>Tn z
end
section
variable {X:Cx}{st:Stmt}{rest:List Stmt}{t u:TS}{e:R6}{te:TE}{pos:Pos}
def Aas:TS:=λD σ H=>D.nx σ H
def MM (t u:TS):TS:=λD σ H=>t { D with nx:=u D } σ H
theorem AQ:Cr X [] Aas:=λ_ _ σ H _ I h=>W8 ⟨σ,H,I,h⟩
theorem Ai (d:PS X st t)(g:Cr X rest u):Cr X (st :: rest) (MM t u):=by
 intro pins s σ H D I h;refine Zd (Al (d pins s σ H { D with nx:=u D } I h) λf p q=>?_);cases f with
 | next =>
  replace q:=Bi q;obtain ⟨σ',B,J,q⟩:=q
  exact g pins p σ' B D J q
 | ret v=>exact q
 | brk=>exact q
 | cont=>exact q
theorem Ap (d:PS X st t):Cr X [st] t:=by
 intro pins s σ H D I h;refine Zd (Al (d pins s σ H D I h) λf g q=>?_);cases f with
 | next=>exact W8 q
 | ret v=>exact q
 | brk=>exact q
 | cont=>exact q
theorem Ad.quiet {pins:List (Addr×Obj)}{σ:St}{H:Hp}{s:RY}(I:Ad X pins σ H s):interactive X.env=false:=by simp [interactive,I.ok.kind]
def Aat (te:TE):TS:=λD σ H=>te σ H λ_ H1=>D.nx σ H1
theorem CK (d:PE X e te)(hs:U7 e none pos.line X.env=pure false:=by rfl):PS X (.Expr e pos) (Aat te):=by intro pins s σ H D I h;exact wpAny_Expr_any (Al (d pins s σ H _ I h) λv L g=>Az g λx p B O J=>⟨σ,p,B,J⟩) I.quiet hs
def Aau (te:TE):TS:=λD σ H=>te σ H D.rt
theorem AO (d:PE X e te):PS X (.Return (some e) pos) (Aau te):=by intro pins s σ H D I h;exact wpAny_Return_some (Al (d pins s σ H _ I h) λv O g=>Az g λx p B J L=>⟨x,σ,p,B,J,L⟩)
def Aav (c:TT)(t u:TS):TS:=λD σ H=>c σ H λb H1=>if b=true then t D σ H1 else u D σ H1
theorem AR {c:R6}{a b:List Stmt}{g:TT}(hc:PT X c g)(O:Cr X a t)(hb:Cr X b u):PS X (.If c a b pos) (Aav g t u):=by
 intro pins s σ H D I h;refine wpAny_If (Al (hc pins s σ H _ I h) λd p V=>Cp V λB J L=>?_);cases d with
 | true=>exact O pins p σ B D J L
 | false=>exact hb pins p σ B D J L
end
abbrev TG:=V->St->Hp->(St->Hp->Prop)->Prop
abbrev En:=List V->St->Hp->(St->Hp->Prop)->Prop
def PG (X:Cx)(target:R6)(t:TG):Prop :=
 ∀(pins:List (Addr×Obj))(s:RY)(σ:St)(H:Hp)(v:V)(u:Value)(Q:St->Hp->Prop),Ad X pins σ H s->AB v u->t v σ H Q ->
  R1 (R4 X.prog X.w) X.A (T5 target X.env u) (λ_ s'=>∃ σ' H',Ad X pins σ' H' s'/\Q σ' H') X.xe s
def Gk (X:Cx)(ts:List R6)(t:En):Prop :=
 ∀(pins:List (Addr×Obj))(s:RY)(σ:St)(H:Hp)(vs:List V)(us:List Value)(Q:St->Hp->Prop),Ad X pins σ H s->Ar vs us->t vs σ H Q ->
  R1 (R4 X.prog X.w) X.A (assignInOrder ((U8 ts X.env).map (·.2)) us) (λ_ s'=>∃ σ' H',Ad X pins σ' H' s'/\Q σ' H') X.xe s
section
variable {X:Cx}{pos:Pos}
def Ba (i:Nat):TG:=λv σ H Q=>Q (σ.set i (some v)) H
theorem MN {i:Nat}{x:Str}(d:X.N.Nodup)(hi:X.N[i]?=some x)(hx:FE X.env.scope x)(g:X.fn x=true\/X.env.scope.names.lookup x=some .local:=by first | exact .inl rfl | exact .inr rfl | assumption):PG X (.Name x pos) (Ba i):=by intro pins s σ H v u Q I r h;exact X5 (JJ I d hi hx r (λB p=>⟨_,H,p,h⟩) g)
def Aaw:En:=λvs σ H Q=>vs=[]/\Q σ H
def Aax (t:TG)(u:En):En:=λvs σ H Q=>∃ v r,vs=v :: r/\t v σ H λσ' H'=>u r σ' H' Q
theorem DZ:Gk X [] Aaw:=by intro pins s σ H vs d Q I r h;obtain ⟨e,h⟩:=h;subst e;cases r;exact assignInOrder_nil ⟨σ,H,I,h⟩
theorem BW {e:R6}{es:List R6}{t:TG}{u:En}(d:PG X e t)(g:Gk X es u)(hs:(U8 (e :: es) X.env).map (·.2)=T5 e X.env :: (U8 es X.env).map (·.2):=by rfl):Gk X (e :: es) (Aax t u):=by
 intro pins s σ H vs Y Q I r h;replace h:=Bi h;obtain ⟨v,vr,p,h⟩:=h
 subst p;cases r with
 | cons r B =>
  rw [hs];refine assignInOrder_cons (Al (d pins s σ H _ _ _ I r h) λ_ D J=>Gg J λσ1 L O V=>?_);exact g pins D σ1 L _ _ Q O B V
def MO (K:R0)(n:Nat)(t:En):TG:=λv σ H Q=>∃ a xs,v=.ref a/\A5 K H a xs/\xs.length=n/\t xs σ H Q
theorem Gn {es:List R6}{k:Nat}{t:En}{n:Nat}(hc:X.calm=true)(h:Gk X es t)(hn:(U8 es X.env).length=n:=by rfl)(g:(U8 es X.env).findIdx? (·.1)=none:=by rfl):PG X (.Tuple es k pos) (MO X.K n t):=by
 intro pins s σ H v u Q I r hw;replace hw:=Bc hw;obtain ⟨a,p,B,hq,D,hw⟩:=hw
 subst B;cases r;obtain ⟨its,d,J,V⟩:=Ax (I.tuple hq);refine assign_Tuple_tuple (I.ok.hd hc) J (by simp [hn,<- D,d.length]) g λL hx=>?_;have O:Ad X pins σ H { s with heap:=L }:=I.kept (t':=s.toks) λb o e=>hx b o (Sw (So e)) e;exact h pins _ σ H p _ Q O (by simpa using d) hw
def EV (te:TE)(g:TG):TS:=λD σ H=>te σ H λx H1=>g x σ H1 D.nx
theorem MQ {d e:R6}{p:TE}{g:TG}(B:PE X e p)(J:PG X d g)(hs:swapsWithSole [d] e pos.line X.env=pure false:=by rfl)(hw:swappedStores [d] e X.env=pure none:=by rfl)(L:(U8 [d] X.env).map (·.2)=[T5 d X.env]:=by rfl):PS X (.Assign [d] e pos) (EV p g):=by intro pins s σ H D I h;refine wpAny_Assign_stores (Al (B pins s σ H _ I h) λv O V=>Az V λx Y I1 r1 q1=>?_) hs hw;rw [L];exact Al (J pins O σ Y x v _ I1 r1 q1) λ_ s2 q=>q
theorem MR {i:Nat}{x:Str}{e:R6}{g:TE}{d:Pos}(p:X.N.Nodup)(hi:X.N[i]?=some x)(hx:FE X.env.scope x)(B:PE X e g)(hs:U7 e (some (.Name x d)) pos.line X.env=pure false:=by rfl)(J:X.fn x=true\/X.env.scope.names.lookup x=some .local:=by first | exact .inl rfl | exact .inr rfl | assumption) :
  PS X (.Assign [.Name x d] e pos) (EV g (Ba i)):=by
 intro pins s σ H D I h;refine wpAny_Assign_Name (Al (B pins s σ H _ I h) λv s1 L=>Az L λy O V Y q1=>?_) hs;exact JJ V p hi hx Y (λs2 I2=>⟨_,O,I2,q1⟩) J
end
section
variable {X:Cx}{pos:Pos}
end
structure It where
 go:Nat->Hp->Prop
 bL:Nat->Hp->V->Hp->Prop
 stop:Nat->Hp->Prop
def CA (X:Cx)(pins:List (Addr×Obj))(H:Hp)(b:Addr):Prop :=
 H b=none/\b≠X.env.locals/\b ∉ X.fs/\(b∈X.ex\/X.s₀.heap.objs.size<=b)/\(∀ x c,X.env.cells.lookup x=some c->c≠b)/\∀ p∈X.pn++pins,p.1≠b
theorem Ad.dY {X:Cx}{pins:List (Addr×Obj)}{σ:St}{H d:Hp}{s:RY}{b:Addr}(I:Ad X pins σ H s)(hb:s.heap.objs.size<=b)(hn:d b=none):CA X pins d b:=by
 refine ⟨hn,T6 (SN I.lt hb),I.aac hb,.inr (Sy I.sz hb),λx c e z=>?_,λp hp z=>?_⟩
 .obtain ⟨v,q⟩:=I.cell x c e;exact absurd (SN q.lt (by rw [z];exact hb)) (TK _)
 .exact absurd (SN (So (I.pin p hp).1) (by rw [z];exact hb)) (TK _)
structure Eo (P:R7)(w:R3)(K:R0)(tg:R6)(J:It)(fp:List Addr)(it:Addr)(tn:Nat->Heap->Prop):Prop where
 mem:it∈fp
 obj:∀ i h,tn i h->∀ b∈fp,∃ o,h.get? b=some o/\∀ v,o.data≠.cell v
 keep:∀ i h h',tn i h->(∀ b∈fp,∀ o,h.get? b=some o->h'.get? b=some o)->tn i h'
 item:∀(X:Cx),X.prog=P->X.w=w->X.K=K->X.calm=true->∀(i:Nat)(pins:List (Addr×Obj))(s:RY)(σ:St)(H:Hp)(E:Value->RY->Prop),Ad X pins σ H s->(∀ b∈fp,CA X pins H b)->tn i s.heap->J.go i H ->
  R1 (R4 P w) X.A (Tg (.ref it)) (λr s1=>∃ u,r=some u /\
   R1 (R4 P w) X.A (VC tg (.ref it) u) (λ_ s2=>∃ x H',Ad X pins σ H' s2/\AB x u/\J.bL i H x H'/\tn (i+1) s2.heap/\∀ b∈fp,H' b=none) E s1) E s
 done:∀(X:Cx),X.prog=P->X.w=w->X.K=K->X.calm=true->∀(i:Nat)(pins:List (Addr×Obj))(s:RY)(σ:St)(H:Hp)(E:Value->RY->Prop),Ad X pins σ H s->(∀ b∈fp,CA X pins H b)->tn i s.heap->J.stop i H ->
  R1 (R4 P w) X.A (Tg (.ref it)) (λr s1=>r=none/\Ad X pins σ H s1) E s
 self:∀(A:Sj)(i:Nat)(s:RY)(Q:Value->RY->Prop)(E:Value->RY->Prop),tn i s.heap->Q (.ref it) s->R1 (R4 P w) A (VD (.ref it)) Q E s
abbrev TI:=St->Hp->(It->Hp->Prop)->Prop
def MT (X:Cx)(pins:List (Addr×Obj))(σ:St)(tg:R6)(R:It->Hp->Prop)(gj:Value)(s2:RY):Prop :=
 ∃(it:Addr)(fp:List Addr)(tn:Nat->Heap->Prop)(J:It)(H':Hp),gj=.ref it/\Ad X pins σ H' s2/\Eo X.prog X.w X.K tg J fp it tn/\tn 0 s2.heap/\(∀ b∈fp,CA X pins H' b)/\R J H'
def PI (X:Cx)(tg iter:R6)(wi:TI):Prop :=
 ∀(pins:List (Addr×Obj))(s:RY)(σ:St)(H:Hp)(R:It->Hp->Prop),Ad X pins σ H s->wi σ H R ->
  R1 (R4 X.prog X.w) X.A (Sf iter X.env) (λv s1=>R1 (R4 X.prog X.w) X.A (VD v) (MT X pins σ tg R) X.xe s1) X.xe s
theorem Gp {M:U6}{A:Sj}{E:Value->RY->Prop}{s:RY}{g:R6}{it:Addr}{u:Value}{o:Obj}{n:String}{vs:Array Value}{Q:Unit->RY->Prop}(p:s.heap.get? it=some o)(hc:o.cls=.type n)(hd:o.data=.fields vs)(hn:["enumerate","zip","dict_itemiterator","dict_reverseitemiterator","odict_iterator","itertools.zip_longest","itertools.pairwise"].contains n=false)(d:Q () s):R1 M A (VC g (.ref it) u) Q E s:=by
 unfold VC;cases g<;>first
  | exact Sb d
  | (cases u<;>first
    | exact Sb d
    | (refine RZ (V6 p ?_)
       rw [hc,hd];show R1 M A (if (["enumerate","zip","dict_itemiterator","dict_reverseitemiterator","odict_iterator","itertools.zip_longest","itertools.pairwise"].contains n && vs[0]? == some (Tc _))=true then _ else _) Q E s;rw [if_neg (by intro h;rw [hn,Wz] at h;cases h)];exact Sb d))
def Dv (K:R0)(a:Addr):It :=
 ⟨λi H=>∃ xs x,AZ K H a xs/\xs[i]?=some x,λi H x H'=>H'=H/\∀ xs,AZ K H a xs->xs[i]?=some x,λi H=>∃ xs,AZ K H a xs/\xs.length<=i⟩
def Gq (K:R0)(a:Addr):It :=
 ⟨λi H=>∃ xs x,A5 K H a xs/\xs[i]?=some x,λi H x H'=>H'=H/\∀ xs,A5 K H a xs->xs[i]?=some x,λi H=>∃ xs,A5 K H a xs/\xs.length<=i⟩
def DG (lo:Int)(n:Nat):It:=⟨λi _=>i<n,λi H x H'=>H'=H/\x=.int (lo+i),λi _=>n<=i⟩
theorem Aay {P:R7}{w:R3}{K:R0}{tg:R6}(a it:Addr):Eo P w K tg (Dv K a) [it] it (λi h=>h.IsListIter it a i) where
 mem:=by simp
 obj:=λi h st b hb=>by
  have e:b=it:=by simpa using hb
  subst e;obtain ⟨o,e,c,d⟩:=Ax st;exact ⟨o,e,λv z=>by rw [d] at z;cases z⟩
 keep:=λi h g st k=>st.at λo e=>k it (by simp) o e
 item:=by intro X D hw J hc i pins s σ H E I B st L;subst D hw J;obtain ⟨xs,x,hq,hx⟩:=Bi L;obtain ⟨its,O,p,hz⟩:=Ax (I.list hq);obtain ⟨u,hu,ru⟩:=Am (O.get hx);obtain ⟨V,f1,f2,Y,f4,f5⟩:=AJ (B it (by simp));refine wpAny_pyNext_list_item st p.isList (x:=u) (by simpa using hu) λg aH sb=>?_;have I1:Ad X pins σ H { s with heap:=g }:=I.turned (t':=s.toks) (λb o hb e=>(sb.2 b hb).trans e) V f1 Y f4 f5;obtain ⟨o,e,c,d⟩:=Ax (id aH);exact ⟨u,rfl,Gp (s:={ s with heap:=g }) e c d (by decide) ⟨x,H,I1,ru,⟨rfl,λys hy=>by rw [I.list_inj hy hq];exact hx⟩,aH,λb hb=>(B b hb).1⟩⟩
 done:=by intro X D hw J hc i pins s σ H E I B st L;subst D hw J;obtain ⟨xs,hq,hx⟩:=Am L;obtain ⟨its,O,p,hz⟩:=Ax (I.list hq);obtain ⟨V,f1,f2,Y,f4,f5⟩:=AJ (B it (by simp));have hl:=O.length;exact wpAny_pyNext_list_end (I.ok.hd hc) st p.isList (by simp;omega) λg eb=>⟨rfl,I.turned (t':=s.toks) (λb o hb e=>eb b o hb e) V f1 Y f4 f5⟩
 self:=λ_ _ _ _ _ st h=>wpAny_pyIter_listiter st h
theorem Aaz {P:R7}{w:R3}{K:R0}{tg:R6}(a it:Addr):Eo P w K tg (Gq K a) [it] it (λi h=>h.IsTupleIter it a i) where
 mem:=by simp
 obj:=λi h st b hb=>by
  have e:b=it:=by simpa using hb
  subst e;obtain ⟨o,e,c,d⟩:=Ax st;exact ⟨o,e,λv z=>by rw [d] at z;cases z⟩
 keep:=λi h g st k=>st.at λo e=>k it (by simp) o e
 item:=by intro X D hw J hc i pins s σ H E I B st L;subst D hw J;obtain ⟨xs,x,hq,hx⟩:=Bi L;obtain ⟨its,O,p,hz⟩:=Ax (I.tuple hq);obtain ⟨u,hu,ru⟩:=Am (O.get hx);obtain ⟨V,f1,f2,Y,f4,f5⟩:=AJ (B it (by simp));refine wpAny_pyNext_tuple_item st (show s.heap.IsTuple a its.toArray from p) (x:=u) (by simpa using hu) λg aH sb=>?_;have I1:Ad X pins σ H { s with heap:=g }:=I.turned (t':=s.toks) (λb o hb e=>(sb.2 b hb).trans e) V f1 Y f4 f5;obtain ⟨o,e,c,d⟩:=Ax (id aH);exact ⟨u,rfl,Gp (s:={ s with heap:=g }) e c d (by decide) ⟨x,H,I1,ru,⟨rfl,λys hy=>by rw [I.m6 hy hq];exact hx⟩,aH,λb hb=>(B b hb).1⟩⟩
 done:=by intro X D hw J hc i pins s σ H E I B st L;subst D hw J;obtain ⟨xs,hq,hx⟩:=Am L;obtain ⟨its,O,p,hz⟩:=Ax (I.tuple hq);obtain ⟨V,f1,f2,Y,f4,f5⟩:=AJ (B it (by simp));have hl:=O.length;exact wpAny_pyNext_tuple_end (I.ok.hd hc) st (show s.heap.IsTuple a its.toArray from p) (by simp;omega) λg eb=>⟨rfl,I.turned (t':=s.toks) (λb o hb e=>eb b o hb e) V f1 Y f4 f5⟩
 self:=λ_ _ _ _ _ st h=>wpAny_pyIter_tupleiter st h
theorem AaA {P:R7}{w:R3}{K:R0}{tg:R6}(it:Addr)(lo:Int)(n:Nat):Eo P w K tg (DG lo n) [it] it (λi h=>IsRangeIter h it (lo+(i:Nat) * 1) ((n:Int) - (i:Nat)) 1) where
 mem:=by simp
 obj:=λi h st b hb=>by
  have e:b=it:=by simpa using hb
  subst e;exact ⟨_,st,λv z=>by
   have z':Data.fields _=Data.cell v:=z;cases z'⟩
 keep:=λi h d st k=>k it (by simp) _ st
 item:=by intro X p hw B hc i pins s σ H E I g st D;subst p hw B;obtain ⟨J,f1,f2,L,O,V⟩:=AJ (g it (by simp));have W:=Walks.range (prog:=X.prog) (w:=X.w) (I.ok.hd hc) it lo 1 n;refine W.item i s _ _ D st λv d Y hv aH kk=>?_;obtain ⟨t,rfl⟩:=hv;have I1:Ad X pins σ H { s with heap:=d,toks:=Y }:=I.turned (λb o hb e=>kk b o (by simpa using hb) e) J f1 L O V;refine ⟨_,rfl,Gp (s:={ s with heap:=d,toks:=Y }) (n:="range_iterator") aH rfl rfl (by decide) ⟨.int (lo+i),H,I1,⟨t,?_⟩,⟨rfl,rfl⟩,aH,λb hb=>(g b hb).1⟩⟩;rw [Int.mul_one]
 done:=by intro X p hw B hc i pins s σ H E I g st D;subst p hw B;obtain ⟨J,f1,f2,L,O,V⟩:=AJ (g it (by simp));exact wpAny_pyNext_range_end (I.ok.hd hc) st (by have:n<=i:=D;omega) λd eb=>⟨rfl,I.turned (t':=s.toks) (λb o hb e=>eb b o hb e) J f1 L O V⟩
 self:=λ_ _ _ _ _ st h=>wpAny_pyIter_rangeiter st h
section
variable {X:Cx}{tg:R6}
def AaB (K:R0)(tl:TE):TI:=λσ H R=>tl σ H λx H1=>∃ a,x=.ref a/\(∃ xs,AZ K H1 a xs)/\R (Dv K a) H1
def AaC (K:R0)(tl:TE):TI:=λσ H R=>tl σ H λx H1=>∃ a,x=.ref a/\(∃ xs,A5 K H1 a xs)/\R (Gq K a) H1
theorem C5 {l:R6}{tl:TE}(B:PE X l tl):PI X tg l (AaB X.K tl):=by
 intro pins s σ H R I h;refine Al (B pins s σ H _ I h) λv d D=>Az D λx J g L O=>?_;obtain ⟨a,e,⟨V,hq⟩,q⟩:=Ax O;subst e;cases L;obtain ⟨its,Y,p,hz⟩:=Ax (g.list hq);refine W9 p.isList ?_;refine ⟨d.heap.objs.size,[d.heap.objs.size],_,_,J,rfl,g.kept (t':=d.toks) λb o e=>Sq _ e,Aay a _,⟨_,SO _ rfl,rfl,rfl⟩,λb hb=>?_,q⟩;have e:b=d.heap.objs.size:=by simpa using hb
 subst e;exact g.dY (Sh _) (g.aa.fresh (Sh _))
theorem AaD {l:R6}{tl:TE}(B:PE X l tl):PI X tg l (AaC X.K tl):=by
 intro pins s σ H R I h;refine Al (B pins s σ H _ I h) λv d D=>Az D λx J g L O=>?_;obtain ⟨a,e,⟨V,hq⟩,q⟩:=Ax O;subst e;cases L;obtain ⟨its,Y,p,hz⟩:=Ax (g.tuple hq);refine Xa (show d.heap.IsTuple a its.toArray from p) ?_;refine ⟨d.heap.objs.size,[d.heap.objs.size],_,_,J,rfl,g.kept (t':=d.toks) λb o e=>Sq _ e,Aaz a _,⟨_,SO _ rfl,rfl,rfl⟩,λb hb=>?_,q⟩;have e:b=d.heap.objs.size:=by simpa using hb
 subst e;exact g.dY (Sh _) (g.aa.fresh (Sh _))
theorem MU {pins:List (Addr×Obj)}{σ:St}{H:Hp}{s:RY}{R:It->Hp->Prop}{E:Value->RY->Prop}{lo hi:Int}{t u v:Tok}{tk:Nat}(I:Ad X pins σ H s)(g:-(2 ^ 62)<=lo)(p:lo<2 ^ 62)(B:-(2 ^ 62)<=hi)(D:hi<2 ^ 62)(q:R (DG lo (hi - lo).toNat) H):R1 (R4 X.prog X.w) X.A (VD (.ref s.heap.objs.size)) (MT X pins σ tg R) E { s with heap:=s.heap.push { cls:=.type "range",data:=.fields #[.int lo t,.int hi u,.int 1 v] },toks:=tk }:=by
 refine wpAny_pyIter_range (IsRange.new ..) (small_one g p B D) ?_;have d:Ad X pins σ H { s with heap:=s.heap.push { cls:=.type "range",data:=.fields #[.int lo t,.int hi u,.int 1 v] },toks:=tk }:=I.kept λb o e=>Sq _ e;refine ⟨(s.heap.push { cls:=.type "range",data:=.fields #[.int lo t,.int hi u,.int 1 v] }).objs.size,[(s.heap.push { cls:=.type "range",data:=.fields #[.int lo t,.int hi u,.int 1 v] }).objs.size],_,_,H,rfl,
  d.kept (t':=tk) λb o e=>Sq _ e,AaA _ lo (hi - lo).toNat,?_,λb hb=>?_,q⟩
 .have J:lo+((0:Nat):Int) * 1=lo:=by simp
  have L:(((hi - lo).toNat:Nat):Int) - ((0:Nat):Int)=Builtin.Range.rangeSize lo hi 1:=by rw [rangeSize_one];split<;>omega
  show IsRangeIter _ _ (lo+((0:Nat):Int) * 1) ((((hi - lo).toNat:Nat):Int) - ((0:Nat):Int)) 1;rw [J,L];exact SO _ rfl
 .have e:b=(s.heap.push { cls:=.type "range",data:=.fields #[.int lo t,.int hi u,.int 1 v] }).objs.size:=by simpa using hb
  subst e;exact d.dY (Sh _) (d.aa.fresh (Sh _))
def MV (ta:TA):TI:=λσ H R=>ta σ H λvs H1=>∃ j:Int,vs=[.int j]/\-(2 ^ 62)<=j/\j<2 ^ 62/\R (DG 0 j.toNat) H1
def MW (ta:TA):TI:=λσ H R=>ta σ H λvs H1=>∃ i j:Int,vs=[.int i,.int j]/\(-(2 ^ 62)<=i/\i<2 ^ 62/\-(2 ^ 62)<=j/\j<2 ^ 62)/\R (DG i (j - i).toNat) H1
theorem AaE {a:R6}{g:TA}{p pos:Pos}(B:Gl X "range")(D:X.mg "range"=none)(J:PA X [a] g)(hs:Se [a] X.env=[(false,Sf a X.env)]:=by rfl):PI X tg (.Call (.Name "range" p) [a] [] pos) (MV g):=by
 intro pins s σ H R I h;refine Call_ (EU I B D boot_range (WA (Al (J pos pins s σ H _ I h) λus s1 L=>Az L λvs H1 O V d=>?_) hs rfl));replace d:=Ax d;obtain ⟨j,e,d,Y,q⟩:=d
 subst e;cases V with
 | cons r rr =>
  cases rr;obtain ⟨t,rfl⟩:=r;exact call_range_1 (MU O (by omega) (by omega) d Y (by simpa using q))
theorem AaF {a b:R6}{B:TA}{p pos:Pos}(J:Gl X "range")(L:X.mg "range"=none)(O:PA X [a,b] B)(hs:Se [a,b] X.env=[(false,Sf a X.env),(false,Sf b X.env)]:=by rfl)(D:Se [b] X.env=[(false,Sf b X.env)]:=by rfl) :
  PI X tg (.Call (.Name "range" p) [a,b] [] pos) (MW B):=by
 intro pins s σ H R I h;refine Call_ (EU I J L boot_range (WA (Al (O pos pins s σ H _ I h) λus s1 V=>Az V λvs H1 Y r1 d=>?_) (by rw [hs,D]) (by rw [D];rfl)));replace d:=Bc d;obtain ⟨i,j,e,⟨d,q2,q3,q4⟩,q⟩:=d
 subst e;cases r1 with
 | cons r g =>
  cases g with
  | cons r' g =>
   cases g;obtain ⟨t,rfl⟩:=r;obtain ⟨t',rfl⟩:=r';exact call_range_2 (MU Y d q2 q3 q4 q)
def AaG (wi:TI)(g:TG)(tb:TS):TS:=λD σ H=>wi σ H λJ H1=>∃ W:Nat->Nat->St->Hp->Prop,(∃ m,W 0 m σ H1)/\∀ i m σ H,W i m σ H ->
 (J.stop i H/\D.nx σ H)\/(J.go i H/\∃ N:St->Hp->Prop,(∀ σ' H',N σ' H'->∃ m',m'<m/\W (i+1) m' σ' H')/\∀ x H',J.bL i H x H'->g x σ H' λσ2 H2=>tb { D with nx:=N,ct:=N,bk:=D.nx } σ2 H2)
noncomputable def EW (fp:List Addr)(h:Heap):List (Addr×Obj):=fp.filterMap λb=>(h.get? b).map λo=>(b,o)
theorem Ep {d:List Addr}{h:Heap}{b:Addr}{o:Obj}(hb:b∈d)(e:h.get? b=some o):(b,o)∈EW d h:=WB.mpr ⟨b,hb,by rw [e];rfl⟩
theorem AaH {d:List Addr}{h:Heap}{p:Addr×Obj}(hp:p∈EW d h):p.1∈d/\h.get? p.1=some p.2:=by
 obtain ⟨b,hb,e⟩:=Am (WB.mp hp);cases q:h.get? b with
 | none=>rw [q] at e;cases e
 | some o =>
  rw [q] at e;have g:(b,o)=p:=TU e;subst g;exact ⟨hb,q⟩
theorem Ad.pinned {pins:List (Addr×Obj)}{σ:St}{H:Hp}{s:RY}{g:List Addr}(I:Ad X pins σ H s)(D:∀ b∈g,CA X pins H b)(J:∀ b∈g,∃ o,s.heap.get? b=some o/\∀ v,o.data≠.cell v):Ad X (pins++EW g s.heap) σ H s :=
 I.mU λp hp=>(SG.mp hp).elim (λz=>I.pin p (S6 _ z)) λz=>by
  obtain ⟨hb,e⟩:=AaH z;obtain ⟨L,f1,f2,_⟩:=AJ (D p.1 hb);obtain ⟨o,B,d⟩:=Am (J p.1 hb);rw [e] at B;cases B;exact ⟨e,L,f1,f2,d⟩
theorem Ad.eR {pins pl:List (Addr×Obj)}{σ:St}{H:Hp}{s:RY}(I:Ad X (pins++pl) σ H s):Ad X pins σ H s:=I.mU λp hp=>I.pin p (S6 _ (V5 _ hp))
theorem C6 {iter:R6}{body:List Stmt}{wi:TI}{g:TG}{tb:TS}{pos:Pos}(hp:X6 (R4 X.prog X.w) X.A X.env X.xe)(hc:X.calm=true)(hi:PI X tg iter wi)(hg:PG X tg g)(hb:Cr X body tb)(hs:∀ x,UJ iter X.env x=pure x:=by intro _;rfl):PS X (.For tg iter body [] pos) (AaG wi g tb):=by
 intro pins s σ H D I h;refine wpAny_For (Al (hi pins s σ H _ I h) λv s1 h1=>Al h1 λgj s2 h2=>?_) hs;obtain ⟨it,V,tn,J,H2,e,I2,T,st2,f2,W,⟨m0,w0⟩,Y⟩:=Gh h2;subst e;have jR:∀{O:Hp},(∀ b∈V,O b=none)->∀ b∈V,CA X pins O b:=λhn b hb=>⟨hn b hb,(f2 b hb).2⟩;refine codeAny_forLoop_any (λn s'=>∃ i σ' O,Ad X pins σ' O s'/\tn i s'.heap/\(∀ b∈V,O b=none)/\W i n σ' O) ?_ m0 ⟨0,σ,H2,I2,st2,λb hb=>(f2 b hb).1,w0⟩;rintro n s3 ⟨i,σ3,H3,I3,cG,cH,w3⟩;rcases Y i n σ3 H3 w3 with ⟨stop,qn⟩ | ⟨go,N,hN,step⟩
 .refine WC hp (Al (T.done X rfl rfl rfl hc i pins s3 σ3 H3 X.xe I3 (jR cH) cG stop) λr s4 ⟨hr,I4⟩=>?_);subst hr;exact W8 ⟨σ3,H3,I4,qn⟩
 .refine WC hp (Al (T.item X rfl rfl rfl hc i pins s3 σ3 H3 X.xe I3 (jR cH) cG go) λr s4 zz=>Cp zz λu hr h4=>?_);subst hr;refine WC hp (Al h4 λ_ s5 zz=>Az zz λx H5 I5 r5 ⟨y5,bM,eT⟩=>?_);have eU:=I5.pinned (jR eT) (T.obj _ _ bM);refine WC hp (Al (hg _ s5 σ3 H5 x u _ eU r5 (step x H5 y5)) λ_ s6 zz=>Gg zz λσ6 H6 I6 q6=>?_);refine WC hp (Al (hb _ s6 σ6 H6 _ I6 q6) λf s7 p=>?_);have again:∀{σ7:St}{B:Hp},Ad X (pins++EW V s5.heap) σ7 B s7->N σ7 B->∃ m,m<n/\∃ i σ' O,Ad X pins σ' O s7/\tn i s7.heap/\(∀ b∈V,O b=none)/\W i m σ' O:=λ{σ7 B} L n7=>by
   obtain ⟨m',hm,w7⟩:=Am (hN σ7 B n7);refine ⟨m',hm,i+1,σ7,B,L.eR,T.keep _ _ _ bM λb hb o e=>(L.pin (b,o) (S6 _ (S6 _ (Ep hb e)))).1,λb hb=>?_,w7⟩;obtain ⟨o,e,d⟩:=Am (T.obj _ _ bM b hb);exact (L.pin (b,o) (S6 _ (S6 _ (Ep hb e)))).2.1
  cases f with
  | next=>obtain ⟨σ7,B,L,n7⟩:=Bi p;exact again L n7
  | cont=>obtain ⟨σ7,B,L,n7⟩:=Bi p;exact again L n7
  | brk=>replace p:=Bi p;obtain ⟨σ7,B,L,p⟩:=p;exact ⟨σ7,B,L.eR,p⟩
  | ret v=>replace p:=Cq p;obtain ⟨x7,σ7,B,L,r7,p⟩:=p;exact ⟨x7,σ7,B,L.eR,r7,p⟩
end
theorem FG {K:R0}{a:Addr}{xs:List V}{g:TG}{I:TS}{D:DF}{σ:St}{H:Hp}(Pv:Nat->St->Hp->Prop)(O:Pv 0 σ H)(Y:∀ i σ H,i<=xs.length->Pv i σ H->AZ K H a xs)(hs:∀ i x σ H,xs[i]?=some x->Pv i σ H->g x σ H λσ2 B=>I { D with nx:=Pv (i+1),ct:=Pv (i+1),bk:=D.nx } σ2 B)(hd:∀ σ H,Pv xs.length σ H->D.nx σ H) :
  ∃ W:Nat->Nat->St->Hp->Prop,(∃ m,W 0 m σ H)/\∀ i m σ H,W i m σ H ->
   ((Dv K a).stop i H/\D.nx σ H)\/((Dv K a).go i H/\∃ N:St->Hp->Prop,(∀ σ' d,N σ' d->∃ J,J<m/\W (i+1) J σ' d)/\∀ x d,(Dv K a).bL i H x d->g x σ d λσ2 B=>I { D with nx:=N,ct:=N,bk:=D.nx } σ2 B):=by
 refine ⟨λi m σ H=>m=xs.length - i/\i<=xs.length/\Pv i σ H,⟨xs.length,by simp,S7 _,O⟩,?_⟩;rintro i m σ H ⟨rfl,hi,p⟩;have q:=Y i σ H hi p;by_cases L:i<xs.length
 .refine .inr ⟨⟨xs,xs[i],q,by simp [L]⟩,Pv (i+1),λσ' d p'=>⟨xs.length - (i+1),by omega,rfl,L,p'⟩,λx d y=>?_⟩;obtain ⟨e,y⟩:=y;subst e;exact hs i x σ _ (y xs q) p
 .have e:i=xs.length:=by omega
  subst e;exact .inl ⟨⟨xs,q,Sh _⟩,hd σ H p⟩
theorem FH {lo:Int}{n:Nat}{g:TG}{J:TS}{D:DF}{σ:St}{H:Hp}(Pv:Nat->St->Hp->Prop)(O:Pv 0 σ H)(hs:∀ i σ H,i<n->Pv i σ H->g (.int (lo+i)) σ H λσ2 B=>J { D with nx:=Pv (i+1),ct:=Pv (i+1),bk:=D.nx } σ2 B)(hd:∀ σ H,Pv n σ H->D.nx σ H) :
  ∃ W:Nat->Nat->St->Hp->Prop,(∃ m,W 0 m σ H)/\∀ i m σ H,W i m σ H ->
   ((DG lo n).stop i H/\D.nx σ H)\/((DG lo n).go i H/\∃ N:St->Hp->Prop,(∀ σ' d,N σ' d->∃ L,L<m/\W (i+1) L σ' d)/\∀ x d,(DG lo n).bL i H x d->g x σ d λσ2 B=>J { D with nx:=N,ct:=N,bk:=D.nx } σ2 B):=by
 refine ⟨λi m σ H=>m=n - i/\i<=n/\Pv i σ H,⟨n,by simp,S7 _,O⟩,?_⟩;rintro i m σ H ⟨rfl,Y,p⟩;by_cases I:i<n
 .refine .inr ⟨I,Pv (i+1),λσ' d V=>⟨n - (i+1),by omega,rfl,I,V⟩,λx d y=>?_⟩;obtain ⟨e,y⟩:=y;subst e y;exact hs i σ _ I p
 .have e:i=n:=by omega
  subst e;exact .inl ⟨Sh _,hd σ H p⟩
abbrev R2:=V->V->Hp->VK->Prop
def AU (X:Cx)(f:Value->Value->Sem Value)(r:R2):Prop :=
 ∀(pins:List (Addr×Obj))(s:RY)(σ:St)(H:Hp)(x y:V)(v u:Value)(Q:VK),Ad X pins σ H s->AB x v->AB y u->r x y H Q ->
  R1 (R4 X.prog X.w) X.A (f v u) (EP X pins σ Q) X.xe s
def JO (X:Cx)(f:Value->Sem Value)(r:V->Hp->VK->Prop):Prop :=
 ∀(pins:List (Addr×Obj))(s:RY)(σ:St)(H:Hp)(x:V)(v:Value)(Q:VK),Ad X pins σ H s->AB x v->r x H Q ->
  R1 (R4 X.prog X.w) X.A (f v) (EP X pins σ Q) X.xe s
def Bq (X:Cx)(f:Value)(r:List V->Hp->VK->Prop):Prop :=
 ∀(pins:List (Addr×Obj))(s:RY)(σ:St)(H:Hp)(xs:List V)(us:List Value)(Q:VK),Ad X pins σ H s->Ar xs us->r xs H Q ->
  R1 (R4 X.prog X.w) X.A (call f us) (EP X pins σ Q) X.xe s
def AaI (X:Cx)(r:V->Hp->(Bool->Hp->Prop)->Prop):Prop :=
 ∀(pins:List (Addr×Obj))(s:RY)(σ:St)(H:Hp)(x:V)(v:Value)(Q:Bool->Hp->Prop),Ad X pins σ H s->AB x v->r x H Q ->
  R1 (R4 X.prog X.w) X.A (truthy v) (TP X pins σ Q) X.xe s
def Hx (r:R2)(ta tb:TE):TE:=λσ H Q=>ta σ H λx H1=>tb σ H1 λy H2=>r x y H2 Q
def tUn (r:V->Hp->VK->Prop)(ta:TE):TE:=λσ H Q=>ta σ H λx H1=>r x H1 Q
def rI (C:Int->Int->Prop)(g:Int->Int->V):R2:=λx y H Q=>∃ i j,x=.int i/\y=.int j/\C i j/\Q (g i j) H
def Es (g:Int->Int->V):R2:=λx y H Q=>∃ i j,x=.int i/\y=.int j/\Q (g i j) H
def rU (g:Int->V):V->Hp->VK->Prop:=λx H Q=>∃ i,x=.int i/\Q (g i) H
section
variable {X:Cx}{a b c:R6}{ta tb tc:TE}{pos:Pos}
theorem JP (D:PE X a ta)(hb:PE X b tb){pins:List (Addr×Obj)}{s:RY}{σ:St}{H:Hp}{R:V->V->Hp->Prop}(I:Ad X pins σ H s)(h:ta σ H λx p=>tb σ p λy d=>R x y d){Q:Value->RY->Prop}{f:Value->Value->Sem Value}(J:∀ v u g x y d,Ad X pins σ d g->AB x v->AB y u->R x y d->R1 (R4 X.prog X.w) X.A (f v u) Q X.xe g) :
  R1 (R4 X.prog X.w) X.A (Sf a X.env) (λv L=>R1 (R4 X.prog X.w) X.A (Sf b X.env) (λu O=>R1 (R4 X.prog X.w) X.A (f v u) Q X.xe O) X.xe L) X.xe s:=by
 refine Al (D pins s σ H _ I h) λv Y B=>Az B λx p I1 r1 q1=>?_;refine Al (hb pins Y σ p _ I1 q1) λu g B=>Az B λy d I2 r2 q2=>?_;exact J v u g x y d I2 r1 r2 q2
theorem Aj {d:Operator}{r:R2}(g:AU X (T7 d) r)(p:PE X a ta)(hb:PE X b tb):PE X (.BinOp a d b pos) (Hx r ta tb):=by intro pins s σ H Q I h;exact wpAny_BinOp (JP p hb I h λv u B x y D J L O q=>g pins B σ D x y v u Q J L O q)
theorem AaJ {d:UnaryOp}{r:V->Hp->VK->Prop}(g:JO X (unaryOp d) r)(p:PE X a ta):PE X (.UnaryOp d a pos) (tUn r ta):=by intro pins s σ H Q I h;exact UnaryOp_ (Al (p pins s σ H _ I h) λv B D=>Az D λx J L O Y=>g pins B σ J x v Q L O Y)
theorem Hy {f:Value->Value->Sem Value}{C:Int->Int->Prop}{g:Int->Int->Int}(rule:∀ (i j:Int) (t u:Tok) (s:RY) (Q:Value->RY->Prop) (E:Value->RY->Prop),C i j->Q (.int (g i j) s.toks) { s with toks:=s.toks+1 }->R1 (R4 X.prog X.w) X.A (f (.int i t) (.int j u)) Q E s) :
  AU X f (rI C λi j=>.int (g i j)):=by
 intro pins s σ H x y v u Q I d p h;replace h:=Bc h;obtain ⟨i,j,rfl,rfl,hc,q⟩:=h
 obtain ⟨t,rfl⟩:=d;obtain ⟨B,rfl⟩:=p;exact rule i j t B s _ _ hc ⟨.int (g i j),H,I.tok _,⟨_,rfl⟩,q⟩
theorem MX {f:Value->Value->Sem Value}{g:Int->Int->Int}(rule:∀ (i j:Int) (t u:Tok) (s:RY) (Q:Value->RY->Prop) (E:Value->RY->Prop),Q (.int (g i j) s.toks) { s with toks:=s.toks+1 }->R1 (R4 X.prog X.w) X.A (f (.int i t) (.int j u)) Q E s) :
  AU X f (Es λi j=>.int (g i j)):=by
 intro pins s σ H x y v u Q I d p h;replace h:=Bc h;obtain ⟨i,j,rfl,rfl,q⟩:=h
 obtain ⟨t,rfl⟩:=d;obtain ⟨B,rfl⟩:=p;exact rule i j t B s _ _ ⟨.int (g i j),H,I.tok _,⟨_,rfl⟩,q⟩
theorem Hz {f:Value->Value->Sem Value}{g:Int->Int->Bool}(rule:∀ (i j:Int) (t u:Tok) (s:RY) (Q:Value->RY->Prop) (E:Value->RY->Prop),Q (.bool (g i j)) s->R1 (R4 X.prog X.w) X.A (f (.int i t) (.int j u)) Q E s) :
  AU X f (Es λi j=>.bl (g i j)):=by
 intro pins s σ H x y v u Q I d p h;replace h:=Bc h;obtain ⟨i,j,rfl,rfl,q⟩:=h
 obtain ⟨t,rfl⟩:=d;obtain ⟨B,rfl⟩:=p;exact rule i j t B s _ _ ⟨.bl (g i j),H,I,rfl,q⟩
def MY (i j:Int):Prop:=0<j/\j<1073741824
def AaK (i j:Int):Prop:=0<=j/\j<=1000000/\i.natAbs<2 ^ 64
def Gs (i j:Int):Prop:=(-(2 ^ 64)<i/\i<2 ^ 64)\/(-(2 ^ 64)<j/\j<2 ^ 64)
theorem Gs.ok {i j:Int}(h:Gs i j):IntMulOk i j:=by
 rcases h with ⟨d,g⟩ | ⟨d,g⟩
 .exact .of_left (intBits_le_64 d g)
 .exact .of_right (intBits_le_64 d g)
theorem AaL:AU X (T7 .Add) (Es λi j=>.int (i+j)):=MX λ_ _ _ _ _ _ _ q=>add_int q
theorem Et:AU X (T7 .Sub) (Es λi j=>.int (i - j)):=MX λ_ _ _ _ _ _ _ q=>sub_int q
theorem AaM:AU X (T7 .Mult) (rI Gs λi j=>.int (i * j)):=Hy λ_ _ _ _ _ _ _ hc q=>mul_int q hc.ok
theorem D0:AU X (T7 .FloorDiv) (rI MY λi j=>.int (i / j)):=Hy λi j _ _ _ _ _ hc q=>by
 have d:(0:Int)<j:=hc.1;have g:j<1073741824:=hc.2;exact floordiv_int (by omega) (by rw [Int.fdiv_eq_ediv_of_nonneg i (by omega)];exact q) (.inl (PyProof.noPylong_small (by omega)))
theorem A6:AU X (T7 .Mod) (rI (λ_ j=>0<j) λi j=>.int (i % j)):=Hy λi j _ _ _ _ _ hc q=>by
 have d:(0:Int)<j:=hc;exact mod_int' (by omega) (by rw [Int.fmod_eq_emod_of_nonneg i (by omega)];exact q)
theorem AaN:AU X (T7 .Pow) (rI AaK λi j=>.int (i ^ j.toNat)):=Hy λ_ _ _ _ _ _ _ hc q=>pow_int_small hc.1 hc.2.1 hc.2.2 q
theorem unI {f:Value->Sem Value}{g:Int->Int}(rule:∀ (i:Int) (t:Tok) (s:RY) (Q:Value->RY->Prop) (E:Value->RY->Prop),Q (.int (g i) s.toks) { s with toks:=s.toks+1 }->R1 (R4 X.prog X.w) X.A (f (.int i t)) Q E s) :
  JO X f (rU λi=>.int (g i)):=by
 intro pins s σ H x v Q I d h;replace h:=Am h;obtain ⟨i,rfl,q⟩:=h
 obtain ⟨t,rfl⟩:=d;exact rule i t s _ _ ⟨.int (g i),H,I.tok _,⟨_,rfl⟩,q⟩
theorem AaO:JO X (unaryOp .USub) (rU λi=>.int (-i)):=unI λ_ _ _ _ _ q=>neg_int q
end
noncomputable def MZ:V->V->Bool
 | .ae,.ae=>true | .ae,.int _=>true | .int _,.ae=>true | .ae,.bl _=>true | .bl _,.ae=>true | .ae,.str _=>true | .str _,.ae=>true
 | .int _,.int _=>true | .bl _,.bl _=>true | .str _,.str _=>true | .bR _,.bR _=>true
 | .int _,.str _=>true | .str _,.int _=>true | .bl _,.str _=>true | .str _,.bl _=>true
 | _,_=>false
def M0:R2:=λx y H Q=>MZ x y=true/\Q (.bl (decide (x=y))) H
def JQ:R2:=λx y H Q=>MZ x y=true/\Q (.bl (!decide (x=y))) H
theorem M3 {i j:Int}:decide (V.int i=V.int j)=(i == j):=by rw [U9];simp
theorem M4 {i j:Bool}:decide (V.bl i=V.bl j)=(i == j):=by rw [U9];simp
theorem M5 {i j:Str}:decide (V.str i=V.str j)=(i == j):=by rw [U9];simp
theorem M6 {i j:Array UInt8}:decide (V.bR i=V.bR j)=(i.toList == j.toList):=by rw [U9];cases i;cases j;simp
section
variable {X:Cx}{a b c:R6}{ta tb tc:TE}{pos:Pos}
theorem Br {pins:List (Addr×Obj)}{σ:St}{H:Hp}{s:RY}{Q:VK}{k d:Bool}(I:Ad X pins σ H s)(q:Q (.bl k) H)(e:k=d):EP X pins σ Q (.bool d) s:=by subst e;exact ⟨.bl k,H,I,rfl,q⟩
theorem AaP:AU X (S1 .Eq) M0:=by
 intro pins s σ H x y v u Q I B d h;obtain ⟨p,q⟩:=h;cases x with
 | ae =>
  cases B;cases y with
  | ae=>cases d;exact PySem.EqNone.eq_none_none (Br I q (by simp))
  | bl j=>cases d;exact PySem.EqNone.eq_none_bool (Br I q (by simp))
  | int j=>obtain ⟨g,rfl⟩:=d;exact PySem.EqNone.eq_none_int (Br I q (by simp))
  | str j=>obtain ⟨g,rfl⟩:=d;exact PySem.EqNone.eq_none_str (Br I q (by simp))
  | _=>exact absurd (show false=true from p) S8
 | bl i =>
  cases B;cases y with
  | ae=>cases d;exact PySem.EqNone.eq_bool_none (Br I q (by simp))
  | bl j=>cases d;exact eq_bool (Br I q M4)
  | str j=>obtain ⟨g,rfl⟩:=d;exact PySem.EqMixed.eq_bool_str (Br I q (by simp))
  | _=>exact absurd (show false=true from p) S8
 | int i =>
  obtain ⟨t,rfl⟩:=B;cases y with
  | ae=>cases d;exact PySem.EqNone.eq_int_none (Br I q (by simp))
  | int j=>obtain ⟨g,rfl⟩:=d;exact eq_int (Br I q M3)
  | str j=>obtain ⟨g,rfl⟩:=d;exact PySem.EqMixed.eq_int_str (Br I q (by simp))
  | _=>exact absurd (show false=true from p) S8
 | str i =>
  obtain ⟨t,rfl⟩:=B;cases y with
  | ae=>cases d;exact PySem.EqNone.eq_str_none (Br I q (by simp))
  | bl j=>cases d;exact PySem.EqMixed.eq_str_bool (Br I q (by simp))
  | int j=>obtain ⟨g,rfl⟩:=d;exact PySem.EqMixed.eq_str_int (Br I q (by simp))
  | str j=>obtain ⟨g,rfl⟩:=d;exact eq_str (Br I q M5)
  | _=>exact absurd (show false=true from p) S8
 | bR i =>
  obtain ⟨t,rfl⟩:=B;cases y with
  | bR j=>obtain ⟨g,rfl⟩:=d;exact PySem.W.eq_bytes (Br I q M6)
  | _=>exact absurd (show false=true from p) S8
 | _=>cases y<;>exact absurd (show false=true from p) S8
theorem AaQ:AU X (S1 .NotEq) JQ:=by
 intro pins s σ H x y v u Q I B d h;obtain ⟨p,q⟩:=h;cases x with
 | ae =>
  cases B;cases y with
  | ae=>cases d;exact PySem.EqNone.ne_none_none (Br I q (by simp))
  | bl j=>cases d;exact PySem.EqNone.ne_none_bool (Br I q (by simp))
  | int j=>obtain ⟨g,rfl⟩:=d;exact PySem.EqNone.ne_none_int (Br I q (by simp))
  | str j=>obtain ⟨g,rfl⟩:=d;exact PySem.EqNone.ne_none_str (Br I q (by simp))
  | _=>exact absurd (show false=true from p) S8
 | bl i =>
  cases B;cases y with
  | ae=>cases d;exact PySem.EqNone.ne_bool_none (Br I q (by simp))
  | bl j=>cases d;exact ne_bool (Br I q (congrArg not M4))
  | str j=>obtain ⟨g,rfl⟩:=d;exact PySem.EqMixed.ne_bool_str (Br I q (by simp))
  | _=>exact absurd (show false=true from p) S8
 | int i =>
  obtain ⟨t,rfl⟩:=B;cases y with
  | ae=>cases d;exact PySem.EqNone.ne_int_none (Br I q (by simp))
  | int j=>obtain ⟨g,rfl⟩:=d;exact ne_int (Br I q (congrArg not M3))
  | str j=>obtain ⟨g,rfl⟩:=d;exact PySem.EqMixed.ne_int_str (Br I q (by simp))
  | _=>exact absurd (show false=true from p) S8
 | str i =>
  obtain ⟨t,rfl⟩:=B;cases y with
  | ae=>cases d;exact PySem.EqNone.ne_str_none (Br I q (by simp))
  | bl j=>cases d;exact PySem.EqMixed.ne_str_bool (Br I q (by simp))
  | int j=>obtain ⟨g,rfl⟩:=d;exact PySem.EqMixed.ne_str_int (Br I q (by simp))
  | str j=>obtain ⟨g,rfl⟩:=d;exact ne_str (Br I q (congrArg not M5))
  | _=>exact absurd (show false=true from p) S8
 | bR i =>
  obtain ⟨t,rfl⟩:=B;cases y with
  | bR j=>obtain ⟨g,rfl⟩:=d;exact PySem.W.ne_bytes (Br I q (congrArg not M6))
  | _=>exact absurd (show false=true from p) S8
 | _=>cases y<;>exact absurd (show false=true from p) S8
theorem M7:AU X (S1 .Lt) (Es λi j=>.bl (decide (i<j))):=Hz λ_ _ _ _ _ _ _ q=>lt_int q
theorem Di:AU X (S1 .LtE) (Es λi j=>.bl (decide (i<=j))):=Hz λ_ _ _ _ _ _ _ q=>le_int q
theorem Gu:AU X (S1 .Gt) (Es λi j=>.bl (decide (j<i))):=Hz λ_ _ _ _ _ _ _ q=>gt_int q
theorem AaR:AU X (S1 .GtE) (Es λi j=>.bl (decide (j<=i))):=Hz λ_ _ _ _ _ _ _ q=>ge_int q
theorem AaS:AU X (S1 .In) (λx y H Q=>∃ i j,x=.str i/\y=.str j/\Q (.bl (!(X7 j i 0 j.length 1).isEmpty)) H):=by
 intro pins s σ H x y v u Q I d g h;replace h:=Bc h;obtain ⟨i,j,rfl,rfl,q⟩:=h
 obtain ⟨t,rfl⟩:=d;obtain ⟨p,rfl⟩:=g;exact in_str (Br I q rfl)
theorem Gv:AU X (S1 .Is) (λx y H Q=>y=.ae/\Q (.bl (decide (x=.ae))) H):=by
 intro pins s σ H x y v u Q I d g h;obtain ⟨rfl,q⟩:=h;cases g;refine is_none_gen (Br I q ?_);cases x<;>first
  | (cases d;rfl)
  | (obtain ⟨t,rfl⟩:=d;rfl)
theorem AU.or {f:Value->Value->Sem Value}{r d:R2}(h:AU X f r)(h':AU X f d):AU X f (λx y H Q=>r x y H Q\/d x y H Q):=by
 intro pins s σ H x y v u Q I g p q;rcases q with q | q
 .exact h pins s σ H x y v u Q I g p q
 .exact h' pins s σ H x y v u Q I g p q
theorem AN (b:R6){d:CmpOp}(h:d≠.In:=by decide)(g:d≠.NotIn:=by decide):Xb d b=false:=by
 have p:(d == CmpOp.In)=false:=by cases d<;>first | rfl | exact absurd rfl h
 have B:(d == CmpOp.NotIn)=false:=by cases d<;>first | rfl | exact absurd rfl g
 cases b<;>simp [Xb,p,B]
theorem Eu {d:CmpOp}{r:R2}(g:AU X (S1 d) r)(p:PE X a ta)(hb:PE X b tb)(B:Xb d b=false):PE X (.Compare a [d] [b] pos) (Hx r ta tb):=by intro pins s σ H Q I h;exact wpAny_Compare1 (JP p hb I h λv u D x y J L O V q=>g pins D σ J x y v u Q L O V q) B
def M8 (t:TE):TT:=λσ H Q=>t σ H λx H'=>∃ k,x=.bl k/\Q k H'
theorem AK {d:CmpOp}{r:R2}(p:AU X (S1 d) r)(B:PE X a ta)(hb:PE X b tb)(D:Xb d b=false):PT X (.Compare a [d] [b] pos) (M8 (Hx r ta tb)):=by
 intro pins s σ H Q I h;refine wpAny_isTrue_Compare1 (Al (B pins s σ H _ I h) λv J g=>Az g λx L O V Y=>Al (hb pins J σ L _ O Y) λu s2 ⟨y,H2,I2,r2,q2⟩ =>
  Al (p pins s2 σ H2 x y v u _ I2 V r2 q2) λc s3 g=>Az g λz H3 I3 r3 ⟨k,e,q3⟩=>?_) D
 subst e;cases r3;exact UI ⟨H3,I3,q3⟩
def M9 (r r':R2)(ta tb tc:TE):TE:=λσ H Q=>ta σ H λx H1=>tb σ H1 λy H2=>r x y H2 λz H3=>∃ k,z=.bl k /\
 (if k=true then tc σ H3 λw' H4=>r' y w' H4 Q else Q (.bl false) H3)
theorem AaT {p B:CmpOp}{r D:R2}(V:AU X (S1 p) r)(Y:AU X (S1 B) D)(ha:PE X a ta)(hb:PE X b tb)(hc:PE X c tc)(hm:lastMarks [p,B] [b,c]=false:=by with_unfolding_all rfl):PE X (.Compare a [p,B] [b,c] pos) (M9 r D ta tb tc):=by
 intro pins s σ H Q I h;refine Compare_chain (Al (ha pins s σ H _ I h) λv s1 g=>Az g λx H1 I1 r1 q1=>chain_link (Al (hb pins s1 σ H1 _ I1 q1) λu s2 ⟨y,H2,I2,r2,q2⟩ =>
  Al (V pins s2 σ H2 x y v u _ I2 r1 r2 q2) λd s3 g=>Az g λz J L r3 ⟨k,e,O⟩=>?_)) hm
 subst e;cases r3;refine UI ?_;cases k with
 | false=>exact ite_ff ⟨.bl false,J,L,rfl,O⟩
 | true=>exact ite_tt (chain_last (Al (hc pins s3 σ J _ L O) λw' s4 g=>Az g λz' H4 I4 r4 q4=>Y pins s4 σ H4 y z' u w' Q I4 r2 r4 q4))
theorem Gw {p B:CmpOp}{r D:R2}(V:AU X (S1 p) r)(Y:AU X (S1 B) D)(ha:PE X a ta)(hb:PE X b tb)(hc:PE X c tc)(hm:lastMarks [p,B] [b,c]=false:=by with_unfolding_all rfl):PT X (.Compare a [p,B] [b,c] pos) (M8 (M9 r D ta tb tc)):=by
 intro pins s σ H Q I h;refine isTrue_chain (Al (ha pins s σ H _ I h) λv s1 g=>Az g λx H1 I1 r1 q1=>test_link (Al (hb pins s1 σ H1 _ I1 q1) λu s2 ⟨y,H2,I2,r2,q2⟩ =>
  Al (V pins s2 σ H2 x y v u _ I2 r1 r2 q2) λd s3 g=>Az g λz J L r3 ⟨k,e,O⟩=>?_)) hm
 subst e;cases r3;refine UI ?_;cases k with
 | false =>
  obtain ⟨k',e',q'⟩:=Am O;cases e';exact ite_ff ⟨J,L,q'⟩
 | true =>
  refine ite_tt (test_last (Al (hc pins s3 σ J _ L O) λw' s4 g=>Az g λz' H4 I4 r4 q4=>Al (Y pins s4 σ H4 y z' u w' _ I4 r2 r4 q4) λd' s5 g=>Az g λz2 H5 I5 r5 ⟨k2,e2,q5⟩=>?_));subst e2;cases r5;exact UI ⟨H5,I5,q5⟩
def JR (K:R0)(x:V)(H:Hp)(k:Bool):Prop :=
 match x with
 | .ae=>k=false
 | .bl b=>k=b
 | .int i=>k=(i != 0)
 | .str y=>y.length<=sizeLine/\k=((y.length:Int) != 0)
 | .bR y=>y.size<=sizeLine/\k=((y.size:Int) != 0)
 | .ref p=>(∃ xs,AZ K H p xs/\k=!xs.isEmpty)\/(∃ xs,A5 K H p xs/\k=!xs.isEmpty)\/∃ kvs,H p=some (.dK kvs)/\k=!kvs.isEmpty
 | _=>False
theorem AaU {κ:Type}{kvs:List (κ×V)}{vs:List (κ×Value)}(r:KV kvs vs):(!vs.isEmpty)=!kvs.isEmpty:=by cases r<;>rfl
theorem Na {xs:List V}{its:List Value}(r:Ar xs its):(!its.toArray.isEmpty)=!xs.isEmpty:=by cases r<;>simp
theorem FI:(sizeLine:Nat)<2 ^ 63:=by rw [R8];decide
theorem Nb:AaI X (λx H Q=>∃ k,JR X.K x H k/\Q k H):=by
 intro pins s σ H x v Q I J h;obtain ⟨k,e,q⟩:=Am h;have O:=FI;have V:sizeLine=16777216:=R8;cases x with
 | ae =>
  cases J;have d:k=false:=e;subst d;exact truthy_none ⟨H,I,q⟩
 | bl b =>
  cases J;have d:k=b:=e;subst d;exact UI ⟨H,I,q⟩
 | int i =>
  obtain ⟨t,rfl⟩:=J;have d:k=(i != 0):=e;subst d;exact PySem.P.truthy_int ⟨H,I,q⟩
 | str y =>
  obtain ⟨t,rfl⟩:=J;obtain ⟨hy,d⟩:y.length<=sizeLine/\k=((y.length:Int) != 0):=e;subst d;exact PySem.P.truthy_str (by omega) ⟨H,I.tok _,q⟩
 | bR y =>
  obtain ⟨t,rfl⟩:=J;obtain ⟨hy,d⟩:y.size<=sizeLine/\k=((y.size:Int) != 0):=e;subst d;exact PySem.W.truthy_bytes (by omega) ⟨H,I.tok _,q⟩
 | ref p =>
  cases J;have d:(∃ D,AZ X.K H p D/\k=!D.isEmpty)\/(∃ D,A5 X.K H p D/\k=!D.isEmpty)\/∃ g,H p=some (.dK g)/\k=!g.isEmpty:=e;rcases d with ⟨D,hx,d⟩ | ⟨D,hx,d⟩ | ⟨g,hx,d⟩
  .subst d;obtain ⟨its,r,pl,L⟩:=Ax (I.list hx);have B:=r.length;exact wpAny_truthy_list pl.isList (by simp only [SY];omega) ⟨H,I.tok _,by rw [Na r];exact q⟩
  .subst d;obtain ⟨its,r,pl,L⟩:=Ax (I.tuple hx);have B:=r.length;exact truthy_tuple pl (by simp only [SY];omega) ⟨H,I.tok _,by rw [Na r];exact q⟩
  .subst d;obtain ⟨L,hS,vs,r,m⟩:g.length<=sizeLine/\(p == Tv)=false/\∃ vs,KV g vs/\s.heap.DictOf (Bp X.prog X.w) p vs:=I.aa p _ hx;have B:g.length=vs.length:=Paired.length r;exact wpAny_truthy_dict hS m (by omega) ⟨H,I.tok _,by rw [AaU r];exact q⟩
 | _=>exact (show False from e).elim
theorem AaV (p:PE X a ta)(B:∀ d,Wy a X.env d=(do let v <- d;Um a.pos;UH [v] (truthy v))) :
  PT X a (λσ H Q=>ta σ H λx g=>∃ k,JR X.K x g k/\Q k g):=by
 intro pins s σ H Q I h;exact isTrue_plain (Al (p pins s σ H _ I h) λv D J=>Az J λx L O V Y=>Nb pins D σ L x v Q O V Y) (B _)
theorem AaW:AU X (T7 .Add) (λx y H Q=>∃ i j,x=.str i/\y=.str j/\i.length+j.length<=sizeLine/\Q (.str (i++j)) H):=by
 intro pins s σ H x y v u Q I d g h;replace h:=Bc h;obtain ⟨i,j,rfl,rfl,p,q⟩:=h
 obtain ⟨t,rfl⟩:=d;obtain ⟨B,rfl⟩:=g;exact add_str (λB D=>⟨.str (i++j),H,I.tok _,⟨_,rfl⟩,q⟩) p
theorem CL {x:V}{us:List Value}(r:Ar [x] us):∃ u,us=[u]/\AB x u:=by
 cases r with
 | cons d r2=>cases r2;exact ⟨_,rfl,d⟩
theorem JS {x y:V}{us:List Value}(r:Ar [x,y] us):∃ u d,us=[u,d]/\AB x u/\AB y d:=by
 cases r with
 | cons g r2 =>
  cases r2 with
  | cons p B=>cases B;exact ⟨_,_,rfl,g,p⟩
theorem AaX (hc:X.calm=true):Bq X (.builtin "max") (λxs H Q=>∃ i j,xs=[.int i,.int j]/\Q (.int (if j > i then j else i)) H):=by
 intro pins s σ H xs g Q I r h;replace h:=Bi h;obtain ⟨i,j,rfl,q⟩:=h
 obtain ⟨u,p,rfl,⟨t,rfl⟩,⟨B,rfl⟩⟩:=Bc (JS r);refine max_two_ints (I.ok.hd hc) λD J k=>⟨_,H,I.kept k,?_,q⟩;by_cases d:j > i
 .rw [if_pos d,if_pos d];exact ⟨_,rfl⟩
 .rw [if_neg d,if_neg d];exact ⟨_,rfl⟩
theorem AaY (hc:X.calm=true):Bq X (.builtin "min") (λxs H Q=>∃ i j,xs=[.int i,.int j]/\Q (.int (if j<i then j else i)) H):=by
 intro pins s σ H xs g Q I r h;replace h:=Bi h;obtain ⟨i,j,rfl,q⟩:=h
 obtain ⟨u,p,rfl,⟨t,rfl⟩,⟨B,rfl⟩⟩:=Bc (JS r);refine min_two_ints (I.ok.hd hc) λD J k=>⟨_,H,I.kept k,?_,q⟩;by_cases d:j<i
 .rw [if_pos d,if_pos d];exact ⟨_,rfl⟩
 .rw [if_neg d,if_neg d];exact ⟨_,rfl⟩
theorem Nc:Bq X (.type "int") (λxs H Q=>(∃ i,xs=[.int i]/\Q (.int i) H)\/∃ k,xs=[.bl k]/\Q (.int (if k then 1 else 0)) H):=by
 intro pins s σ H xs g Q I r h;rcases h with ⟨i,rfl,q⟩ | ⟨k,rfl,q⟩
 .obtain ⟨u,rfl,t,rfl⟩:=Am (CL r);exact call_int_int ⟨.int i,H,I,⟨_,rfl⟩,q⟩
 .obtain ⟨u,rfl,d⟩:=Am (CL r);cases d;exact call_int_bool ⟨.int (if k then 1 else 0),H,I.tok _,⟨_,rfl⟩,q⟩
theorem JT:Bq X (.type "str") (λxs H Q=>∃ i,xs=[.int i]/\i.natAbs.log2<1920/\Q (.str (toString i)) H):=by
 intro pins s σ H xs g Q I r h;replace h:=Ax h;obtain ⟨i,rfl,d,q⟩:=h
 obtain ⟨u,rfl,t,rfl⟩:=Am (CL r);exact PySem.P.str_of_int d ⟨.str _,H,I.tok _,⟨_,rfl⟩,q⟩
end
structure EX (h:Heap)(x dx C:Addr)(mA:Str->Option Value):Prop where
 obj:h.get? x=some (U5 C dx)
 ns:h.Ns1 dx mA
 ne:dx≠x
theorem AaZ {h:Heap}{d:Addr}{g:Str->Option Value}(n:h.Ns1 d g):∃ p,h.get? d=some p/\∀ name,Xc name p=some (g name):=by
 obtain ⟨o,B,L,D,hd,hk,_,H⟩:=Em n;refine ⟨o,D,λname=>?_⟩;have e:=H name;unfold nsFind findBy at e;rw [<- Array.find?_toList] at e;unfold Xc;rw [hd];dsimp only;split
 .rename_i y q
  rw [q] at e;exact congrArg some e
 .rename_i q
  rw [q] at e;have a:B.toList.any (·.refKey)=false:=by rw [List.any_eq_false];intro y hy;obtain ⟨z,t,I⟩:=hk y (Ze.mp hy);simp [DictEntry.refKey,I]
  have J:¬ B.toList.any (·.refKey)=true:=by rw [a];exact S8
  rw [if_neg J];exact congrArg some e
theorem EX.look {h:Heap}{x g C:Addr}{p:Str->Option Value}(I:EX h x g C p):∃ d,PySem.W.InstAt h x (U5 C g) C (some d)/\∀ name,Xc name d=some (p name) :=
 let ⟨d,B,D⟩:=AaZ I.ns
 ⟨d,⟨I.obj,rfl,rfl,B⟩,D⟩
section
variable {prog:R7}{w:R3}{A:Sj}{E:Value->RY->Prop}{s:RY}{K:R0}{x dx C f:Addr}{mA:Str->Option Value}{name:Str}{v:Value}
theorem Aa0 {expr:Bool}{Q:Value->RY->Prop}(X:K.In s.heap)(I:EX s.heap x dx C mA)(d:Uo K C name=true)(g:Ux K C=true)(p:Sn K (.ref C) name=some none)(B:mA name=some v)(D:Zf v=true)(h:Q v { s with toks:=s.toks+1 }) :
  R1 (R4 prog w) A (getAttr (.ref x) name expr) Q E s:=by
 obtain ⟨L,J,H⟩:=Am I.look;exact PySem.W.get_value X J (X8 d).1 (PySem.W.findObj_own g p rfl (by rw [H,B])) D h
theorem Aa1 {pl:Sem Bool}{Q:Value×List Value->RY->Prop}(X:K.In s.heap)(I:EX s.heap x dx C mA)(d:Uo K C name=true)(g:Sn K (.ref C) name=some (some (.ref f)))(p:VE K (.ref f)=true)(B:mA name=none)(h:Q (.ref f,[.ref x]) s) :
  R1 (R4 prog w) A (Va (.ref x) name pl) Q E s:=by
 obtain ⟨D,J,H⟩:=Am I.look;exact PySem.W.method_fn X J (X8 d).1 (X8 d).2 g (beq_iff_eq.mp p) (by show (Xc name D).map (·.isSome)=some false;rw [H,B];rfl) h
theorem Aa2 {ns:List Str}{Q:Unit->RY->Prop}(X:K.In s.heap)(I:EX s.heap x dx C mA)(hs:Sn K (.ref C) "__setattr__"=some (some (.builtin "object.__setattr__")))(hp:UK K C=true)(D:X9 K C name=some none)(H:Ux K C=true)(hw:XX mA ns)(hsz:ns.length<=sizeLine)(h:∀ h',EX h' x dx C (λy=>if y=name then some v else mA y)->S4 dx s.heap h'->Q () { s with heap:=h',toks:=s.toks+2 }) :
  R1 (R4 prog w) A (setAttr (.ref x) name v) Q E s:=by
 obtain ⟨od,J,hl⟩:=Am I.look;refine PySem.W.set_plain X J hs (PySem.W.osa_open (s:={ s with toks:=s.toks+1 }) (r:=none) X J hp D λb=>?_);obtain ⟨cd,hc,L⟩:=Am (PySem.W.any_some H);have hx:s.heap.get? x=some ⟨.ref C,some dx,.plain,#[]⟩:=I.obj;refine RZ (Sb (RZ (RZ (Zg hx (RZ (PySem.W.Looks.here (s:={ s with toks:=s.toks+1 }) (PySem.W.looks_clsIn X hc) ?_))))));rw [L];refine Sb (a:=some dx) (RZ (Sb (RZ ?_)));refine wpAny_nsSet1 (s:={ s with toks:=s.toks+1 }) I.ns λh' p B=>?_;obtain ⟨oD,O,V,d,g,Y⟩:=Cq (p.count (PySem.Within.cons name v hw));refine RZ (wpAny_lookBehind d (by rw [g];exact pastItsLine_dict (Sy Y (by rw [TX];omega))) ?_);exact Sb (h _ ⟨(B.2 _ (S3 I.ne)).trans I.obj,p,I.ne⟩ B)
theorem Nd {R:VF->RY->Prop}{vs:List Value}{p:List (Str×Value)}(X:K.In s.heap)(B:Uy K C=true)(hi:Sn K (.ref C) "__init__"=some (some (.ref f)))(D:TN K (.ref f)=some (.type "function"))(h:Tq (R4 prog w) (A.under (.builtin "type.__call__" ⟨.ref C :: vs,p⟩)) (.call (.ref f) ⟨.ref (s.heap.objs.size+1) :: vs,p⟩) (PySem.W.InitBack (s.heap.objs.size+1) R)
   { s with heap:=(s.heap.push UL).push (U5 C s.heap.objs.size) }) :
  Tq (R4 prog w) A (.call (.ref C) ⟨vs,p⟩) R s:=by
 obtain ⟨H,g,d,t,os⟩:=s;exact PySem.W.make_core (PySem.W.makes_of X B) (PySem.W.looks_findIn X hi) (λself=>PySem.W.bind_fn X self D) (.inl rfl) h
end
noncomputable def Ao (f:Str)(v:V):List (Str×V)->List (Str×V)
 | []=>[(f,v)]
 | (g,x) :: r=>if g=f then (g,v) :: r else (g,x) :: Ao f v r
theorem Nf (f g:Str)(v:V):∀ fs:List (Str×V),(Ao f v fs).lookup g=if g=f then some v else fs.lookup g
 | []=>by
  show VG g [(f,v)]=_;by_cases h:g=f
  .have hb:(g == f)=true:=beq_iff_eq.mpr h;simp only [VG,hb,if_pos h]
  .have hb:(g == f)=false:=beq_eq_false_iff_ne.mpr h;simp only [VG,hb,if_neg h]
 | (k,x) :: r=>by
  have ih:=Nf f g v r;rw [show Ao f v ((k,x) :: r)=(if k=f then (k,v) :: r else (k,x) :: Ao f v r) from rfl];by_cases hk:k=f
  .rw [if_pos hk];by_cases h:g=k
   .have hb:(g == k)=true:=beq_iff_eq.mpr h;simp only [VG,hb,if_pos (h.trans hk)]
   .have hb:(g == k)=false:=beq_eq_false_iff_ne.mpr h;simp only [VG,hb,if_neg (λe:g=f=>h (e.trans hk.symm))]
  .rw [if_neg hk];by_cases h:g=k
   .have hb:(g == k)=true:=beq_iff_eq.mpr h;simp only [VG,hb,if_neg (λe:g=f=>hk (h.symm.trans e))]
   .have hb:(g == k)=false:=beq_eq_false_iff_ne.mpr h;simp only [VG,hb];exact ih
theorem JU (f:Str)(v:V):∀ fs:List (Str×V),f∈(Ao f v fs).map (·.1)/\∀ g,g∈fs.map (·.1)->g∈(Ao f v fs).map (·.1)
 | []=>⟨by simp [Ao],λg h=>by simp at h⟩
 | (k,x) :: r=>by
  obtain ⟨d,p⟩:=JU f v r;rw [show Ao f v ((k,x) :: r)=(if k=f then (k,v) :: r else (k,x) :: Ao f v r) from rfl];by_cases hk:k=f
  .rw [if_pos hk];subst hk;exact ⟨by simp,λg h=>by simpa using h⟩
  .rw [if_neg hk];refine ⟨?_,λg h=>?_⟩
   .rw [Th];exact SI _ d
   .rw [Th] at h ⊢;rcases Si.mp h with e | e
    .exact Si.mpr (.inl e)
    .exact SI _ (p g e)
theorem Ng (f:Str)(v:V):∀ fs:List (Str×V),(Ao f v fs).length<=fs.length+1
 | []=>by simp [Ao]
 | (k,x) :: r=>by
  have ih:=Ng f v r;rw [show Ao f v ((k,x) :: r)=(if k=f then (k,v) :: r else (k,x) :: Ao f v r) from rfl];by_cases hk:k=f
  .rw [if_pos hk,TX,TX];omega
  .rw [if_neg hk,TX,TX];omega
theorem CJ.some_of {v:V}{o:Option Value}(r:CJ (some v) o):∃ u,o=some u/\AB v u:=by
 cases o with
 | none=>exact (show False from r).elim
 | some u=>exact ⟨u,rfl,r⟩
theorem CJ.none_of {o:Option Value}(r:CJ none o):o=none:=by
 cases o with
 | none=>rfl
 | some u=>exact (show False from r).elim
theorem Aa3 {v:V}{u:Value}(r:AB v u):Zf u=true:=by
 cases v with
 | ae=>cases (show u=SW from r);rfl
 | bl b=>cases (show u=Wt b from r);rfl
 | int i=>obtain ⟨t,e⟩:=(show ∃ t,u=Tu i t from r);cases e;rfl
 | str x=>obtain ⟨t,e⟩:=(show ∃ t,u=S2 x t from r);cases e;rfl
 | bR b=>obtain ⟨t,e⟩:=(show ∃ t,u=Value.bytes b t from r);cases e;rfl
 | eP b=>obtain ⟨t,e⟩:=(show ∃ t,u=XW b t from r);cases e;rfl
 | ref a=>cases (show u=Sg a from r);rfl
 | ty n=>cases (show u=UG n from r);rfl
section
variable {P:R7}{w:R3}{H H':Hp}{h h':Heap}{a C dx:Addr}{fs fs':List (Str×V)}
theorem HH (p:AY P w H h)(e:H a=some (.ins C dx fs)):∃ g,EX h a dx C g/\(∀ f,CJ (fs.lookup f) (g f))/\XX g (fs.map (·.1))/\fs.length<=1000/\H dx=some (.own a):=by obtain ⟨d,z,ne,B,g,n,r,q⟩:=AJ ((show A4 P w H h a (.ins C dx fs) from p a _ e));exact ⟨g,⟨B,n,ne⟩,r,q,z,d⟩
end
structure B7 (K:R0)(C:Addr):Prop where
 pg:Uo K C Sz=true
 hd:Ux K C=true
 po:UK K C=true
 sa:Sn K (.ref C) "__setattr__"=some (some (.builtin "object.__setattr__"))
theorem B7.get {K:R0}{C:Addr}(c:B7 K C)(f:Str):Uo K C f=true:=c.pg
def Bn (K:R0)(C:Addr)(f:Str):Prop:=Sn K (.ref C) f=some none
theorem Bn.aaf {K:R0}{C:Addr}{f:Str}(n:Bn K C f):X9 K C f=some none:=by unfold X9;rw [show Sn K (.ref C) f=some none from n];rfl
structure Con (K:R0)(C:Addr)(f:Str)(v:V)(u:Value):Prop where
 at_:Sn K (.ref C) f=some (some u)
 rel:AB v u
 get:Xd K u "__get__"=some none
 cp:PySem.W.copiedNames.contains f=false
structure HI (K:R0)(C:Addr)(m:Str)(f:Addr):Prop where
 at_:Sn K (.ref C) m=some (some (.ref f))
 fn:VE K (.ref f)=true
 kp:Td K (.ref f)=true
section
variable {X:Cx}{pins:List (Addr×Obj)}{σ:St}{H:Hp}{s:RY}{a C dx:Addr}{fs:List (Str×V)}{f:Str}{v:V}{A:Sj}{E:Value->RY->Prop}
theorem Aa4 {b:Bool}{Q:Value->RY->Prop}(I:Ad X pins σ H s)(e:H a=some (.ins C dx fs))(c:B7 X.K C)(n:Bn X.K C f)(l:fs.lookup f=some v)(h:∀ u d,Ad X pins σ H d->AB v u->Q u d):R1 (R4 X.prog X.w) A (getAttr (.ref a) f b) Q E s:=by obtain ⟨p,O,r,_,_,_⟩:=Ax (HH I.aa e);obtain ⟨u,hu,g⟩:=Am (CJ.some_of (v:=v) (o:=p f) (by rw [<- l];exact r f));exact Aa0 I.aw O (c.get f) c.hd n hu (Aa3 g) (h u _ (I.tok _) g)
theorem JV {m:Str}{g:Addr}{pl:Sem Bool}{Q:Value×List Value->RY->Prop}(I:Ad X pins σ H s)(e:H a=some (.ins C dx fs))(c:B7 X.K C)(k:HI X.K C m g)(l:fs.lookup m=none)(h:Q (.ref g,[.ref a]) s):R1 (R4 X.prog X.w) A (Va (.ref a) m pl) Q E s:=by obtain ⟨d,O,r,_,_,_⟩:=Ax (HH I.aa e);have hn:d m=none:=CJ.none_of (by rw [<- l];exact r m);exact Aa1 I.aw O (c.get m) k.at_ k.fn hn h
theorem Aa5 {y:V}{u:Value}{Q:Unit->RY->Prop}(I:Ad X pins σ H s)(e:H a=some (.ins C dx fs))(c:B7 X.K C)(n:Bn X.K C f)(hl:fs.length<1000)(L:AB y u)(h:∀ p,Ad X pins σ (upd H a (.ins C dx (Ao f y fs))) p->Q () p):R1 (R4 X.prog X.w) A (setAttr (.ref a) f u) Q E s:=by
 obtain ⟨B,O,r,D,_,J⟩:=Ax (HH I.aa e);have Y:(fs.map (·.1)).length<=sizeLine:=by rw [R5,R8];omega
 refine Aa2 I.aw O c.sa c.po n.aaf c.hd D Y λh' d sb=>h _ ?_;have hd:∃ o,h'.get? dx=some o:=let ⟨o,_,_,e',_⟩:=d.ns;⟨o,e'⟩;refine I.write (x:=a) (e:=dx) (by rw [e];exact TY) (.inr J) (λb q hb z=>(sb.2 b hb).trans z) hd ?_;refine ⟨by rw [Ak O.ne];exact J,?_,O.ne,d.obj,_,d.ns,λg=>?_,λg hg=>?_⟩
 .have:=Ng f y fs;omega
 .show CJ ((Ao f y fs).lookup g) (if g=f then some u else B g);rw [Nf];by_cases q:g=f
  .rw [if_pos q,if_pos q];exact L
  .rw [if_neg q,if_neg q];exact r g
 .by_cases q:g=f
  .rw [q];exact (JU f y fs).1
  .refine (JU f y fs).2 g (D g λz=>hg ?_);show (if g=f then some u else B g)=none;rw [if_neg q];exact z
theorem Ad.made (I:Ad X pins σ H s):Ad X pins σ (upd (upd H s.heap.objs.size (.own (s.heap.objs.size+1))) (s.heap.objs.size+1) (.ins C s.heap.objs.size []))
  { s with heap:=(s.heap.push UL).push (U5 C s.heap.objs.size) }:=by
 have d:(s.heap.push UL).get? s.heap.objs.size=some UL:=SO s.heap rfl;have g:((s.heap.push UL).push (U5 C s.heap.objs.size)).get? (s.heap.objs.size+1)=some (U5 C s.heap.objs.size):=by have:=SO (s.heap.push UL) (o:=U5 C s.heap.objs.size) rfl;rwa [Tb] at this
 have p:(s.heap.push UL).Ns s.heap.objs.size (λ_=>none):=⟨UL,#[],_,d,rfl,(λe B=>absurd B (by simp)),λ_=>rfl⟩;have D:=I.laid (a:=s.heap.objs.size) (o:=.own (s.heap.objs.size+1)) (h':=s.heap.push UL) (t':=s.toks) (λb u q=>Sq _ q) (Sh _) ⟨_,d⟩;refine D.laid (a:=s.heap.objs.size+1) (o:=.ins C s.heap.objs.size []) (t':=s.toks) (λb u q=>Sq _ q) (Nat.le_of_eq (Tb _ _)) ?_;have ne:s.heap.objs.size≠s.heap.objs.size+1:=Sw (Uq _);refine ⟨by rw [Ak ne,Ah],S7 _,ne,g,λ_=>none,(Heap.Ns1.of_empty p).at λo q=>Sq _ q,λ_=>TY,λy hy=>absurd rfl hy⟩
theorem Aa6 {prog:R7}{w:R3}{env:Env}{e:R6}{f:Str}{pos:Pos}{s:RY}{Q:Value->RY->Prop}(hb:WD e f env (Sf e env)=Sf e env)(h:R1 (R4 prog w) A (Sf e env) (λo d=>R1 (R4 prog w) A (getAttr o f true) Q E d) E s):R1 (R4 prog w) A (Sf (.Attribute e f pos) env) Q E s :=
 Attribute_any_ h (by rw [arm_eval_Attribute,hb])
end
def Aa7 (K:R0)(ta:TE)(f:Str):TE:=λσ H Q=>ta σ H λx H1=>∃ a C dx fs v,x=.ref a/\H1 a=some (.ins C dx fs)/\B7 K C/\Bn K C f/\fs.lookup f=some v/\Q v H1
def Aa8 (K:R0)(ta tv:TE)(f:Str):TS:=λD σ H=>tv σ H λy H1=>ta σ H1 λx H2=>∃ a C dx fs,x=.ref a/\H2 a=some (.ins C dx fs)/\B7 K C/\Bn K C f/\fs.length<1000 /\
 D.nx σ (upd H2 a (.ins C dx (Ao f y fs)))
section
variable {X:Cx}{o e value:R6}{f:Str}{pos pos' aag:Pos}{ta tv:TE}
theorem Cj (d:PE X e ta)(hb:WD e f X.env (Sf e X.env)=Sf e X.env):PE X (.Attribute e f pos) (Aa7 X.K ta f):=by intro pins s σ H Q I h;refine Aa6 hb (Al (d pins s σ H _ I h) λu V g=>Az g λx p B D ⟨a,C,Y,fs,v,ex,J,c,n,l,q⟩=>?_);subst ex;obtain rfl:u=Sg a:=D;exact Aa4 B J c n l λu' s2 L O=>⟨v,p,L,O,q⟩
theorem Bz (g:PE X o ta)(p:PE X value tv)(hs:U7 value (some (.Attribute o f pos')) pos.line X.env=pure false):PS X (.Assign [.Attribute o f pos'] value pos) (Aa8 X.K ta tv f):=by intro pins s σ H D I h;refine plainObj_wpAny_Assign_Attribute (Al (p pins s σ H _ I h) λu B d=>Az d λy J L O q=>Al (g pins B σ J _ L q) λV s2 d=>Az d λx H2 Y rx ⟨a,C,dx,fs,ex,ea,c,n,l,q2⟩=>?_) hs;subst ex;obtain rfl:V=Sg a:=rx;exact Aa5 Y ea c n l O λs3 I3=>⟨σ,_,I3,q2⟩
end
section
variable {X:Cx}{pins:List (Addr×Obj)}{σ:St}{H:Hp}{s:RY}{A:Sj}{E:Value->RY->Prop}{Q:Value->RY->Prop}{c:Value}{b:Bool}
inductive C7 (K:R0)(H:Hp):V->Value->Prop where
 | ae:C7 K H .ae (.type "NoneType")
 | bl (x:Bool):C7 K H (.bl x) (.type "bool")
 | int (i:Int):C7 K H (.int i) (.type "int")
 | str (x:Str):C7 K H (.str x) (.type "str")
 | eP (x:UInt64):C7 K H (.eP x) (.type "float")
 | lst {a:Addr} {xs:List V} (e:H a=some (.lst xs)):C7 K H (.ref a) (.type "list")
 | bF {a:Addr} {o:Obj} {xs:List V} (e:H a=some (.bF o (.lst xs))):C7 K H (.ref a) (.type "list")
 | tup {a:Addr} {xs:List V} (e:H a=some (.tup xs)):C7 K H (.ref a) (.type "tuple")
 | dK {a:Addr} {kvs:List (Aq×V)} (e:H a=some (.dK kvs)):C7 K H (.ref a) (.type "dict")
 | dT {a:Addr} {kvs:List (List Aq×V)} (e:H a=some (.dT kvs)):C7 K H (.ref a) (.type "dict")
 | ins {a C dx:Addr} {fs:List (Str×V)} (e:H a=some (.ins C dx fs)) (cl:B7 K C) (ha:Sn K (.ref C) "__class__"=some (some (.builtin "object.__class__")))
   (hn:Xd K (.builtin "object.__class__") "__get__"=some (some (.builtin "getset_descriptor.__get__"))) (bG:PySem.W.takesIn K (.builtin "object.__class__")=some true)
   (hm:PySem.W.mroIn K C (.type "object")=some true):C7 K H (.ref a) (.ref C)
theorem Aa9 {x:V}{u t:Value}(I:Ad X pins σ H s)(d:AB x u)(ty:C7 X.K H x t)(e:TQ X.K t c=some b)(h:∀ tk,Q (.bool b) { s with toks:=tk }) :
  R1 (R4 X.prog X.w) A (call (.builtin "isinstance") [u,c]) Q E s:=by
 cases ty with
 | ae=>cases (show u=SW from d);exact Uc PySem.W.kitx_none I.aw TY e (λz=>nomatch z) h
 | bl y=>cases (show u=Wt y from d);exact Uc PySem.W.kitx_bool I.aw TY e (λz=>nomatch z) h
 | int i=>obtain ⟨t,q⟩:=(show ∃ t,u=Tu i t from d);cases q;exact Uc PySem.W.kitx_int I.aw TY e (λz=>nomatch z) h
 | str y=>obtain ⟨t,q⟩:=(show ∃ t,u=S2 y t from d);cases q;exact Uc PySem.W.kitx_str I.aw TY e (λz=>nomatch z) h
 | eP y=>obtain ⟨t,q⟩:=(show ∃ t,u=XW y t from d);cases q;exact Uc PySem.W.kitx_float I.aw TY e (λz=>nomatch z) h
 | @lst a L g =>
  cases (show u=Sg a from d);obtain ⟨_,_,n,_,B⟩:=(show A4 X.prog X.w H s.heap a (.lst L) from I.aa a _ g);exact Uc Zh I.aw ⟨_,B,rfl⟩ e (λz=>nomatch z) h
 | @bF a ob L g =>
  cases (show u=Sg a from d);obtain ⟨_,_,_,n,_,B⟩:=AJ ((show A4 X.prog X.w H s.heap a (.bF ob (.lst L)) from I.aa a _ g));exact Uc Zh I.aw ⟨_,B,rfl⟩ e (λz=>nomatch z) h
 | @tup a L g =>
  cases (show u=Sg a from d);obtain ⟨_,_,_,p⟩:=(show A4 X.prog X.w H s.heap a (.tup L) from I.aa a _ g);obtain ⟨o,B,Y,_⟩:=Ax p;exact Uc PySem.W.kitx_tuple I.aw ⟨o,B,Y⟩ e (λz=>nomatch z) h
 | @dK a D g =>
  cases (show u=Sg a from d);obtain ⟨_,_,vs,_,p⟩:=AJ ((show A4 X.prog X.w H s.heap a (.dK D) from I.aa a _ g));obtain ⟨o,es,ep,B,Y,_⟩:=Cq p;exact Uc Zi I.aw ⟨o,B,Y.1⟩ e (λz=>nomatch z) h
 | @dT a D g =>
  cases (show u=Sg a from d);obtain ⟨_,_,L,_,o,es,ep,B,Y,_⟩:=AJ ((show A4 X.prog X.w H s.heap a (.dT D) from I.aa a _ g));exact Uc Zi I.aw ⟨o,B,Y.1⟩ e (λz=>nomatch z) h
 | @ins a C dx fs g cl ha hn bG hm =>
  cases (show u=Sg a from d);obtain ⟨mA,O,_⟩:=Am (HH I.aa g);obtain ⟨od,J,_⟩:=Am O.look;exact Uc (PySem.W.kitx_own (cl.get _) cl.hd ha hn bG hm) I.aw J e (λz=>nomatch z) h
end
structure Bb (k:Nat)(A:Sj):Prop where
 hd:A.handled=none
 dp:A.depth+3 * k+5<recursionLimit
 un:A.units+16 * k+200<cLine
theorem Bb.mono {j k:Nat}{A:Sj}(r:Bb k A)(h:j<=k):Bb j A:=⟨r.hd,by have:=r.dp;omega,by have:=r.un;omega⟩
theorem Bb.d {j k:Nat}{A:Sj}(r:Bb k A)(h:j<=k:=by decide):Bb j A:=r.mono h
theorem Bb.deeper {k:Nat}{A:Sj}(r:Bb (k+1) A)(env:Env):Bb k (A.deeper env) :=
 ⟨r.hd,by have:=r.dp;show A.depth+1+3 * k+5<_;omega,by have:=r.un;show A.units+3+16 * k+200<_;omega⟩
theorem Aba {A:Sj}{C:Addr}{us:List Value}{d:List (Str×Value)}:(A.under (.builtin "type.__call__" ⟨.ref C :: us,d⟩)).depth=A.depth+1:=by first | rfl | simp [Ya,Code.weight,Code.isCreation,Code.isGuard,Code.isCaller,Code.frames,Yb,guardIds]
theorem Abb {A:Sj}{C:Addr}{us:List Value}{d:List (Str×Value)}:(A.under (.builtin "type.__call__" ⟨.ref C :: us,d⟩)).units=A.units+1:=by first | rfl | simp [Ya,Code.cUnits,Code.frames,Yb]
theorem Bb.make {k:Nat}{A:Sj}(r:Bb (k+1) A)(C:Addr)(us:List Value)(d:List (Str×Value)):Bb k (A.under (.builtin "type.__call__" ⟨.ref C :: us,d⟩)) :=
 ⟨r.hd,by have:=r.dp;rw [Aba];omega,by have:=r.un;rw [Abb];omega⟩
theorem Bb.depth {k:Nat}{A:Sj}(r:Bb k A):A.depth<recursionLimit:=by have:=r.dp;omega
theorem Bb.units {k:Nat}{A:Sj}(r:Bb k A):A.units+64<cLine:=by have:=r.un;omega
def JW:TA:=λ_ H Q=>Q [] H
def Abd (ta:TE)(tr:TA):TA:=λσ H Q=>ta σ H λx H1=>tr σ H1 λxs H2=>Q (x :: xs) H2
section
variable {X:Cx}{e:R6}{es:List R6}{te:TE}{t:TA}{pos:Pos}
theorem Af:PA X [] JW:=λ_ _ _ _ H Q I h=>Calls.spliced_nil ⟨[],H,I,.nil,h⟩
theorem Ac (g:PE X e te)(p:PA X es t)(hs:Se (e :: es) X.env=(false,Sf e X.env) :: Se es X.env:=by rfl):PA X (e :: es) (Abd te t):=by intro pos pins s σ H Q I h;rw [hs];show R1 _ _ (spliced ((false,Sf e X.env) :: SJ pos (Se es X.env))) _ _ s;refine Calls.spliced_cons (Al (g pins s σ H _ I h) λu B d=>Az d λx D J L O=>?_);exact Al (p pos pins B σ D _ J O) λus s2 d=>Az d λV Y I2 r2 q2=>⟨x :: V,Y,I2,.cons L r2,q2⟩
def Abe (t:TA):TE:=λσ H Q=>t σ H λxs H1=>xs.length<=sizeLine/\∀ p,H1 p=none->Q (.ref p) (upd H1 p (.tup xs))
def Abf (t:TA):TE:=λσ H Q=>t σ H λxs H1=>xs.length<=sizeLine/\∀ p,H1 p=none->Q (.ref p) (upd H1 p (.lst xs))
theorem Dw {x1} (h:PA X es t):PE X (.Tuple es x1 pos) (Abe t):=by intro pins s σ H Q I hq;refine wpAny_Tuple_spliced (Al (h pos pins s σ H _ I hq) λB d D=>Fz D λJ g p r z q=>⟨by rw [<- r.length];exact z,?_⟩);have L:g d.heap.objs.size=none:=p.aa.fresh (Sh _);refine ⟨.ref d.heap.objs.size,upd g d.heap.objs.size (.tup J),p.laid (t':=d.toks) (λb u e=>Sq _ e) (Sh _) ?_,rfl,q _ L⟩;exact ⟨z,B,r,⟨_,SO _ rfl,rfl,_,rfl⟩⟩
theorem A7 (h:PA X es t):PE X (.List es pos) (Abf t):=by intro pins s σ H Q I hq;refine wpAny_List_spliced (Al (h pos pins s σ H _ I hq) λB d D=>Fz D λJ g p r z q=>⟨by rw [<- r.length];exact z,?_⟩);have L:g d.heap.objs.size=none:=p.aa.fresh (Sh _);refine ⟨.ref d.heap.objs.size,upd g d.heap.objs.size (.lst J),p.laid (t':=d.toks) (λb u e=>Sq _ e) (Sh _) ?_,rfl,q _ L⟩;exact ⟨z,B,0,r,SO _ rfl⟩
end
abbrev Sp:=List V->Hp->VK->XK->Prop
abbrev BA:=List Env->Hp->RY->XK->Value->RY->Prop
structure EY (P:R7)(w:R3)(K:R0)(mg:Str->Option Value)(base:Heap)(A:Sj)(outer:List Env)(s:RY)(H:Hp):Prop where
 frames:A.frames=some outer
 mod:Mod K mg base
 bs:∀ b o,base.get? b=some o->s.heap.get? b=some o/\H b=none
 bY:base.objs.size<=s.heap.objs.size
 bq:s.heap.FunFrames base outer
 cu:∀ b∈Cg outer,H b=none
 aa:AY P w H s.heap
 bare:Uw s.gens
def CE (outer:List Env)(P:R7)(w:R3)(H:Hp)(s:RY)(Q:VK)(u:Value)(s':RY):Prop :=
 ∃ v H',s'.os=s.os/\Uw s'.gens/\Un (Cg outer) [] H H' s.heap s'.heap/\AY P w H' s'.heap/\AB v u/\Q v H'
def CR (CX:BA)(outer:List Env)(P:R7)(w:R3)(H:Hp)(s:RY)(Q:VK)(E:XK)(r:VF)(s':RY):Prop :=
 match r with
 | .ok (.ret u)=>CE outer P w H s Q u s'
 | .ok _=>False
 | .error e=>CX outer H s E e s'
structure AE (P:R7)(w:R3)(K:R0)(mg:Str->Option Value)(base:Heap)(CX:BA)(k:Nat)(f:Addr)(fd:Sr)(ps:List Str)(sp:Sp):Prop where
 len:∀ vs H Q E,sp vs H Q E->vs.length=ps.length
 run:∀(A:Sj)(outer:List Env)(s:RY)(H:Hp)(args:Args)(us:List Value)(vs:List V)(Q:VK)(E:XK),Bb k A->EY P w K mg base A outer s H->VH s fd args (ps.zip us)->Ar vs us->sp vs H Q E ->
  Tq (R4 P w) A (.call (.ref f) args) (CR CX outer P w H s Q E) s
theorem AE.mono {P:R7}{w:R3}{K:R0}{mg:Str->Option Value}{base:Heap}{CX:BA}{j k:Nat}{f:Addr}{d:Sr}{ps:List Str}{sp:Sp}(F:AE P w K mg base CX j f d ps sp)(h:j<=k) :
  AE P w K mg base CX k f d ps sp:=⟨F.len,λA outer s H args g vs Q E p=>F.run A outer s H args g vs Q E (p.mono h)⟩
theorem EY.make {P:R7}{w:R3}{K:R0}{mg:Str->Option Value}{base:Heap}{A:Sj}{outer:List Env}{s:RY}{H:Hp}(e:EY P w K mg base A outer s H)(C:Addr)(us:List Value)(d:List (Str×Value)) :
  EY P w K mg base (A.under (.builtin "type.__call__" ⟨.ref C :: us,d⟩)) outer s H:=⟨by first | exact e.frames | (simpa [Ya,Code.envs,Yb,pushEnvs] using e.frames),e.mod,e.bs,e.bY,e.bq,e.cu,e.aa,e.bare⟩
section
variable {X:Cx}{pins:List (Addr×Obj)}{σ:St}{H:Hp}{s s':RY}
theorem Ad.gm (I:Ad X pins σ H s):EY X.prog X.w X.K X.mg X.base X.A X.stack s H :=
 ⟨I.ok.frames,I.ok.mod,I.bs,Sy I.ok.bY I.sz,I.stack,I.jM,I.aa,I.bare⟩
theorem Ad.after {Q:VK}{u:Value}(I:Ad X pins σ H s)(h:CE X.stack X.prog X.w H s Q u s'):EP X pins σ Q u s':=by obtain ⟨v,B,os,p,un,D,r,q⟩:=FA h;obtain ⟨J,g,d,t,L⟩:=s';obtain rfl:L=s.os:=os;exact ⟨v,B,I.call (h':=J) (g':=g) (d':=d) (t':=t) (ch:=[]) un D p (λb z=>absurd z (by simp)),r,q⟩
end
def HJ (sp:Sp)(ba:List V)(E:XK)(t:TA):TE:=λσ H Q=>t σ H λvs H1=>sp (vs++ba) H1 Q E
def HK (C:Addr)(m:Str)(sp:Sp)(ba:List V)(E:XK)(ta:TE)(t:TA):TE:=λσ H Q=>ta σ H λx H1=>∃ a dx fs,x=.ref a/\H1 a=some (.ins C dx fs)/\fs.lookup m=none /\
 t σ H1 λvs H2=>sp (x :: (vs++ba)) H2 Q E
def Nh (C:Addr)(sp:Sp)(ba:List V)(E:XK)(t:TA):TE:=λσ H Q=>t σ H λvs H1=>∀ x dx,H1 x=none->H1 dx=none->dx≠x ->
 sp (.ref x :: (vs++ba)) (upd (upd H1 dx (.own x)) x (.ins C dx [])) (λv H2=>v=.ae/\Q (.ref x) H2) E
def Ct (K:R0)(fd:Sr)(ps:List Str)(ds:List Value):Prop :=
 ∀(s:RY)(us:List Value),K.In s.heap->(us++ds).length=ps.length->VH s fd ⟨us,[]⟩ (ps.zip (us++ds))
theorem Ct.all {K:R0}{d:Sr}{ps:List Str}(h:∀ us:List Value,us.length=ps.length->bindArgs d ⟨us,[]⟩=pure (ps.zip us)):Ct K d ps []:=λs us _ g=>by
 rw [S5] at g ⊢;exact .of_eq (h us g)
def CM (CX:BA)(X:Cx)(E:XK):Prop:=∀(pins:List (Addr×Obj))(σ:St)(H:Hp)(s:RY)(e:Value)(s':RY),Ad X pins σ H s->CX X.stack H s E e s'->X.xe e s'
section
variable {X:Cx}{CX:BA}{k:Nat}{f C:Addr}{fd:Sr}{ps:List Str}{sp:Sp}{ba:List V}{ds:List Value}{E:XK}{x m:Str}{p pos apos:Pos}{e o:R6}{es:List R6}{ta:TE}{t:TA}
theorem Gx {pins:List (Addr×Obj)}{σ:St}{H:Hp}{s:RY}{Q:VK}{us:List Value}{vs:List V}(F:AE X.prog X.w X.K X.mg X.base CX k f fd ps sp)(d:Bb k X.A)(hb:Ct X.K fd ps ds)(hd:Ar ba ds)(hx:CM CX X E)(I:Ad X pins σ H s)(r:Ar vs us)(h:sp (vs++ba) H Q E):R1 (R4 X.prog X.w) X.A (call (.ref f) us) (EP X pins σ Q) X.xe s:=by
 have r2:Ar (vs++ba) (us++ds):=r.append hd;have g:(us++ds).length=ps.length:=by rw [<- r2.length];exact F.len _ _ _ _ h
 refine V7 (UM (F.run X.A X.stack s H ⟨us,[]⟩ (us++ds) (vs++ba) Q E d I.gm (hb s us I.aw g) r2 h) λr B hq=>?_);cases r with
 | error e=>exact hx pins σ H s e B I hq
 | ok D =>
  cases D with
  | ret u=>exact I.after hq
  | next=>exact Tn hq
  | brk=>exact Tn hq
  | cont=>exact Tn hq
theorem Abg (F:AE X.prog X.w X.K X.mg X.base CX k f fd ps sp)(g:Bb k X.A)(B:Gl X x)(D:X.mg x=some (.ref f))(hk:Td X.K (.ref f)=true)(hb:Ct X.K fd ps ds)(hd:Ar ba ds)(hx:CM CX X E)(J:PA X (e :: es) t)(L:(x == ("__debug__":Str))=false:=by decide)(O:Se (e :: es) X.env=(false,Sf e X.env) :: Se es X.env:=by rfl)(Y:(SJ pos (Se es X.env)).any (·.1)=false:=by rfl) :
  PE X (.Call (.Name x p) (e :: es) [] pos) (HJ sp ba E t):=by
 intro pins s σ H Q I h;refine VI (ET I B D ?_ L);refine Vb (h₀:=X.base) I.ok.mod.bS hk (Al (J pos pins s σ H _ I h) λus s1 zz=>Az zz λvs H1 d r q=>⟨d.aw,?_⟩) O Y;exact Gx F g hb hd hx d r q
theorem Abh {pl:Sem Bool}(O:PE X o ta)(c:B7 X.K C)(g:HI X.K C m f)(F:AE X.prog X.w X.K X.mg X.base CX k f fd ps sp)(Y:Bb k X.A)(hb:Ct X.K fd ps ds)(hd:Ar ba ds)(hx:CM CX X E)(ha:PA X (e :: es) t)(bt:Se (e :: es) X.env=(false,Sf e X.env) :: Se es X.env:=by rfl)(az:(SJ pos (Se es X.env)).any (·.1)=false:=by rfl)(ht:Sf (.Call (.Attribute o m apos) (e :: es) [] pos) X.env=(do
   let B <- Sf o X.env
   Um apos.atName
   let (f,first) <- UH [B] (Va B m pl)
   V8 pos f first (SJ pos (Se (e :: es) X.env)) (UN pos (UO [] X.env))):=by rfl) :
  PE X (.Call (.Attribute o m apos) (e :: es) [] pos) (HK C m sp ba E ta t):=by
 intro pins s σ H Q I h;refine Xe (pl:=pl) (Al (O pins s σ H _ I h) λu s1 d=>Az d λx H1 D rx ⟨a,dx,fs,ex,ea,l,q⟩=>?_) ht;subst ex;obtain rfl:u=Sg a:=rx;refine JV D ea c g l ?_;refine Vb (first:=[.ref a]) (h₀:=X.base) I.ok.mod.bS g.kp (Al (ha pos pins s1 σ H1 _ D q) λJ s2 d=>Az d λvs H2 L r q2=>⟨L.aw,?_⟩) bt az;exact Gx (us:=.ref a :: J) (vs:=.ref a :: vs) F Y hb hd hx L (.cons rfl r) q2
theorem Abi {pl:Sem Bool}(D:PE X o ta)(c:B7 X.K C)(g:HI X.K C m f)(F:AE X.prog X.w X.K X.mg X.base CX k f fd ps sp)(J:Bb k X.A)(hb:Ct X.K fd ps ds)(hd:Ar ba ds)(hx:CM CX X E)(L:Sf (.Call (.Attribute o m apos) [] [] pos) X.env=(do
   let B <- Sf o X.env
   Um apos.atName
   let (f,first) <- UH [B] (Va B m pl)
   V8 pos f first (SJ pos (Se [] X.env)) (UN pos (UO [] X.env))):=by rfl) :
  PE X (.Call (.Attribute o m apos) [] [] pos) (HK C m sp ba E ta JW):=by
 intro pins s σ H Q I h;refine Xe (pl:=pl) (Al (D pins s σ H _ I h) λu s1 O=>Az O λx H1 d Y ⟨a,dx,fs,ex,ea,l,q⟩=>?_) L;subst ex;obtain rfl:u=Sg a:=Y;refine JV d ea c g l ?_;exact PySem.W.callWith_K0 (first:=[.ref a]) d.aw g.kp (Gx (us:=[.ref a]) (vs:=[.ref a]) F J hb hd hx d (.cons rfl .nil) q)
structure Mk (K:R0)(C f:Addr):Prop where
 makes:Uy K C=true
 init:Sn K (.ref C) "__init__"=some (some (.ref f))
 fn:VE K (.ref f)=true
 kp:Td K (.ref C)=true
theorem Abj {pins:List (Addr×Obj)}{σ:St}{H:Hp}{s:RY}{Q:VK}{us:List Value}{vs:List V}(M:Mk X.K C f)(F:AE X.prog X.w X.K X.mg X.base CX k f fd ps sp)(D:Bb (k+1) X.A)(hb:Ct X.K fd ps ds)(hd:Ar ba ds)(hx:CM CX X E)(I:Ad X pins σ H s)(r:Ar vs us)(h:∀ x g,H x=none->H g=none->g≠x->sp (.ref x :: (vs++ba)) (upd (upd H g (.own x)) x (.ins C g [])) (λv J=>v=.ae/\Q (.ref x) J) E) :
  R1 (R4 X.prog X.w) X.A (call (.ref C) us) (EP X pins σ Q) X.xe s:=by
 have hq:=h (s.heap.objs.size+1) s.heap.objs.size (I.aa.fresh (Tr _)) (I.aa.fresh (Sh _)) (Sw (Uq _));have B:=Ad.made (C:=C) I;have r2:Ar (V.ref (s.heap.objs.size+1) :: (vs++ba)) (Sg (s.heap.objs.size+1) :: (us++ds)):=.cons rfl (r.append hd);have L:(Sg (s.heap.objs.size+1) :: us++ds).length=ps.length:=by have e:=r2.length;rw [F.len _ _ _ _ hq] at e;exact e.symm
 refine V7 (Nd (f:=f) I.aw M.makes M.init (beq_iff_eq.mp M.fn) (UM (F.run _ X.stack _ _ ⟨Sg (s.heap.objs.size+1) :: us,[]⟩ (Sg (s.heap.objs.size+1) :: (us++ds)) _ _ E (D.make C us [])
  (B.gm.make C us []) (hb _ (Sg (s.heap.objs.size+1) :: us) B.aw L) r2 hq) λr O d=>?_))
 cases r with
 | error e=>exact hx pins σ _ _ e O B d
 | ok Y =>
  cases Y with
  | ret u =>
   obtain ⟨v,H',I3,rv,ev,q3⟩:=Bc (B.after d);subst ev;exact ⟨rv,⟨V.ref (s.heap.objs.size+1),H',I3,rfl,q3⟩⟩
  | next=>exact Tn d
  | brk=>exact Tn d
  | cont=>exact Tn d
theorem Abk (M:Mk X.K C f)(F:AE X.prog X.w X.K X.mg X.base CX k f fd ps sp)(g:Bb (k+1) X.A)(B:Gl X x)(D:X.mg x=some (.ref C))(hb:Ct X.K fd ps ds)(hd:Ar ba ds)(hx:CM CX X E)(J:PA X (e :: es) t)(L:(x == ("__debug__":Str))=false:=by decide)(O:Se (e :: es) X.env=(false,Sf e X.env) :: Se es X.env:=by rfl)(Y:(SJ pos (Se es X.env)).any (·.1)=false:=by rfl) :
  PE X (.Call (.Name x p) (e :: es) [] pos) (Nh C sp ba E t):=by
 intro pins s σ H Q I h;refine VI (ET I B D ?_ L);refine Vb (h₀:=X.base) I.ok.mod.bS M.kp (Al (J pos pins s σ H _ I h) λus s1 zz=>Az zz λvs H1 d r q=>⟨d.aw,?_⟩) O Y;exact Abj M F g hb hd hx d r q
end
section
variable {X:Cx}{CX:BA}{k:Nat}{f C:Addr}{fd:Sr}{ps ks:List Str}{sp:Sp}{E:XK}{x m:Str}{p pos apos aeO:Pos}{e o:R6}{es:List R6}{kws:List VJ}{te ta:TE}{t tk:TA}{nm:Option Str}
structure Ahs (K:R0)(fd:Sr)(ps ks:List Str)(g:List Value->List Value->List Value)(gV:List V->List V->List V):Prop where
 to:∀(s:RY)(us ws:List Value),K.In s.heap->(g us ws).length=ps.length->VH s fd ⟨us,ks.zip ws⟩ (ps.zip (g us ws))
 rel:∀{vs:List V}{us:List Value}{zs:List V}{ws:List Value},Ar vs us->Ar zs ws->Ar (gV vs zs) (g us ws)
variable {g:List Value->List Value->List Value}{gV:List V->List V->List V}
end
structure A8 (N P:List Str)(sc:Scope):Prop where
 kind:sc.kind=.function
 co:sc.isCoroutine=false
 gen:sc.isGenerator=false
 nd:N.Nodup
 pre:N.take P.length=P
 par:∀ x∈P,sc.names.lookup x=some .local\/sc.names.lookup x=some .cell
 aah:∀ y∈sc.names,y.2≠.free
theorem Ni {kindOf:Str->Option Vc}{x:Str}:∀{binds:List (Str×Value)}{m:Str->Option Value},(∀ v,(x,v) ∉ binds)->Vd kindOf binds m x=m x
 | [],_,_=>rfl
 | (n,v) :: r,m,h=>by
  unfold Vd;rw [Ni λw hw=>h w (SI _ hw)];split
  .have:x≠n:=by rintro rfl;exact h v SS
   simp [this]
  .rfl
theorem Nj {kindOf:Str->Option Vc}{x:Str}:∀{binds:List (Str×Value)}{m:Str->Option Value},(∀ v,(x,v) ∉ binds)->Ve kindOf binds m x=m x
 | [],_,_=>rfl
 | (n,v) :: r,m,h=>by
  unfold Ve;rw [Nj λw hw=>h w (SI _ hw)];split
  .rfl
  .have:x≠n:=by rintro rfl;exact h v SS
   simp [this]
theorem Nk {kindOf:Str->Option Vc}{x:Str}{v:Value}:∀{P:List Str}{vs:List Value}{i:Nat}{m:Str->Option Value},P.Nodup->P[i]?=some x->vs[i]?=some v->kindOf x=some .local ->
  Vd kindOf (P.zip vs) m x=some v
 | [],_,_,_,_,h,_,_=>by simp at h
 | _ :: _,[],_,_,_,_,h,_=>by simp at h
 | p :: P,w :: vs,0,m,nd,h1,h2,hk=>by
  simp at h1 h2;subst h1;subst h2;show Vd kindOf ((p,w) :: P.zip vs) m p=_;unfold Vd;rw [Ni λv d=>(Te.mp nd).1 (Yc d).1,if_pos hk];simp
 | p :: P,w :: vs,i+1,m,nd,h1,h2,hk=>by
  show Vd kindOf ((p,w) :: P.zip vs) m x=_;unfold Vd;exact Nk (i:=i) (Te.mp nd).2 (by simpa using h1) (by simpa using h2) hk
theorem Nl {kindOf:Str->Option Vc}{x:Str}{v:Value}:∀{P:List Str}{vs:List Value}{i:Nat}{m:Str->Option Value},P.Nodup->P[i]?=some x->vs[i]?=some v->kindOf x≠some .local ->
  Ve kindOf (P.zip vs) m x=some v
 | [],_,_,_,_,h,_,_=>by simp at h
 | _ :: _,[],_,_,_,_,h,_=>by simp at h
 | p :: P,w :: vs,0,m,nd,h1,h2,hk=>by
  simp at h1 h2;subst h1;subst h2;show Ve kindOf ((p,w) :: P.zip vs) m p=_;unfold Ve;rw [Nj λv d=>(Te.mp nd).1 (Yc d).1,if_neg hk];simp
 | p :: P,w :: vs,i+1,m,nd,h1,h2,hk=>by
  show Ve kindOf ((p,w) :: P.zip vs) m x=_;unfold Ve;exact Nl (i:=i) (Te.mp nd).2 (by simpa using h1) (by simpa using h2) hk
noncomputable def CN (N:List Str)(vs:List V):St:=vs.map some++Ss (N.length - vs.length) none
noncomputable def CB (CX:BA)(P:R7)(w:R3)(K:R0)(mg:Str->Option Value)(base:Heap)(N:List Str)(qual:Str)(scope:Scope)(f:Addr)(cd:Value)(A:Sj)(outer:List Env)(s:RY)(H:Hp)(E:XK):Cx where
 prog:=P
 w:=w
 K:=K
 mg:=mg
 base:=base
 A:=A.deeper (Uz qual scope s.heap.objs.size f cd)
 N:=N
 s₀:=s
 H₀:=H
 env:=Uz qual scope s.heap.objs.size f cd
 outer:=outer
 stack:=Uz qual scope s.heap.objs.size f cd :: outer
 ex:=[]
 calm:=true
 fn:=λ_=>true
 pn:=[]
 xe:=λe s'=>R1 (R4 P w) (A.deeper (Uz qual scope s.heap.objs.size f cd)) (leaving (Uz qual scope s.heap.objs.size f cd) e) (λ_ aB=>CX outer H s E e aB) (λe' aB=>CX outer H s E e' aB) s'
theorem Nn {sc:Scope}{n:Nat}{x:Str}(h:sc.names.lookup x=some .cell):∃ c,(Yd n sc.names []).lookup x=some c:=by have q:=Zj sc.names n [] (.inl h);exact Ye.mp q
theorem Abl {CX:BA}{P:R7}{w:R3}{K:R0}{mg:Str->Option Value}{base:Heap}{N ps:List Str}{g:Str}{d:Scope}{f:Addr}{D:Value}{A:Sj}{outer:List Env}{s O:RY}{H:Hp}{E:XK}{us:List Value}{vs:List V}(S:A8 N ps d)(hd:A.handled=none)(e0:EY P w K mg base A outer s H)(hl:vs.length=ps.length)(r:Ar vs us)(x:InCallC s s.heap.objs.size (Vd (Uz g d s.heap.objs.size f D).kindOf (ps.zip us) λ_=>none) (Yd (s.heap.objs.size+1) d.names []) (Ve (Uz g d s.heap.objs.size f D).kindOf (ps.zip us) λ_=>none) O) :
  Ad (CB CX P w K mg base N g d f D A outer s H E) [] (CN N vs) H O:=by
 have az:ps.length<=N.length:=by have:=congrArg Xf S.pre;rw [SU] at this;omega
 obtain ⟨I,tk,rfl,hk⟩:=Bi x.done;have L:∀ b:Addr,b ∉ (CB CX P w K mg base N g d f D A outer s H E).ex:=λb z=>absurd (show b∈([]:List Addr) from z) (by simp);refine ⟨⟨e0.mod,S.kind,rfl,rfl,Sh _,λy z c I B=>?_,λy hy=>?_,λy c _ h=>?_,λ_=>hd,Around.frames_deeper e0.frames,.inr ⟨rfl,rfl⟩,λb z=>absurd z (L b),e0.bs,e0.bY,λb _ _=>L b,λb z=>absurd z (L b),e0.bq,e0.cu⟩,
  rfl,e0.bare,Un.kept hk,⟨_,x.toInCall.ns,λi y v I B h3=>?_⟩,λy c h=>⟨_,x.cell y c h⟩,e0.aa.fresh (Sh _),λy c h=>?_,λp hp=>absurd (show p∈([]:List (Addr×Obj)) from hp) (by simp),e0.aa.kept hk,?_⟩
 .exact name_of_addr x.apart (UA I) (UA B)
 .have hy:d.names.lookup y=some .cell\/d.names.lookup y=some .free:=hy;rcases hy with hy | hy
  .exact Nn hy
  .exact absurd rfl (S.aah _ (UA hy))
 .exact X0 (x.above y c (UA h))
 .have J:i<vs.length:=by
   unfold CN at B;by_cases J:i<vs.length
   .exact J
   .rw [List.getElem?_append_right (by simpa using J)] at B;rw [List.getElem?_replicate] at B;split at B<;>cases B
  have ha:vs[i]?=some v:=by
   unfold CN at B;rw [Zk (by simpa using J),SK] at B;cases e:vs[i]? with
   | none=>rw [e] at B;cases B
   | some a=>rw [e] at B;cases B;rfl
  obtain ⟨u,hu,rv⟩:=Am (r.get ha);have hp:ps[i]?=some y:=by rw [<- S.pre,List.getElem?_take_of_lt (by omega)];exact I
  have Y:ps.Nodup:=by rw [<- S.pre];exact S.nd.sublist (Xg _ _)
  refine ⟨u,rv,?_⟩;rcases S.par y (SV hp) with k | k
  .exact .inl ⟨k,Nk Y hp hu k⟩
  .obtain ⟨c,e⟩:=Nn (n:=s.heap.objs.size+1) k;refine .inr ⟨.inl k,c,e,?_⟩;have q:=x.cell y c e;rw [Nl Y hp hu (by show d.names.lookup y≠_;rw [k];decide)] at q;exact q
 .exact e0.aa.fresh (X0 (x.above y c (UA h)))
 .unfold CN;show _=N.length;rw [SF,R5,Ud];omega
theorem Np {CX:BA}{P:R7}{w:R3}{K:R0}{mg:Str->Option Value}{base:Heap}{k:Nat}{f:Addr}{name g:Str}{p:Arguments}{body:List Stmt}{d:Scope}{dV kV O pm D ct oc:Value}{an od:Option Addr}{dA:Array (Option Value)}{N ps:List Str}{sp:Sp}(lk:K.lookup f=some ⟨oc,od,.func (TZ name g p body d dV kV O pm an D ct),dA⟩)(cF:UP K D g=true)(S:A8 N ps d)(len:∀ vs H Q E,sp vs H Q E->vs.length=ps.length)(gq:∀ (A:Sj) (outer:List Env) (s:RY) (H:Hp) (vs:List V) (Q:VK) (E:XK),Bb k (A.deeper (Uz g d s.heap.objs.size f D))->sp vs H Q E ->
   ∃ t,Cr (CB CX P w K mg base N g d f D A outer s H E) body t/\t { nx:=λ_ B=>Q .ae B,rt:=Q } (CN N vs) H) :
  AE P w K mg base CX (k+1) f (TZ name g p body d dV kV O pm an D ct) ps sp:=by
 refine ⟨len,λA outer s H args us vs Q E hr Y hb r c6=>?_⟩;have hl:=len _ _ _ _ c6;have KX:K.In s.heap:=Y.mod.bS.keeps λb o e=>(Y.bs b o e).1;have lim:s.heap.NoLimit:=Y.mod.nolimit.keeps λb o e=>(Y.bs b o e).1;have aai:∀ y∈ps.zip us,d.names.lookup y.1=some .local\/(d.names.lookup y.1=some .cell/\((Yd (s.heap.objs.size+1) d.names []).lookup y.1).isSome=true):=λ⟨n,v⟩ hy=>by
  rcases S.par n (Yc hy).1 with q | q
  .exact .inl q
  .exact .inr ⟨q,Zj _ _ _ (.inl q)⟩
 refine codeAny_call_function hr.depth (KX _ _ lk) rfl S.co S.gen rfl (PySem.W.codeRec_of KX cF) (hb _ _ _ _ ?_);refine wpAny_newFunctionEnv_cells S.kind aai λenv he s1 x=>?_;subst he;refine ⟨lim.keeps x.toInCall.keep,codeAny_func ?_⟩;obtain ⟨t,ht,hq⟩:=Am (gq A outer s H vs Q E (hr.deeper _) c6);have I:Ad (CB CX P w K mg base N g d f D A outer s H E) [] (CN N vs) H s1:=Abl S hr.hd Y hl r x;refine TV (ht [] s1 (CN N vs) H _ I hq) (λfl s' L=>?_) λe s' L=>L;have fin:∀{σ':St}{B:Hp}{v:V}{u:Value},Ad (CB CX P w K mg base N g d f D A outer s H E) [] σ' B s'->AB v u->Q v B->CE outer P w H s Q u s' :=
  λ{σ' B v u} J rv q=>⟨v,B,J.os,J.bare,J.base,J.aa,rv,q⟩
 cases fl with
 | ret u =>
  obtain ⟨v,σ',B,J,rv,q⟩:=Cq L;exact fin J rv q
 | next =>
  obtain ⟨σ',B,J,q⟩:=Bi L;exact fin (v:=V.ae) (u:=SW) J rfl q
 | brk =>
  obtain ⟨_,_,_,q⟩:=Bi L;exact Tn q
 | cont =>
  obtain ⟨_,_,_,q⟩:=Bi L;exact Tn q
section
variable {X:Cx}{x:Str}{p pos:Pos}{e:R6}{es:List R6}{t:TA}{id T:String}{r:List V->Hp->VK->Prop}
def HL (r:List V->Hp->VK->Prop)(t:TA):TE:=λσ H Q=>t σ H λvs H1=>r vs H1 Q
theorem Abm (hc:Bq X (.builtin id) r)(d:Gl X x)(g:X.mg x=none)(B:Ta x=some (.builtin id))(D:PA X (e :: es) t)(hn:x≠"__name__":=by decide)(J:(x == ("__debug__":Str))=false:=by decide)(L:Se (e :: es) X.env=(false,Sf e X.env) :: Se es X.env:=by rfl)(O:(SJ pos (Se es X.env)).any (·.1)=false:=by rfl):PE X (.Call (.Name x p) (e :: es) [] pos) (HL r t):=by intro pins s σ H Q I h;refine VI (EU I d g B ?_ hn J);exact PyProof.Rows.callWith_builtin1 (Al (D pos pins s σ H _ I h) λY s1 zz=>Az zz λvs H1 I1 r1 q1=>hc pins s1 σ H1 vs Y Q I1 r1 q1) L O
theorem Abn (hc:Bq X (.type T) r)(d:Gl X x)(g:X.mg x=none)(B:Ta x=some (.type T))(D:PA X (e :: es) t)(hn:x≠"__name__":=by decide)(J:(x == ("__debug__":Str))=false:=by decide)(L:Se (e :: es) X.env=(false,Sf e X.env) :: Se es X.env:=by rfl)(O:(SJ pos (Se es X.env)).any (·.1)=false:=by rfl):PE X (.Call (.Name x p) (e :: es) [] pos) (HL r t):=by intro pins s σ H Q I h;refine VI (EU I d g B ?_ hn J);exact WA (Al (D pos pins s σ H _ I h) λY s1 zz=>Az zz λvs H1 I1 r1 q1=>hc pins s1 σ H1 vs Y Q I1 r1 q1) L O
end
end L2
namespace HT
open PySem PyProof.Rows
section
open PySem.SeqAt
open PySem.AutoSeq1 (wpAny_loadPart')
open PySem.MeetsSeq PySem.MeetsSeq2 PySem.MeetsSeq3
end
section
variable {prog:R7}{w:R3}{A:Sj}{E:Value->RY->Prop}{s:RY}
noncomputable def aA (n d:Nat):Option Int->Nat
 | none=>d
 | some v=>if v<0 then (v+(n:Int)).toNat else min v.toNat n
theorem m8 (n d:Nat):aA n d none=d:=rfl
theorem m9 (n d k:Nat):aA n d (some (k:Int))=min k n:=by show (if (k:Int)<0 then ((k:Int)+(n:Int)).toNat else min (k:Int).toNat n)=min k n;rw [if_neg (by omega),T8]
theorem nj (n d:Nat)(hd:d<=n)(o:Option Int):aA n d o<=n:=by
 cases o with
 | none=>exact hd
 | some v =>
  show (if v<0 then (v+(n:Int)).toNat else min v.toNat n)<=n;by_cases g:v<0
  .rw [if_pos g];omega
  .rw [if_neg g];exact Nat.min_le_right _ _
theorem aaj (v:Int)(n d:Nat):(if v<0 then max (v+(n:Int)) 0 else min v (n:Int))=((aA n d (some v):Nat):Int):=by
 show (if v<0 then max (v+(n:Int)) 0 else min v (n:Int))=(((if v<0 then (v+(n:Int)).toNat else min v.toNat n):Nat):Int);by_cases g:v<0
 .simp only [if_pos g];omega
 .simp only [if_neg g];omega
end
end HT
namespace L2
open PySem PySem.Spec PyProof.Rows
abbrev TO:=St->Hp->(Option Int->Hp->Prop)->Prop
def PO (X:Cx)(e:Option R6)(t:TO):Prop :=
 ∀(pins:List (Addr×Obj))(s:RY)(σ:St)(H:Hp)(Q:Option Int->Hp->Prop),Ad X pins σ H s->t σ H Q ->
  R1 (R4 X.prog X.w) X.A (evalPart e X.env) (λu s'=>∃ o H',Ad X pins σ H' s'/\IsPart u o/\Q o H') X.xe s
def Abo:TO:=λ_ H Q=>Q none H
def Abp (t:TE):TO:=λσ H Q=>t σ H λx H1=>∃ i,x=.int i/\Q (some i) H1
section
variable {X:Cx}{e:R6}{te:TE}{lo hi:Option R6}{tl th:TO}{pos p2:Pos}
theorem BM:PO X none Abo:=by intro pins s σ H Q I h;rw [evalPart_none];exact Sb ⟨none,H,I,.none,h⟩
theorem BE (h:PE X e te):PO X (some e) (Abp te):=by
 intro pins s σ H Q I hw;rw [evalPart_some];refine Al (h pins s σ H _ I hw) λu J g=>Az g λx p B D d=>?_;replace d:=Am d;obtain ⟨i,rfl,q⟩:=d
 obtain ⟨t,rfl⟩:=D;exact ⟨some i,p,B,.int i t,q⟩
def D1 (X:Cx)(r:V->Option Int->Option Int->Hp->VK->Prop):Prop :=
 ∀(pins:List (Addr×Obj))(s:RY)(σ:St)(H:Hp)(x:V)(v vl vu:Value)(lo hi:Option Int)(sl:Addr)(Q:VK),Ad X pins σ H s->AB x v->s.heap.IsSliceOf sl vl vu .none->IsPart vl lo->IsPart vu hi->r x lo hi H Q ->
  ∃ T id,typeLookup (.type T) "__getitem__"=pure (some (.builtin id))/\s.TypeIs v T/\R1 (R4 X.prog X.w) X.A (WE v (.ref sl)) (EP X pins σ Q) X.xe s
theorem D1.or {r d:V->Option Int->Option Int->Hp->VK->Prop}(h:D1 X r)(h':D1 X d):D1 X (λx lo hi H Q=>r x lo hi H Q\/d x lo hi H Q):=by
 intro pins s σ H x v g p lo hi B Q I D J pl L q;rcases q with q | q
 .exact h pins s σ H x v g p lo hi B Q I D J pl L q
 .exact h' pins s σ H x v g p lo hi B Q I D J pl L q
def tSl (r:V->Option Int->Option Int->Hp->VK->Prop)(te:TE)(tl th:TO):TE:=λσ H Q=>te σ H λx H1=>tl σ H1 λl H2=>th σ H2 λu H3=>r x l u H3 Q
theorem BH {r:V->Option Int->Option Int->Hp->VK->Prop}(J:D1 X r)(L:PE X e te)(O:PO X lo tl)(hu:PO X hi th):PE X (.Subscript e (.Slice lo hi none p2) pos) (tSl r te tl th):=by intro pins s σ H Q I h;refine Yf (Al (L pins s σ H _ I h) λv Y g=>Az g λx H1 I1 r1 q1=>?_);refine wpAny_Slice (Al (O pins Y σ H1 _ I1 q1) λp s2 g=>Az g λl H2 I2 pl q2=>Al (hu pins s2 σ H2 _ I2 q2) λB d g=>Az g λu D I3 pu q3=>?_);rw [evalPart_none];refine Sb ?_;have I4:Ad X pins σ D { d with heap:=d.heap.push { cls:=.type "slice",data:=.fields #[p,B,.none] } }:=I3.kept (t':=d.toks) λb ob q=>Sq _ q;obtain ⟨T,id,hT,ht,hg⟩:=Bc (J pins { d with heap:=d.heap.push { cls:=.type "slice",data:=.fields #[p,B,.none] } } σ D x v p B l u d.heap.objs.size Q I4 r1 (Heap.IsSliceOf.new ..) pl pu q3);show R1 (R4 X.prog X.w) X.A (Yg e (.Slice lo hi none p2) v (.ref d.heap.objs.size)) (EP X pins σ Q) X.xe { d with heap:=d.heap.push { cls:=.type "slice",data:=.fields #[p,B,.none] } };exact tail_any (ops:=[.ref d.heap.objs.size,v]) ht hT hg (by with_unfolding_all rfl)
noncomputable def CC (xs:List V)(lo hi:Option Int):List V:=(xs.drop (HT.aA xs.length 0 lo)).take (HT.aA xs.length xs.length hi - HT.aA xs.length 0 lo)
theorem Abq (xs:List V)(lo hi:Option Int):(CC xs lo hi).length<=xs.length:=by unfold CC;rw [SU,Ue];omega
end
noncomputable def EZ (n:Nat)(i:Int):Option Nat:=if 0<=i then (if i<n then some i.toNat else none) else if -(n:Int)<=i then some (i+n).toNat else none
noncomputable def BI {α:Type}(xs:List α)(i:Int):Option α:=(EZ xs.length i).bind λj=>xs[j]?
theorem Abr {n:Nat}{i:Int}{j:Nat}(h:EZ n i=some j):seqIndex? i n=some j/\j<n/\-(n:Int)<=i/\i<n:=by
 unfold EZ at h;by_cases g:0<=i
 .rw [if_pos g] at h;by_cases d:i<n
  .rw [if_pos d] at h;have e:i.toNat=j:=TU h;exact ⟨by rw [seqIndex_of g d,e],by omega,by omega,d⟩
  .rw [if_neg d] at h;cases h
 .rw [if_neg g] at h;by_cases d:-(n:Int)<=i
  .rw [if_pos d] at h;have e:(i+n).toNat=j:=TU h;exact ⟨by rw [seqIndex_neg (by omega) d,e],by omega,d,by omega⟩
  .rw [if_neg d] at h;cases h
theorem JY {α:Type}{xs:List α}{i:Int}{v:α}(h:BI xs i=some v):∃ j,seqIndex? i xs.length=some j/\xs[j]?=some v/\j<xs.length/\-(xs.length:Int)<=i/\i<xs.length:=by
 unfold BI at h;cases e:EZ xs.length i with
 | none=>rw [e] at h;cases h
 | some j =>
  rw [e] at h;obtain ⟨d,g,p,B⟩:=AJ (Abr e);exact ⟨j,d,h,g,p,B⟩
theorem Gy {α:Type}{xs:List α}{j:Nat}{v:α}(h:xs[j]?=some v):BI xs (j:Int)=some v:=by
 have d:j<xs.length:=(TL.mp h).1;have e:EZ xs.length (j:Int)=some j:=by unfold EZ;rw [if_pos (by omega),if_pos (by omega)];simp
 unfold BI;rw [e];exact h
def Abs (b:R6):Prop:=∀ o i,Xh b false o i=operate [o,i] (WE o i)
def DH (X:Cx)(r:R2):Prop :=
 ∀(value slice:R6)(pins:List (Addr×Obj))(s:RY)(σ:St)(H:Hp)(x y:V)(v u:Value)(Q:VK),Ad X pins σ H s->AB x v->AB y u->r x y H Q ->
  Xh slice false v u=operate [v,u] (WE v u)->R1 (R4 X.prog X.w) X.A (Yg value slice v u) (EP X pins σ Q) X.xe s
def JZ (X:Cx)(id:String)(r:V->List V->Hp->VK->Prop):Prop :=
 ∀(pins:List (Addr×Obj))(s:RY)(σ:St)(H:Hp)(x:V)(xs:List V)(v:Value)(us:List Value)(Q:VK),Ad X pins σ H s->AB x v->Ar xs us->r x xs H Q ->
  R1 (R4 X.prog X.w) X.A (call (.builtin id) (v :: us)) (EP X pins σ Q) X.xe s
section
variable {X:Cx}{a b:R6}{ta tb:TE}{pos:Pos}
theorem DH.or {r d:R2}(h:DH X r)(h':DH X d):DH X (λx y H Q=>r x y H Q\/d x y H Q):=by
 intro value slice pins s σ H x y v u Q I g p q B;rcases q with q | q
 .exact h value slice pins s σ H x y v u Q I g p q B
 .exact h' value slice pins s σ H x y v u Q I g p q B
theorem As {r:R2}(d:DH X r)(g:PE X a ta)(hb:PE X b tb)(hs:Abs b):PE X (.Subscript a b pos) (Hx r ta tb):=by intro pins s σ H Q I h;exact Yf (JP g hb I h λv u p x y B D J L q=>d a b pins p σ B x y v u Q D J L q (hs _ _))
def Nq (K:R0):R2:=λx y H Q=>∃ p xs i v,x=.ref p/\y=.int i/\AZ K H p xs/\BI xs i=some v/\Q v H
def Nr (K:R0):R2:=λx y H Q=>∃ p xs i v,x=.ref p/\y=.int i/\A5 K H p xs/\BI xs i=some v/\Q v H
def Nt:R2:=λx y H Q=>∃ z i c,x=.str z/\y=.int i/\z.length<=sizeLine/\BI z.cps.toList i=some c/\Q (.str ⟨#[c]⟩) H
theorem Abt:DH X (Nq X.K):=by
 intro value slice pins s σ H x y v u Q I O V h D;replace h:=Df h;obtain ⟨p,xs,i,z,rfl,rfl,hq,Y,q⟩:=h
 cases O;obtain ⟨t,rfl⟩:=V;obtain ⟨its,r,pl,hz⟩:=Ax (I.list hq);obtain ⟨j,g,h2,h3,h4,h5⟩:=Ax (JY Y);obtain ⟨w,J,cv⟩:=Am (r.get h2);have hl:=r.length;have hn:=FI;have d:EP X pins σ Q w s:=⟨z,H,I,cv,q⟩;by_cases L:0<=i
 .have B:i.toNat=j:=by
   rw [seqIndex_of L h5] at g;exact TU g
  exact item_listR pl.isList L (by omega) (by rw [B];simpa using J) d D
 .have B:(i+(its.toArray.size:Int)).toNat=j:=by
   rw [seqIndex_neg (by omega) h4] at g;rw [SY,<- hl];exact TU g
  exact Zl (x:=w) pl.isList.typeIs Zm.lookup
   (wpAny_getItem_list_neg (Q:=λr s'=>r=w/\EP X pins σ Q r s') pl.isList (by omega) (by rw [SY]<;>omega) (by omega) (by rw [B];simpa using J) ⟨rfl,d⟩) D
theorem Abu:DH X (Nr X.K):=by
 intro value slice pins s σ H x y v u Q I g B h D;replace h:=Df h;obtain ⟨p,xs,i,z,rfl,rfl,hq,J,q⟩:=h
 cases g;obtain ⟨t,rfl⟩:=B;obtain ⟨its,r,pl,hz⟩:=Ax (I.tuple hq);obtain ⟨j,L,O,h3,h4,h5⟩:=Ax (JY J);obtain ⟨w,V,Y⟩:=Am (r.get O);have hl:=r.length;have hn:=FI;have d:EP X pins σ Q w s:=⟨z,H,I,Y,q⟩;exact Zl (x:=w) pl.typeIs slot_tuple_getitem.lookup
  (getItem_tuple (j:=j) (Q:=λr s'=>r=w/\EP X pins σ Q r s') pl (by omega) (by omega) (by rw [SY,<- hl];exact L) (by simpa using V) ⟨rfl,d⟩) D
theorem Abv:DH X Nt:=by
 intro value slice pins s σ H x y v u Q I g p h B;replace h:=Em h;obtain ⟨z,i,c,rfl,rfl,hz,D,q⟩:=h
 obtain ⟨t,rfl⟩:=g;obtain ⟨t',rfl⟩:=p;obtain ⟨j,d,J,h3,L,O⟩:=Ax (JY D);have V:z.cps.toList.length=z.length:=by simp [VL]
 rw [V] at d L O;have hn:=FI;exact tail_any (VM s z t) slot_str_getitem.lookup (getItem_str (c:=c) (by
  have Y:decide (i < -(2 ^ 63:Int))=false:=decide_eq_false (by omega);have e2:decide (i ≥ 2 ^ 63)=false:=decide_eq_false (by omega);rw [Y,e2,Bool.or_false]) (by rw [d];simpa using J) ⟨.str ⟨#[c]⟩,H,I.tok _,⟨_,rfl⟩,q⟩) B
def Nu (K:R0):R2:=λx y H Q=>Nq K x y H Q\/Nr K x y H Q\/Nt x y H Q
theorem Aw:DH X (Nu X.K):=Abt.or (Abu.or Abv)
theorem Abw (lo hi:Option Int)(n:Nat):(VN lo hi none n).1=((HT.aA n 0 lo:Nat):Int)/\(VN lo hi none n).2.1=((HT.aA n n hi:Nat):Int)/\(VN lo hi none n).2.2=1:=by
 refine ⟨?_,?_,rfl⟩
 .cases lo with
  | none=>simp [VN,HT.aA]
  | some i =>
   simp only [VN,HT.aA,Yh,show (1:Int) > 0 by decide,if_true];by_cases h:i<0
   .simp only [h,if_true]<;>omega
   .simp only [h,if_false]<;>omega
 .cases hi with
  | none=>simp [VN,HT.aA]
  | some i =>
   simp only [VN,HT.aA,Yh,show (1:Int) > 0 by decide,if_true];by_cases h:i<0
   .simp only [h,if_true]<;>omega
   .simp only [h,if_false]<;>omega
theorem Abx (its:List Value)(lo hi:Option Int):slicePick its.toArray lo hi none=((its.drop (HT.aA its.length 0 lo)).take (HT.aA its.length its.length hi - HT.aA its.length 0 lo)).toArray:=by obtain ⟨d,g,p⟩:=AJ (Abw lo hi its.toArray.size);unfold slicePick;rw [d,g,p];simp only [sliceRange_one,pick_run,SY]<;>rfl
def J0 (K:R0):V->Option Int->Option Int->Hp->VK->Prop:=λx lo hi H Q=>∃ a xs,x=.ref a/\AZ K H a xs/\∀ p,H p=none->Q (.ref p) (upd H p (.lst (CC xs lo hi)))
theorem Aby:D1 X (J0 X.K):=by
 intro pins s σ H x v V Y lo p sl Q I D J pl L h;replace h:=Bc h;obtain ⟨a,d,rfl,hx,q⟩:=h
 cases D;obtain ⟨its,r,B,O⟩:=Ax (I.list hx);have g:=r.length;refine ⟨"list",_,Zm.lookup,B.isList.typeIs,?_⟩;refine wpAny_getItem_list_slice B.isList J pl L .none (by simp) ?_ (by rw [SY]<;>omega);rw [Abx,<- g];refine ⟨.ref s.heap.objs.size,_,I.laid (t':=s.toks) (o:=.lst (CC d lo p)) (λb ob q=>Sq _ q) (Sh _) ?_,rfl,q _ (I.aa.fresh (Sh _))⟩;exact ⟨Sy (Abq d lo p) O,_,0,(r.drop (HT.aA d.length 0 lo)).take (HT.aA d.length d.length p - HT.aA d.length 0 lo),SO _ rfl⟩
noncomputable def D3:V->Bool
 | .ae=>true
 | .bl _=>true
 | .int _=>true
 | .str _=>true
 | _=>false
noncomputable def DI:V->V->Bool
 | .ae,.ae=>true
 | .bl a,.bl b=>a == b
 | .bl a,.int b=>(if a then 1 else 0) == b
 | .int a,.bl b=>a == (if b then 1 else 0)
 | .int a,.int b=>a == b
 | .str a,.str b=>a == b
 | _,_=>false
theorem Abz {A:Sj}{s:RY}{y x:V}{u v:Value}(p:AB y u)(d:AB x v)(D:D3 y=true)(B:D3 x=true):SeqAt.EqAt A s u v (DI y x):=by
 cases y with
 | ae =>
  cases p;cases x with
  | ae=>cases d;exact SeqAt.EqAt.same _
  | bl b=>cases d;exact SeqAt.EqAt.none_bool b
  | int b=>obtain ⟨t,rfl⟩:=d;exact SeqAt.EqAt.none_int b t
  | str b=>obtain ⟨t,rfl⟩:=d;exact SeqAt.EqAt.none_str b t
  | _=>exact absurd (show false=true from B) S8
 | bl a =>
  cases p;cases x with
  | ae=>cases d;exact SeqAt.EqAt.bool_none a
  | bl b=>cases d;exact SeqAt.EqAt.bool_bool a b
  | int b=>obtain ⟨t,rfl⟩:=d;exact SeqAt.EqAt.bool_int a b t
  | str b=>obtain ⟨t,rfl⟩:=d;exact SeqAt.EqAt.bool_str a b t
  | _=>exact absurd (show false=true from B) S8
 | int a =>
  obtain ⟨g,rfl⟩:=p;cases x with
  | ae=>cases d;exact SeqAt.EqAt.int_none a g
  | bl b=>cases d;exact SeqAt.EqAt.int_bool a g b
  | int b=>obtain ⟨t,rfl⟩:=d;exact SeqAt.EqAt.int_int a g b t
  | str b=>obtain ⟨t,rfl⟩:=d;exact Y9 a g b t
  | _=>exact absurd (show false=true from B) S8
 | str a =>
  obtain ⟨g,rfl⟩:=p;cases x with
  | ae=>cases d;exact SeqAt.EqAt.str_none a g
  | bl b=>cases d;exact SeqAt.EqAt.str_bool a g b
  | int b=>obtain ⟨t,rfl⟩:=d;exact Za a g b t
  | str b=>obtain ⟨t,rfl⟩:=d;exact SeqAt.EqAt.str_str a g b t
  | _=>exact absurd (show false=true from B) S8
 | _=>exact absurd (show false=true from D) S8
noncomputable def CO (x:V)(u:Value):Bool:=match u with
 | .none=>DI .ae x
 | .bool b=>DI (.bl b) x
 | .int i _=>DI (.int i) x
 | .str z _=>DI (.str z) x
 | _=>false
theorem Nv {x y:V}{u:Value}(r:AB y u)(f:D3 y=true):CO x u=DI y x:=by
 cases y with
 | ae=>cases r;rfl
 | bl b=>cases r;rfl
 | int i=>obtain ⟨t,rfl⟩:=r;rfl
 | str z=>obtain ⟨t,rfl⟩:=r;rfl
 | _=>exact absurd (show false=true from f) S8
theorem Gz {x:V}:∀{xs:List V}{us:List Value},Ar xs us->xs.all D3=true->us.any (CO x)=xs.any λy=>DI y x
 | _,_,.nil,_=>rfl
 | y :: xs,u :: us,.cons r t,f=>by
  rw [List.all_cons,Ug] at f;rw [WG,WG,Nv r f.1,Gz t f.2]
theorem GA {A:Sj}{s:RY}{x:V}{v:Value}(d:AB x v)(g:D3 x=true):∀{xs:List V}{us:List Value},Ar xs us->xs.all D3=true->∀ u∈us,SeqAt.EqAt A s u v (CO x u)
 | _,_,.nil,_=>λu hu=>by cases hu
 | y :: xs,u :: us,.cons r t,f=>λp hu=>by
  rw [List.all_cons,Ug] at f;rcases Si.mp hu with rfl | hu
  .rw [Nv r f.1];exact Abz r d f.1 g
  .exact GA d g t f.2 p hu
def Ex (x:V)(xs:List V):Bool:=xs.any λy=>DI y x
def FJ (K:R0)(neg:Bool):R2:=λx y H Q=>∃ p xs,y=.ref p/\(AZ K H p xs\/A5 K H p xs)/\D3 x=true/\xs.all D3=true/\Q (.bl (if neg then !Ex x xs else Ex x xs)) H
theorem AbA:AU X (S1 .In) (FJ X.K false):=by
 intro pins s σ H x y v u Q I d B h;replace h:=FA h;obtain ⟨p,J,rfl,hq,g,fs,q⟩:=h
 cases B;rcases hq with hq | hq
 .obtain ⟨its,r,pl,D⟩:=Ax (I.list hq);refine SeqAt.in_listAt (CO x) pl.isList (λw hw=>GA d g r fs w (by simpa using hw)) ⟨.bl _,H,I,rfl,?_⟩;rw [show its.toArray.any (CO x)=its.any (CO x) by simp,Gz r fs];exact q
 .obtain ⟨its,r,pl,D⟩:=Ax (I.tuple hq);refine SeqAt.in_tupleAt (CO x) pl (λw hw=>GA d g r fs w (by simpa using hw)) ⟨.bl _,H,I,rfl,?_⟩;rw [show its.toArray.any (CO x)=its.any (CO x) by simp,Gz r fs];exact q
theorem AbB:AU X (S1 .NotIn) (FJ X.K true):=by
 intro pins s σ H x y v u Q I d B h;replace h:=FA h;obtain ⟨p,J,rfl,hq,g,fs,q⟩:=h
 cases B;rcases hq with hq | hq
 .obtain ⟨its,r,pl,D⟩:=Ax (I.list hq);refine SeqAt.notIn_listAt (CO x) pl.isList (λw hw=>GA d g r fs w (by simpa using hw)) ⟨.bl _,H,I,rfl,?_⟩;rw [show its.toArray.any (CO x)=its.any (CO x) by simp,Gz r fs];exact q
 .obtain ⟨its,r,pl,D⟩:=Ax (I.tuple hq);refine SeqAt.notIn_tupleAt (CO x) pl (λw hw=>GA d g r fs w (by simpa using hw)) ⟨.bl _,H,I,rfl,?_⟩;rw [show its.toArray.any (CO x)=its.any (CO x) by simp,Gz r fs];exact q
theorem AbC:AU X (S1 .NotIn) (λx y H Q=>∃ i j,x=.str i/\y=.str j/\Q (.bl (!(!(X7 j i 0 j.length 1).isEmpty))) H):=by
 intro pins s σ H x y v u Q I d g h;replace h:=Bc h;obtain ⟨i,j,rfl,rfl,q⟩:=h
 obtain ⟨t,rfl⟩:=d;obtain ⟨p,rfl⟩:=g;exact notIn_str ⟨.bl _,H,I,rfl,q⟩
theorem AbD:Bq X (.builtin "len") (λxs H Q=>∃ p ys,xs=[.ref p]/\(AZ X.K H p ys\/A5 X.K H p ys)/\Q (.int ys.length) H):=by
 intro pins s σ H xs J Q I r h;replace h:=Bc h;obtain ⟨p,ys,rfl,hq,q⟩:=h
 obtain ⟨u,rfl,B⟩:=Am (CL r);cases B;have hn:=FI;rcases hq with hq | hq
 .obtain ⟨its,g,pl,D⟩:=Ax (I.list hq);have d:=g.length;exact Calls.call_len_list pl.isList (by simp only [SY]<;>omega) ⟨.int ys.length,H,I.tok _,⟨s.toks+1,by rw [SY,d]⟩,q⟩
 .obtain ⟨its,g,pl,D⟩:=Ax (I.tuple hq);have d:=g.length;exact len_tuple pl (by simp only [SY]<;>omega) ⟨.int ys.length,H,I.tok _,⟨s.toks+1,by rw [SY,d]⟩,q⟩
theorem AbE:Bq X (.builtin "len") (λxs H Q=>∃ z,xs=[.str z]/\z.length<=sizeLine/\Q (.int z.length) H):=by
 intro pins s σ H xs d Q I r h;replace h:=Ax h;obtain ⟨z,rfl,g,q⟩:=h
 obtain ⟨u,rfl,t,rfl⟩:=Am (CL r);have hn:=FI;exact len_str (by omega) ⟨.int z.length,H,I.tok _,⟨_,rfl⟩,q⟩
theorem Bq.or {f:Value}{r d:List V->Hp->VK->Prop}(h:Bq X f r)(h':Bq X f d):Bq X f (λxs H Q=>r xs H Q\/d xs H Q):=by
 intro pins s σ H xs g Q I p q;rcases q with q | q
 .exact h pins s σ H xs g Q I p q
 .exact h' pins s σ H xs g Q I p q
theorem AbF:Bq X (.type "list") (λxs H Q=>∃ p ys,xs=[.ref p]/\(AZ X.K H p ys\/A5 X.K H p ys)/\∀ l,H l=none->Q (.ref l) (upd H l (.lst ys))):=by
 intro pins s σ H xs us Q I r h;replace h:=Bc h;obtain ⟨p,ys,rfl,hq,q⟩:=h
 obtain ⟨u,rfl,Y⟩:=Am (CL r);cases Y;have B:∀(its:List Value),Ar ys its->ys.length<=sizeLine->∀(d:Heap)(c':Nat),(∀ b V,s.heap.get? b=some V->d.get? b=some V) ->
   d.get? s.heap.objs.size=some { cls:=.type "list",dict:=none,data:=.seq its.toArray c',slots:=#[] }->EP X pins σ Q (.ref s.heap.objs.size) { s with heap:=d }:=λits g D d c' J e =>
  ⟨.ref s.heap.objs.size,_,I.laid (t':=s.toks) J (Sh _) (show A4 X.prog X.w _ d _ (.lst ys) from ⟨D,its,c',g,e⟩),rfl,q _ (I.aa.fresh (Sh _))⟩
 rcases hq with hq | hq
 .obtain ⟨its,g,pl,D⟩:=Ax (I.list hq);have L:=g.length;obtain ⟨o,O,hc,n,hd⟩:=Ax pl.isList;exact call_list_seq p (.inl rfl) O hc hd (λd c' J e=>B its g D d c' J e) (by simp only [SY]<;>omega)
 .obtain ⟨its,g,pl,D⟩:=Ax (I.tuple hq);have L:=g.length;obtain ⟨o,O,hc,n,hd⟩:=Ax pl;exact call_list_seq p (.inr rfl) O hc hd (λd c' J e=>B its g D d c' J e) (by simp only [SY]<;>omega)
theorem HM:Bq X (.type "tuple") (λxs H Q=>∃ p ys,xs=[.ref p]/\((AZ X.K H p ys/\∀ l,H l=none->Q (.ref l) (upd H l (.tup ys)))\/(A5 X.K H p ys/\Q (.ref p) H))):=by
 intro pins s σ H xs Y Q I r h;replace h:=Bi h;obtain ⟨p,ys,rfl,h⟩:=h
 obtain ⟨u,rfl,L⟩:=Am (CL r);cases L;rcases h with ⟨hq,q⟩ | ⟨hq,q⟩
 .obtain ⟨its,g,pl,B⟩:=Ax (I.list hq);have D:=g.length;refine call_tuple_list pl.isList (λd O=>?_) (by simp only [SY]<;>omega);have J:Ad X pins σ H { s with heap:=d }:=I.kept (t':=s.toks) O;have V:Ad X pins σ (upd H d.objs.size (.tup ys)) { s with heap:=d.push { cls:=.type "tuple",data:=.seq its.toArray } } :=
   J.laid (t':=s.toks) (λb o e=>Sq _ e) (Sh _) (show A4 X.prog X.w _ _ _ (.tup ys) from ⟨B,its,g,IsTup.new _ _⟩)
  exact ⟨.ref d.objs.size,_,V,rfl,q _ (J.aa.fresh (Sh _))⟩
 .obtain ⟨its,g,pl,B⟩:=Ax (I.tuple hq);exact call_tuple_same pl ⟨.ref p,H,I,rfl,q⟩
def Nw (K:R0)(T:String)(x:V)(H:Hp):Prop:=match x with
 | .str _=>T="str"
 | .int _=>T="int"
 | .ref p=>(T="list"/\∃ xs,AZ K H p xs)\/(T="tuple"/\∃ o,K.lookup p=some o/\o.cls=.type "tuple"/\o.dict=none) \/
   (T="dict"/\((∃ kvs,H p=some (.dK kvs))\/∃ kvs,H p=some (.dT kvs)))\/(T="set"/\∃ S n,H p=some (.set S n))
 | _=>False
theorem AbG {pins:List (Addr×Obj)}{σ:St}{H:Hp}{s:RY}{T:String}{x:V}{v:Value}(I:Ad X pins σ H s)(r:AB x v)(ty:Nw X.K T x H) :
  s.TypeIs v T/\∀ a,v=.ref a->∃ B,s.heap.get? a=some B/\B.dict=none:=by
 cases x with
 | str z =>
  obtain ⟨t,rfl⟩:=r;cases (show T="str" from ty);exact ⟨VM s z t,λ_ e=>nomatch e⟩
 | int i =>
  obtain ⟨t,rfl⟩:=r;cases (show T="int" from ty);exact ⟨Yi s i t,λ_ e=>nomatch e⟩
 | ref p =>
  cases r;rcases ty with ⟨rfl,D,hq⟩ | ⟨rfl,o,hk,hc,hd⟩ | ⟨rfl,hk⟩ | ⟨rfl,S,n,hk⟩
  .obtain ⟨its,_,pl,_⟩:=Ax (I.list hq);refine ⟨pl.isList.typeIs,λa e=>?_⟩;cases e;obtain ⟨o,n,e,c,hd,_⟩:=Bc pl;exact ⟨o,e,hd⟩
  .refine ⟨⟨o,I.aw p o hk,hc⟩,λa e=>?_⟩;cases e;exact ⟨o,I.aw _ o hk,hd⟩
  .have z:∃ o,s.heap.get? p=some o/\o.ExactDict:=by
    rcases hk with ⟨d,hk⟩ | ⟨d,hk⟩
    .obtain ⟨_,_,_,_,o,_,_,e,ex,_⟩:=AJ (I.aa p _ hk);exact ⟨o,e,ex⟩
    .obtain ⟨_,_,_,_,o,_,_,e,ex,_⟩:=AJ (I.aa p _ hk);exact ⟨o,e,ex⟩
   obtain ⟨o,e,ex⟩:=Am z;refine ⟨⟨o,e,ex.1⟩,λa g=>?_⟩;cases g;exact ⟨o,e,ex.2.1⟩
  .obtain ⟨o,_,_,_,e,ex,_⟩:=Df (I.aa p _ hk);refine ⟨⟨o,e,ex.1⟩,λa g=>?_⟩;cases g;exact ⟨o,e,ex.2.1⟩
 | _=>exact Tn ty
def tBM (K:R0)(T:String)(r:V->List V->Hp->VK->Prop)(to:TE)(t:TA):TE:=λσ H Q=>to σ H λx H1=>Nw K T x H1/\t σ H1 λxs H2=>r x xs H2 Q
variable {o e:R6}{es:List R6}{to:TE}{t:TA}{name:Str}{apos aS:Pos}{T id:String}{r:V->List V->Hp->VK->Prop}
theorem B2 (pa:PlainAttrs T)(slot:Slot T name id)(d:typeOf (.builtin id)=pure (.type "method_descriptor"))(hm:JZ X id r)(ho:PE X o to)(ha:PA X (e :: es) t)(g:WD o name X.env (Sf o X.env)=Sf o X.env:=by rfl)(p:((SJ aS (Se (e :: es) X.env)).all (λx=>!x.1) && (UN aS (UO [] X.env)).all (λx=>x.1.isSome)
   && decide ((e :: es).length+([]:List VJ).length+(if ([]:List VJ).isEmpty then 0 else 1)<30))=true:=by rfl)(B:(apos.endLine == aS.line)=true:=by rfl)(hs:Se (e :: es) X.env=(false,Sf e X.env) :: Se es X.env:=by rfl)(D:(SJ aS (Se es X.env)).any (·.1)=false:=by rfl) :
  PE X (.Call (.Attribute o name apos) (e :: es) [] aS) (tBM X.K T r to t):=by
 intro pins s σ H Q I h;refine wpAny_Call_method_late g p B rfl (Al (ho pins s σ H _ I h) λv s1 J=>Fz J λx H1 L O ty q1=>?_);obtain ⟨h1,h2⟩:=AbG L O ty;refine ⟨T,id,pa,slot,d,h1,h2,?_⟩;have Y:=ha aS pins s1 σ H1 _ L q1;rw [hs] at Y ⊢;refine Calls.callWith_builtin (by show (false || (SJ aS (Se es X.env)).any (·.1))=false;rw [D]<;>rfl) (Zn ?_);exact Al Y λus s2 J=>Az J λvs H2 I2 r2 q2=>hm pins s2 σ H2 x vs v us Q I2 O r2 q2
end
def Nx (X:Cx)(id:String)(r:V->List V->Hp->VK->Prop):Prop :=
 ∀(pins:List (Addr×Obj))(s:RY)(σ:St)(H:Hp)(x:V)(xs:List V)(v:Value)(us:List Value)(Q:VK),Ad X pins σ H s->AB x v->Ar xs us->r x xs H Q ->
  R1 (R4 X.prog X.w) X.A (call (.builtin id) (v :: us)) (EP X pins σ Q) X.xe s
theorem Ar.one {x:V}{us:List Value}(h:Ar [x] us):∃ u,us=[u]/\AB x u:=CL h
theorem Ar.two {x y:V}{us:List Value}(h:Ar [x,y] us):∃ u v,us=[u,v]/\AB x u/\AB y v:=JS h
theorem Ar.rep {xs:List V}{us:List Value}(h:Ar xs us):∀ k:Nat,Ar (Ss k xs).flatten (Ss k us).flatten
 | 0=>.nil
 | k+1=>by
  rw [Vf,Vf,V9,V9];exact Ar.append h (Ar.rep h k)
theorem Ny (its:List Value):∀(k:Nat)(d:List Value),
  Yj (λg x2=>g++x2) d.toArray (Ss k its.toArray)=(d++(Ss k its).flatten).toArray
 | 0,d=>by simp
 | k+1,d=>by
  have e:d.toArray++its.toArray=(d++its).toArray:=by simp
  have p:(d++its)++(Ss k its).flatten=d++(Ss (k+1) its).flatten:=by rw [Vf,V9,To]
  rw [<- p,<- Ny its k (d++its),<- e,Vf,Zo]
section
variable {X:Cx}{pins:List (Addr×Obj)}{σ:St}{H:Hp}{s:RY}{l b:Addr}{xs ys zs:List V}
theorem Ad.nq {its its':List Value}{n:Nat}{f:Array Value->Array Value}{t':Nat}(I:Ad X pins σ H s)(d:H l=some (.lst xs))(e:s.heap.get? l=some { cls:=.type "list",data:=.seq its.toArray n })(g:f its.toArray=its'.toArray)(p:Ar ys its')(B:ys.length<=sizeLine) :
  Ad X pins σ (upd H l (.lst ys)) { s with heap:=s.heap.update l (Ti f),toks:=t' }:=by
 have q:=PySem.IsL.update e f;rw [g] at q;refine I.write (x:=l) (e:=l) (by rw [d];exact trivial) (.inl rfl) (λD u hb hu=>(UQ s.heap (Ti f) (S3 hb)).trans hu) ⟨_,q⟩ ?_;exact ⟨B,its',_,p,q⟩
theorem Ad.iO {its:List Value}{t':Nat}(I:Ad X pins σ H s)(d:Ar ys its)(g:ys.length<=sizeLine) :
  Ad X pins σ (upd H s.heap.objs.size (.lst ys)) { s with heap:=s.heap.push { cls:=.type "list",data:=.seq its.toArray },toks:=t' } :=
 I.laid (λ_ _ q=>Sq _ q) (Sh _) ⟨g,its,0,d,SO _ rfl⟩
theorem Ad.fresh (I:Ad X pins σ H s):H s.heap.objs.size=none:=I.aa.fresh (Sh _)
theorem Ad.fN (I:Ad X pins σ H s)(d:H l=some (.lst xs)):xs.length<=sizeLine/\∃(its:List Value)(n:Nat),Ar xs its/\xs.length=its.length/\s.heap.get? l=some { cls:=.type "list",data:=.seq its.toArray n }:=by obtain ⟨z,its,n,r,e⟩:=I.aa l _ d;exact ⟨z,its,n,r,r.length,e⟩
theorem Nz {n:Nat}(h:n<=sizeLine):Xi n=false:=by unfold Xi;exact decide_eq_false (by omega)
end
section
variable {X:Cx}
def AbH:V->List V->Hp->VK->Prop:=λx vs H Q=>∃ l xs y,x=.ref l/\vs=[y]/\H l=some (.lst xs)/\xs.length<sizeLine/\Q .ae (upd H l (.lst (xs++[y])))
theorem Ey:Nx X "list.append" AbH:=by
 intro pins s σ H x vs v D Q I g p h;replace h:=Em h;obtain ⟨l,J,y,rfl,rfl,d,L,q⟩:=h
 cases g;obtain ⟨u,rfl,B⟩:=Am p.one;obtain ⟨z,its,n,r,O,e⟩:=I.fN d;refine VO F.slot_list_append ⟨_,e,rfl⟩ F.entry_list_append (F.args_list_append_2 _ _) (PySem.list_append l its.toArray n u (by rw [SY];omega)) ⟨e,?_⟩;refine ⟨.ae,_,I.nq (its':=its++[u]) d e (by simp) (r.append (.cons B .nil)) ?_,rfl,q⟩;rw [SF,TR];omega
def AbI:V->List V->Hp->VK->Prop:=λx vs H Q=>∃ l b xs zs,x=.ref l/\vs=[.ref b]/\H l=some (.lst xs)/\H b=some (.lst zs)/\xs.length+zs.length<=sizeLine/\Q .ae (upd H l (.lst (xs++zs)))
theorem AbJ:Nx X "list.extend" AbI:=by
 intro pins s σ H x vs v Y Q I p B h;replace h:=ES h;obtain ⟨l,b,xs,zs,rfl,rfl,g,D,hz,q⟩:=h
 cases p;obtain ⟨u,rfl,J⟩:=Am B.one;cases J;obtain ⟨z,its,n,r,hl,e⟩:=I.fN g;obtain ⟨z2,cI,L,r2,fO,O⟩:=I.fN D;have d:its.toArray.size+cI.toArray.size<=sizeLine:=by rw [SY,SY];omega
 have V:¬ (!its.toArray.isEmpty && Xi (its.toArray.size+cI.toArray.size))=true:=by rw [Nz d,WH];exact S8
 refine VO F.slot_list_extend ⟨_,e,rfl⟩ F.entry_list_extend (F.args_list_extend_2 _ _)
  (AutoSeq1.list_extend_list_list_0 l its.toArray n b cI.toArray L V (by rw [SY];omega) (by omega)) ⟨e,O,?_⟩
 refine ⟨.ae,_,I.nq (its':=its++cI) g e (by simp) (r.append r2) ?_,rfl,q⟩;rw [SF];omega
def NA:R2:=λx y H Q=>∃ l b xs zs,x=.ref l/\y=.ref b/\H l=some (.lst xs)/\H b=some (.lst zs)/\xs.length+zs.length<=sizeLine/\∀ p,H p=none->Q (.ref p) (upd H p (.lst (xs++zs)))
theorem AbK:AU X (T7 .Add) NA:=by
 intro pins s σ H x y v u Q I d g h;replace h:=ES h;obtain ⟨l,b,L,zs,rfl,rfl,p,B,O,q⟩:=h
 cases d;cases g;obtain ⟨z,its,n,r,V,e⟩:=I.fN p;obtain ⟨z2,cI,Y,r2,fO,D⟩:=I.fN B;refine PySem.P.add_list e D ?_ (by rw [SY,SY];omega);have J:its.toArray++cI.toArray=(its++cI).toArray:=by simp
 rw [J];exact ⟨.ref _,_,I.iO (t':=s.toks) (r.append r2) (by rw [SF];omega),rfl,q _ I.fresh⟩
def NB:R2:=λx y H Q=>∃ l k xs,x=.ref l/\y=.int k/\H l=some (.lst xs)/\-(2 ^ 63)<=k/\k<2 ^ 63/\xs.length * k.toNat<=sizeLine /\
 ∀ p,H p=none->Q (.ref p) (upd H p (.lst (Ss k.toNat xs).flatten))
theorem AbL {α:Type}(xs:List α)(k:Nat):(Ss k xs).flatten.length=k * xs.length:=by
 induction k with
 | zero=>simp
 | succ k ih=>rw [Vf,V9,SF,ih,Nat.succ_mul,Nat.add_comm]
theorem AbM:AU X (T7 .Mult) NB:=by
 intro pins s σ H x y v u Q I L O h;replace h:=Em h;obtain ⟨l,k,xs,rfl,rfl,V,Y,h2,J,q⟩:=h
 cases L;obtain ⟨t,rfl⟩:=O;obtain ⟨z,its,n,r,hl,e⟩:=I.fN V;have d:its.toArray.size * k.toNat<=sizeLine:=by rw [SY,<- hl];exact J
 have g:¬ its.toArray.size * k.toNat > (2 ^ 63 - 1) / 8:=by
  have:(sizeLine:Nat)<=(2 ^ 63 - 1) / 8:=by decide
  omega
 have p:¬ (!Builtin.List.listFitsIndex k)=true:=by rw [fitsIndex_both Y h2];exact S8
 have fP:¬ Xi (its.toArray.size * k.toNat)=true:=by rw [Nz d];exact S8
 have B:Yj (λD x2=>D++x2) #[] (Ss (if its.toArray.isEmpty=true then 0 else k.toNat) its.toArray)=(Ss k.toNat its).flatten.toArray:=by
  have f0:∀ m:Nat,Yj (λD x2=>D++x2) #[] (Ss m its.toArray)=(Ss m its).flatten.toArray:=λm=>by
   have:=Ny its m [];rw [Zp] at this;exact this
  rw [f0];cases its with
  | nil=>simp
  | cons a r'=>rw [if_neg (by simp)]
 refine wpAny_binaryOp_repeat_ref (T:="list") (U:="int") (by decide) ⟨_,e,rfl⟩ (λs'=>Yi s' k t) noFill_list_mul F.fills_int_mul Zq repeat_list F.slot_int_index.lookup
  (VO Zq (Yi s k t) F.entry_int_rmul (F.args_int_rmul_2 _ _) (int___rmul___int_list k t l its.toArray n)
   ⟨e,rfl,⟨_,e,rfl⟩,VO F.slot_list_mul ⟨_,e,rfl⟩ F.entry_list_mul (F.args_list_mul_2 _ _) (AutoListH.list___mul___list_int_3 l its.toArray n k t p g fP) ⟨e,?_⟩⟩)
 rw [B];exact ⟨.ref _,_,I.iO (t':=s.toks) (r.rep k.toNat) (by rw [AbL,Nat.mul_comm];exact J),rfl,q _ I.fresh⟩
end
section
variable {prog:R7}{w:R3}{A:Sj}{E:Value->RY->Prop}{s:RY}
set_option maxRecDepth 100000 in
end
section
variable {X:Cx}
end
end L2
namespace Att
open PySem PySem.W PySem.Calls PyProof.Rows
theorem AbN {P:WI}{h:Heap}:∀(ns:List Int)(vs:List Value),WellAll P h vs (ns.map WData.int)->WJ vs ns:=by
 intro ns;induction ns with
 | nil =>
  intro vs w;rw [Yk] at w;cases w;exact .nil
 | cons n ns ih =>
  intro vs w;rw [Th] at w;cases w with
  | cons a b =>
   cases a;exact .cons _ _ (ih _ b)
theorem AbO {l:OpenLaw}{n:Nat}(hn:l.most=some n){P:WI}{h:Heap}{args:List WData}{g:List Value}(I:l.row.toRowW.claim.pre args=true)(J:WellAll P h g args) :
  ∃ a vs ns,g=[Sg a]/\args=[WData.list (ns.map WData.int)]/\h.get? a=some { cls:=.type "list",data:=.seq vs.toArray }/\WJ vs ns/\ns.length<=n:=by
 have H:WShape.hasAll [] args [.list .int]=true:=(pre_splitW I).1;have hc:l.pre.holds [] { args:=args }=true:=(pre_splitW I).2;obtain ⟨d,r,rfl,L,O⟩:=hasAllW_cons H;obtain rfl:=hasAllW_nil O;obtain ⟨xs,rfl,V⟩:=hasW_list L;obtain ⟨ns,rfl⟩:=items_int V;have p:ns.length<=n:=by
  unfold OpenLaw.pre at hc;have B:(WTm.not (.lt (.lit (.int (n:Int))) (.len (.arg 0)))).holds [] { args:=[.list (ns.map .int)] }=true:=by have B:=(holds_andW hc).1;rw [hn] at B;exact B
  have D:=condW_of B (w_not (w_lt w_lit (w_len_list (w_arg rfl))));rw [R5] at D;refine Nat.le_of_not_lt λq=>?_;have Y:(n:Int)<((ns.length:Nat):Int):=by omega
  first
   | (rw [decide_eq_true Y] at D;exact absurd D (by decide))
   | (simp at D;omega)
 cases J with
 | cons w1 w2 =>
  cases w2;cases w1 with
  | list ho fQ=>exact ⟨_,_,ns,rfl,rfl,ho,AbN ns _ fQ,p⟩
theorem AbP (l:OpenLaw)(args:List WData):l.row.toRowW.claim.post args (.bool true) args=true :=
 postW_of (r:=l.row.toRowW) (X:=(true == true))
  (show WShape.has [] (.bool true) .bool=true by first | rfl | decide | simp [WShape.has,WShape.arms,WShape.armsAll])
  (show (WTm.eq .res (.lit (.bool true))).value [] { args:=args,res:=some (.bool true),after:=args }=some (.bool (true == true)) from w_eq_bool (w_res rfl) w_lit) rfl
theorem aas {l:OpenLaw}{n:Nat}{q:R7}{g:List Str}{XP:(Str->Option Value)->Heap->Prop}{YP:R3->Heap->Prop}{d:DefRec}(hn:l.most=some n)(gw:d.params.defaults=[])(call:∀ (w:R3) (s₀ p:RY) (mg O:Str->Option Value) (H:Addr) (o:Obj) (V J B:Value) (a:Addr) (vs:List Value) (ns:List Int),
   Ground q g [] XP w s₀ mg O p.heap->YP w p.heap ->
   p.heap.get? H=some o->o.data=.func (docDef d.name d.params d.body d.scope V J B)->p.heap.CodeRec J d.name->mg d.name=some (.ref H) ->
   p.heap.get? a=some { cls:=.type "list",data:=.seq vs.toArray }->WJ vs ns->ns.length<=n->p.gens=#[] ->
   Tq (R4 l.prog w) VP (.call (.ref H) ⟨[.ref a],[]⟩) (λr L=>r=.ok (.ret (.bool true))/\OldK p.heap L.heap/\L.os=p.os/\Uw L.gens) p) :
  WalkO q g XP YP l.row.toRowW d [] (λf vs=>Yl f vs):=by
 intro w s₀ p mg O G Y H o V J B dV kV ho hd cF hD gx hg args vals as iP aeP nv jU hlo;obtain rfl:dV=.none:=Dflts.none hD gw;obtain rfl:kV=.none:=Dflts.noKw hD;obtain ⟨a,vs,ns,rfl,rfl,jV,D,I⟩:=AbO hn iP jU;refine enter_call (UM (call w s₀ p mg O H o V J B a vs ns G Y ho (fd_plain hd) cF gx jV D I hg) λr L hq=>?_);obtain ⟨rfl,h2,h3,h4⟩:=hq;exact ⟨.inl ⟨.bool true,.bool true,[],rfl,λ_=>rfl,.bool true,AbP l _,λ_=>⟨List.Pairwise.nil,λ_ hm=>(nomatch hm)⟩⟩,h2,h3,h4⟩
section
variable {prog:R7}{w:R3}{A:Sj}{E:Value->RY->Prop}{s:RY}{K:Frag}
end
end Att
namespace L2
open PySem PySem.Spec PyProof.Rows
theorem NC:∀{vs:List Value}{ns:List Int},WJ vs ns->Ar (ns.map V.int) vs
 | _,_,.nil=>.nil
 | _,_,.cons n t h=>.cons ⟨t,rfl⟩ (NC h)
def J1 (H:Hp):Prop:=∀ b,H b=none\/∃ o xs,H b=some (.bF o (.lst xs))
theorem AbQ {P:R7}{w:R3}{K:R0}{mg mb:Str->Option Value}{CX:BA}{k:Nat}{fa a:Addr}{fd:Sr}{x:Str}{sp:Sp}{g:RY}{vs:List Value}{ns:List Int}(KX:K.In g.heap)(bh:g.heap.Ns Sl mg)(hb:g.heap.Ns XZ mb)(jW:∀ x:Str,x≠"__name__"->mb x=Ta x)(aat:g.heap.NoLimit)(hg:g.gens=#[])(O:g.heap.get? a=some { cls:=.type "list",data:=.seq vs.toArray })(hi:WJ vs ns)(hl:ns.length<=sizeLine)(hr:Bb k VP)(F:∀ base:Heap,K.In base->base.Ns Sl mg->AE P w K mg base CX k fa fd [x] sp)(aau:∀ (s:RY) (u:Value),VH s fd ⟨[u],[]⟩ [(x,u)])(c6:∀ H:Hp,J1 H->AZ K H a (ns.map V.int)->sp [.ref a] H (λv _=>v=.bl true) λ_ _ _=>False)(jX:∀ H e p,CX [] H g (λ_ _ _=>False) e p->False) :
  Tq (R4 P w) VP (.call (.ref fa) ⟨[.ref a],[]⟩) (λr p=>r=.ok (.ret (.bool true))/\OldK g.heap p.heap/\p.os=g.os/\Uw p.gens) g:=by
 have rv:=NC hi;have aav:=hi.length;have B:∀ H:Hp,J1 H->AZ K H a (ns.map V.int)->AY P w H g.heap->(∀ b,H b≠none->b=a)->(H a≠none->K.lookup a=none) ->
   Tq (R4 P w) VP (.call (.ref fa) ⟨[.ref a],[]⟩) (λr p=>r=.ok (.ret (.bool true))/\OldK g.heap p.heap/\p.os=g.os/\Uw p.gens) g:=by
  intro H hO hS aa hA hK;have nA:∀{b:Addr}{o:Obj},g.heap.get? b=some o->H b=none->(DY g.heap H).get? b=some o:=λe n=>Aai e n;have gn:∀{b:Addr}{o:Obj}{D:Array WK}{I:Nat},g.heap.get? b=some o->o.data=.dict D I->H b=none:=λ{b o D I} e d=>by
   cases q:H b with
   | none=>rfl
   | some u =>
    have e':b=a:=hA b (by rw [q];simp);subst e';rw [O] at e;cases e;have d':Data.seq vs.toArray _=Data.dict D I:=d;cases d'
  have Y:∀{b:Addr}{m:Str->Option Value},g.heap.Ns b m->(DY g.heap H).Ns b m:=λ{b m} ⟨o,D,I,e,d,r⟩=>⟨o,D,I,nA e (gn e d),d,r⟩;have nC:K.In (DY g.heap H):=λb o e=>nA (KX b o e) (by
   cases q:H b with
   | none=>rfl
   | some u =>
    have e':b=a:=hA b (by rw [q];simp);subst e';rw [hK (by rw [q];simp)] at e;cases e)
  have hM:Mod K mg (DY g.heap H):=⟨nC,Y bh,⟨mb,Y hb,jW⟩,let ⟨mc,h1,h2⟩:=aat;⟨mc,Y h1,h2⟩⟩;have e0:EY P w K mg (DY g.heap H) VP [] g H:=⟨rfl,hM,λb o e=>Aaj e,Nat.le_of_eq (Aah _ _),trivial,λb hb=>absurd (show b∈([]:List Addr) from hb) (by simp),aa,.of_eq hg⟩;refine UM ((F _ nC (Y bh)).run VP [] g H ⟨[.ref a],[]⟩ [.ref a] [.ref a] _ _ hr e0 (aau g (.ref a)) (.cons rfl .nil) (c6 H hO hS)) λr p h=>?_;cases r with
  | error e=>exact (jX H e p h).elim
  | ok fl =>
   cases fl with
   | next=>exact Tn h
   | brk=>exact Tn h
   | cont=>exact Tn h
   | ret u =>
    obtain ⟨v,H',os,J,un,aaw,r',q⟩:=FA h;have q':v=.bl true:=q;subst q';obtain rfl:u=Wt true:=r';refine ⟨rfl,OldK.of_keep λb o e=>?_,os,J⟩;cases q:H b with
    | none=>exact un.keep b o e q (by intro z;exact absurd (show b∈([]:List Addr) from z) (by simp)) (by simp)
    | some u =>
     rcases hO b with z | ⟨ob,xs,z⟩
     .rw [q] at z;cases z
     .have z2:=un.cm b ob _ z;obtain ⟨e1,_⟩:=aa b _ z;obtain ⟨e2,_⟩:=aaw b _ z2;rw [e] at e1;cases e1;exact e2
 cases hk:K.lookup a with
 | some o =>
  have e:=KX a o hk;rw [O] at e;cases e;refine B (λ_=>none) (λ_=>.inl rfl) (.inr ⟨_,vs.toArray,_,hk,rfl,rfl,rfl,by rw [SY,aav];exact hl,by simpa using rv⟩) (λb u z=>by have L:(none:Option HO)=some u:=z;cases L) (λb z=>absurd rfl z) λz=>absurd rfl z
 | none =>
  refine B (λb=>if b=a then some (.bF { cls:=.type "list",data:=.seq vs.toArray } (.lst (ns.map V.int))) else none) (λb=>?_) (.inl (.inr ⟨{ cls:=.type "list",data:=.seq vs.toArray },if_pos rfl⟩)) (λb u z=>?_) (λb z=>?_) λ_=>hk
  .by_cases hb:b=a
   .exact .inr ⟨_,_,if_pos hb⟩
   .exact .inl (if_neg hb)
  .by_cases hb:b=a
   .have L:=(if_pos hb).symm.trans z;cases L;subst hb;exact ⟨O,by rw [R5];exact hl,vs,_,rv,O⟩
   .have L:=(if_neg hb).symm.trans z;cases L
  .by_cases hb:b=a
   .exact hb
   .exact absurd (if_neg hb) z
theorem aax {l:Ym}{n k:Nat}{q:R7}{B:List Str}{XP:(Str->Option Value)->Heap->Prop}{O:R3->Heap->Prop}{d:DefRec}{K:WI->R0}{CX:R3->BA}{sp:R3->Sp}{x:Str}(hn:l.most=some n)(eW:n<=sizeLine)(gw:d.params.defaults=[])(hr:Bb k VP)(hY:∀ (w:R3) (h:Heap),O w h->(K w.params).In h)(F:∀ (w:R3) (mg:Str->Option Value) (I:Addr) (h:Heap),(K w.params).In h->h.Ns Sl mg->mg d.name=some (.ref I) ->
   ∃ J:Sr,(∀ (s:RY) (u:Value),VH s J ⟨[u],[]⟩ [(x,u)]) /\
    ∀ base:Heap,(K w.params).In base->base.Ns Sl mg->AE l.prog w (K w.params) mg base (CX w) k I J [x] (sp w))(c6:∀ (w:R3) (H:Hp) (a:Addr) (ns:List Int),ns.length<=n->J1 H->AZ (K w.params) H a (ns.map V.int)->sp w [.ref a] H (λv _=>v=.bl true) λ_ _ _=>False)(jX:∀ (w:R3) (H:Hp) (s:RY) (e:Value) (L:RY),CX w [] H s (λ_ _ _=>False) e L->False) :
  PySem.W.WalkO q B XP O l.row.toRowW d [] (λf vs=>Yl f vs):=by
 refine Att.aas hn gw λw s₀ s₁ mg mb I o pm cd doc a vs ns G Y ho hd cF gx jV D p hg=>?_;have KX:=hY w _ Y;obtain ⟨J,hb,hF⟩:=Am (F w mg I _ KX G.T.g gx);exact AbQ KX G.T.g G.T.b G.T.builtins G.T.nolimit hg jV D (Sy p eW) hr hF hb (λH hO hS=>c6 w H a ns p hO hS) λH e L=>jX w H s₁ e L
def Au (s:Stmt)(j:Nat):Stmt:=match s with
 | .ClassDef _ _ _ body _ _ _ _ _ _ _=>body.getD j (.Pass ⟨0,0,0,0⟩)
 | _=>.Pass ⟨0,0,0,0⟩
def Dj (s:Stmt):Arguments:=match s with
 | .FunctionDef _ a _ _ _ _ _ _ _ _=>a
 | _=>{ posonlyargs:=[],args:=[],vararg:=none,kwonlyargs:=[],kw_defaults:=[],kwarg:=none,defaults:=[] }
def CY (s:Stmt):List Stmt:=match s with
 | .FunctionDef _ _ b _ _ _ _ _ _ _=>b
 | _=>[]
def Ab (s:Stmt):Scope:=match s with
 | .FunctionDef _ _ _ _ _ _ sc _ _ _=>sc
 | _=>{ kind:=.function,names:=[],isGenerator:=false,isCoroutine:=false }
abbrev AI:BA:=λ_ _ _ _ _ _=>False
abbrev E0:XK:=λ_ _ _=>False
theorem Bj {X:Cx}:CM AI X E0:=λ_ _ _ _ _ _ _ h=>h.elim
structure AW (K:R0)(x qual:Str)(st:Stmt)(f:Addr)(fd:Sr):Prop where
 ex:∃(oc:Value)(od:Option Addr)(kV doc pm:Value)(an:Option Addr)(af ct:Value)(dA:Array (Option Value)),
  fd=TZ x qual (Dj st) (CY st) (Ab st) .none kV doc pm an af ct/\K.lookup f=some ⟨oc,od,.func fd,dA⟩/\UP K af qual=true
 kp:Td K (.ref f)=true
section
variable {P:R7}{w:R3}{K:R0}{mg:Str->Option Value}{base:Heap}
theorem AW.ok {x d:Str}{st:Stmt}{f:Addr}{p:Sr}{N ps:List Str}{k:Nat}{sp:Sp}(F:AW K x d st f p)(S:A8 N ps (Ab st))(B:∀ (g:Value) (A:Sj) (outer:List Env) (s:RY) (H:Hp) (vs:List V) (Q:VK) (E:XK),Bb k (A.deeper (Uz d (Ab st) s.heap.objs.size f g))->sp vs H Q E ->
   ∃ t,Cr (CB AI P w K mg base N d (Ab st) f g A outer s H E).iN (CY st) t/\t { nx:=λ_ D=>Q .ae D,rt:=Q } (CN N vs) H)(len:∀ vs H Q E,sp vs H Q E->vs.length=ps.length:=by intro _ _ _ _ h;repeat (first | exact congrArg Xf h.1 | obtain ⟨_,h⟩:=h)):AE P w K mg base AI (k+1) f p ps sp:=by
 obtain ⟨Y,od,kV,I,pm,an,g,ct,dA,rfl,lk,J⟩:=JG F.ex;refine Np lk J S len λA outer s H vs Q E L O=>?_;obtain ⟨t,h,q⟩:=Am (B g A outer s H vs Q E L O);exact ⟨t,h.iN,q⟩
theorem AW.binds {x d:Str}{st:Stmt}{f:Addr}{H:Sr}{ps:List Str}(F:AW K x d st f H)(h:∀ (kV g p:Value) (B:Option Addr) (D ct:Value) (us:List Value),us.length=ps.length->bindArgs (TZ x d (Dj st) (CY st) (Ab st) .none kV g p B D ct) ⟨us,[]⟩=pure (ps.zip us)):Ct K H ps []:=by obtain ⟨I,J,kV,g,p,B,D,ct,L,rfl,lk,O⟩:=JG F.ex;exact .all (h kV g p B D ct)
theorem FK {x d:Str}{st:Stmt}{f:Addr}{H:Value}{I B:Option Addr}{J:Array (Option Value)}{kV g D p ct:Value}(l:K.lookup f=some ⟨H,I,.func (TZ x d (Dj st) (CY st) (Ab st) .none kV g D B p ct),J⟩)(c:UP K p d=true)(k:Td K (.ref f)=true):AW K x d st f (TZ x d (Dj st) (CY st) (Ab st) .none kV g D B p ct):=⟨⟨H,I,kV,g,D,B,p,ct,J,rfl,l,c⟩,k⟩
end
section
variable {X:Cx}
end
theorem Bv {A B:Prop}(h:B):if false=true then A else B:=by rw [if_neg S8];exact h
theorem Bt {A B:Prop}(h:A):if true=true then A else B:=by rw [if_pos rfl];exact h
theorem HN {c A B:Prop} [Decidable c] (d:c->A) (g:¬ c->B):if c then A else B:=by
 by_cases h:c
 .rw [if_pos h];exact d h
 .rw [if_neg h];exact g h
def Ae (H H':Hp):Prop:=∀ b o,H b=some o->H' b=some o
theorem Ae.refl (H:Hp):Ae H H:=λ_ _ h=>h
theorem Ae.trans {H d g:Hp}(a:Ae H d)(b:Ae d g):Ae H g:=λc o h=>b c o (a c o h)
theorem Ae.free {H d:Hp}(e:Ae H d){l:Addr}(h:d l=Option.none):H l=Option.none:=by
 cases q:H l with
 | none=>rfl
 | some o =>
  rw [e l o q] at h;cases h
theorem Ae.seq {K:R0}{H d:Hp}{a:Addr}{xs:List V}(e:Ae H d)(h:AZ K H a xs):AZ K d a xs:=by
 rcases h with (h | ⟨o,h⟩) | h
 .exact .inl (.inl (e _ _ h))
 .exact .inl (.inr ⟨o,e _ _ h⟩)
 .exact .inr h
end L2
namespace L2
def Lk (t C:St->Hp->Prop):Prop:=∀ σ H,t σ H->C σ H
theorem Lk.use {t C:St->Hp->Prop}{σ:St}{H:Hp}(h:Lk t C)(p:t σ H):C σ H:=h _ _ p
theorem AbR {s t:TS}{D:DF}{σ:St}{H:Hp}(h:∀ C:St->Hp->Prop,Lk (t D) C->s { D with nx:=C } σ H):MM s t D σ H:=h _ λ_ _ z=>z
theorem Lk.asg {t:St->Hp->Prop}{v:V}{i:Nat}{D:DF}{σ:St}{H:Hp}(h:Lk t D.nx)(p:t (σ.set i (some v)) H):EV (tC v) (Ba i) D σ H:=h _ _ p
theorem w1 {α:Type u}{β:Type v}{a:β}{f:α->β}{P:α->Prop}{v:α}(e:a=f v)(h:P v):∃ v,a=f v/\P v:=⟨v,e,h⟩
theorem w2 {α β γ δ:Type}{x:γ}{y:δ}{f:α->γ}{g:β->δ}{P:α->β->Prop}{i:α}{j:β}(e:x=f i)(d:y=g j)(h:P i j):∃ i j,x=f i/\y=g j/\P i j:=⟨i,j,e,d,h⟩
theorem w3 {α β γ:Type}{x:γ}{f:α->β->γ}{P:α->β->Prop}{i:α}{j:β}(e:x=f i j)(h:P i j):∃ i j,x=f i j/\P i j:=⟨i,j,e,h⟩
section
open PySem
variable {CX:BA}{P:R7}{w:R3}{K:R0}{mg:Str->Option Value}{base:Heap}{N:List Str}{qual:Str}{scope:Scope}{f:Addr}{cd:Value}{A:Sj}{outer:List Env}{s:RY}{H:Hp}{E:XK}
end
theorem BF {α β γ δ ξ ζ:Type}{x:ξ}{y:ζ}{f:α->β->γ->δ->ξ}{g:α->β->γ->δ->ζ}{P Q R:α->β->γ->δ->Prop} {a b c d} (p:P a b c d) (q:Q a b c d) (r:R a b c d) (e:x=f a b c d:=by rfl) (B:y=g a b c d:=by rfl):∃ a b c d,x=f a b c d/\y=g a b c d/\P a b c d/\Q a b c d/\R a b c d:=⟨a,b,c,d,e,B,p,q,r⟩
theorem CP {b:Bool}{A B:Prop}(h:b=true)(a:A):if b=true then A else B:=by rw [if_pos h];exact a
theorem CQ {b:Bool}{A B:Prop}(h:b=false)(a:B):if b=true then A else B:=by rw [h];exact a
theorem DJ {α:Type}{d R:α->Prop} (a) (g:d a) (r:R a):∃ a,d a/\R a:=⟨a,g,r⟩
theorem BB {α:Type}{d g R:α->Prop} (a) (p:d a) (B:g a) (r:R a):∃ a,d a/\g a/\R a:=⟨a,p,B,r⟩
theorem CZ {α β:Type}{d R:α->β->Prop} (a b) (g:d a b) (r:R a b):∃ a b,d a b/\R a b:=⟨a,b,g,r⟩
theorem AX {α β:Type}{d g R:α->β->Prop} (a b) (p:d a b) (B:g a b) (r:R a b):∃ a b,d a b/\g a b/\R a b:=⟨a,b,p,B,r⟩
theorem Bw {α β:Type}{d g P3 R:α->β->Prop} (a b) (p:d a b) (B:g a b) (D:P3 a b) (r:R a b):∃ a b,d a b/\g a b/\P3 a b/\R a b:=⟨a,b,p,B,D,r⟩
theorem DK {α β:Type}{d g P3 p R:α->β->Prop} (a b) (B:d a b) (D:g a b) (H:P3 a b) (I:p a b) (r:R a b):∃ a b,d a b/\g a b/\P3 a b/\p a b/\R a b:=⟨a,b,B,D,H,I,r⟩
theorem B3 {α β γ:Type}{d R:α->β->γ->Prop} (a b c) (g:d a b c) (r:R a b c):∃ a b c,d a b c/\R a b c:=⟨a,b,c,g,r⟩
theorem E8 {α β γ:Type}{d g P3 R:α->β->γ->Prop} (a b c) (p:d a b c) (B:g a b c) (D:P3 a b c) (r:R a b c):∃ a b c,d a b c/\g a b c/\P3 a b c/\R a b c:=⟨a,b,c,p,B,D,r⟩
theorem BZ {α β γ:Type}{d g P3 p R:α->β->γ->Prop} (a b c) (B:d a b c) (D:g a b c) (H:P3 a b c) (I:p a b c) (r:R a b c):∃ a b c,d a b c/\g a b c/\P3 a b c/\p a b c/\R a b c:=⟨a,b,c,B,D,H,I,r⟩
theorem D5 {α β γ δ:Type}{g R:α->β->γ->δ->Prop} (a b c d) (p:g a b c d) (r:R a b c d):∃ a b c d,g a b c d/\R a b c d:=⟨a,b,c,d,p,r⟩
theorem Bx {α β γ δ:Type}{g p P3 B R:α->β->γ->δ->Prop} (a b c d) (D:g a b c d) (H:p a b c d) (I:P3 a b c d) (J:B a b c d) (r:R a b c d):∃ a b c d,g a b c d/\p a b c d/\P3 a b c d/\B a b c d/\R a b c d:=⟨a,b,c,d,D,H,I,J,r⟩
theorem A0 {α β γ δ:Type}{g p P3 B D R:α->β->γ->δ->Prop} (a b c d) (H:g a b c d) (I:p a b c d) (J:P3 a b c d) (L:B a b c d) (O:D a b c d) (r:R a b c d):∃ a b c d,g a b c d/\p a b c d/\P3 a b c d/\B a b c d/\D a b c d/\R a b c d:=⟨a,b,c,d,H,I,J,L,O,r⟩
theorem B0 {α β γ δ ε:Type}{g R:α->β->γ->δ->ε->Prop} (a b c d e) (p:g a b c d e) (r:R a b c d e):∃ a b c d e,g a b c d e/\R a b c d e:=⟨a,b,c,d,e,p,r⟩
theorem B8 {α β γ δ ε:Type}{g p P3 B D R:α->β->γ->δ->ε->Prop} (a b c d e) (H:g a b c d e) (I:p a b c d e) (J:P3 a b c d e) (L:B a b c d e) (O:D a b c d e) (r:R a b c d e):∃ a b c d e,g a b c d e/\p a b c d e/\P3 a b c d e/\B a b c d e/\D a b c d e/\R a b c d e:=⟨a,b,c,d,e,H,I,J,L,O,r⟩
theorem Dx {α β γ δ ε ζ:Type}{g R:α->β->γ->δ->ε->ζ->Prop} (a b c d e f) (p:g a b c d e f) (r:R a b c d e f):∃ a b c d e f,g a b c d e f/\R a b c d e f:=⟨a,b,c,d,e,f,p,r⟩
theorem ND {α β γ δ ε ζ η:Type}{p R:α->β->γ->δ->ε->ζ->η->Prop} (a b c d e f g) (B:p a b c d e f g) (r:R a b c d e f g):∃ a b c d e f g,p a b c d e f g/\R a b c d e f g:=⟨a,b,c,d,e,f,g,B,r⟩
theorem NF {α β γ δ ε ζ η θ:Type}{p R:α->β->γ->δ->ε->ζ->η->θ->Prop} (a b c d e f g h) (B:p a b c d e f g h) (r:R a b c d e f g h):∃ a b c d e f g h,p a b c d e f g h/\R a b c d e f g h:=⟨a,b,c,d,e,f,g,h,B,r⟩
theorem J2 {α β γ δ ε ζ η θ ι:Type}{p R:α->β->γ->δ->ε->ζ->η->θ->ι->Prop} (a b c d e f g h i) (B:p a b c d e f g h i) (r:R a b c d e f g h i):∃ a b c d e f g h i,p a b c d e f g h i/\R a b c d e f g h i:=⟨a,b,c,d,e,f,g,h,i,B,r⟩
end L2
namespace L2
open PySem PySem.Spec PyProof.Rows
section
variable {P:R7}{w:R3}
def Bd (P:R7)(w:R3):BA:=λouter H s E e s'=>∃(ea:Addr)(cls a0:Value)(B:Heap)(H':Hp),
 e=.ref ea/\s'.os=s.os/\Uw s'.gens/\Un (Cg outer) [] H H' s.heap s'.heap/\Heap.FlyingW B outer ea cls a0 s'.heap/\AY P w H' B /\
 (∀ b o,s.heap.get? b=some o->H b=none->b ∉ Cg outer->B.get? b=some o)/\(∀ b o,s.heap.get? b=some o->b ∉ Cg outer->∃ o',B.get? b=some o')/\E cls none H'
structure HP (X:Cx)(pins:List (Addr×Obj))(σ:St)(H:Hp)(B:Heap)(s:RY):Prop where
 inv:Ad X pins σ H s
 aa:AY X.prog X.w H B
 old:∀ b o,X.s₀.heap.get? b=some o->X.H₀ b=none->b ∉ X.fs->b ∉ X.ex->B.get? b=some o
 there:∀ b o,X.s₀.heap.get? b=some o->b ∉ X.fs->b ∉ X.ex->∃ o',B.get? b=some o'
 pin:∀ p∈X.pn++pins,B.get? p.1=some p.2
variable {X:Cx}{pins:List (Addr×Obj)}{σ:St}{H H':Hp}{s s':RY}{ea:Addr}{cls:Value}{B:Heap}
theorem Ad.cD (I:Ad X pins σ H s){b:Addr}{o:Obj}(e:X.s₀.heap.get? b=some o):b≠X.env.locals:=Sw (SN (So e) I.ok.above)
theorem Ad.nE (I:Ad X pins σ H s){E:XK}{e:Value}(h:Bd X.prog X.w X.stack H s E e s'):∃ ea cls J B H',e=.ref ea/\HP X pins σ H' B s'/\Heap.FlyingW B X.stack ea cls J s'.heap/\E cls none H':=by
 replace h:=Gh h;obtain ⟨ea,cls,J,B,H',rfl,os,d,un,L,O,g,there,V⟩:=h
 refine ⟨ea,cls,J,B,H',rfl,⟨I.mZ os un (O.kept L.1) d (λb z=>absurd z (by simp)),O,λb o e n D hx=>?_,λb o e D hx=>?_,λp hp=>?_⟩,L,V⟩
 .refine g b o (I.base.keep b o e n D hx) (I.base.free b o e n hx) λz=>?_;rcases Si.mp (I.cC b z) with q | q
  .exact I.cD e q
  .exact D q
 .obtain ⟨Y,e'⟩:=I.base.there b o e hx;refine there b Y e' λz=>?_;rcases Si.mp (I.cC b z) with q | q
  .exact I.cD e q
  .exact D q
 .obtain ⟨e,n,ne,nf,_⟩:=AJ (I.pin p hp);refine g p.1 p.2 e n λz=>?_;rcases Si.mp (I.cC _ z) with q | q
  .exact ne q
  .exact nf q
theorem HP.move (F:HP X pins σ H B s){h':Heap}{tk:Nat}(O:B.StaysIn h')(up:s.heap.UpToSlots h'):Ad X pins σ H { s with heap:=h',toks:=tk }:=by
 have I:=F.inv;have d:∀ b,b∈X.fs->∀ o,s.heap.get? b=some o->(∃ o₀,X.s₀.heap.get? b=some o₀)->∃ V,h'.get? b=some { o with slots:=V }:=λb hb o e _=>by
  obtain ⟨_,o1,D,d1⟩:=I.bq.mem hb;rw [e] at D;cases D;exact up b o e d1
 have g:∀ c v,s.heap.IsCell c v->h'.IsCell c v:=λc v zz=>Cp zz λo ho hd=>by
  obtain ⟨V,e⟩:=up c o ho λvs q=>by rw [hd] at q;cases q
  exact ⟨_,e,hd⟩
 refine ⟨I.ok,I.os,I.bare,⟨λb o e n J hx=>O b o (F.old b o e n J hx),λb o e n J hx=>?_,I.base.free,λb o e hx=>?_,I.base.aQ,I.base.cm,I.base.cA⟩,?_,λx c e=>?_,I.free,I.br,λp hp=>?_,F.aa.kept O,I.len⟩
 .obtain ⟨V,D⟩:=I.base.slot b o e n J hx;obtain ⟨fL,L⟩:=d b J _ D ⟨o,e⟩;exact ⟨fL,L⟩
 .by_cases J:b∈X.fs
  .obtain ⟨Y,D⟩:=I.base.there b o e hx;obtain ⟨fL,L⟩:=d b J _ D ⟨o,e⟩;exact ⟨_,L⟩
  .obtain ⟨Y,e'⟩:=F.there b o e J hx;exact ⟨Y,O b Y e'⟩
 .obtain ⟨m,hn,hl⟩:=Am I.loc;refine ⟨m,up.ns hn,λi x v D L e3=>?_⟩;obtain ⟨u,r,l⟩:=Am (hl i x v D L e3);refine ⟨u,r,?_⟩;rcases l with l | ⟨k,c,e,z⟩
  .exact .inl l
  .exact .inr ⟨k,c,e,g c _ z⟩
 .obtain ⟨v,z⟩:=I.cell x c e;exact ⟨v,g c v z⟩
 .obtain ⟨_,r⟩:=I.pin p hp;exact ⟨O _ _ (F.pin p hp),r⟩
end
section
variable {P:R7}{w:R3}{K:R0}{mg:Str->Option Value}{base:Heap}{N:List Str}{qual:Str}{scope:Scope}{f:Addr}{cd:Value}{A:Sj}{outer:List Env}{s₀:RY}{H₀:Hp}{E:XK}
theorem C8:CM (Bd P w) (CB (Bd P w) P w K mg base N qual scope f cd A outer s₀ H₀ E) E:=by intro pins σ H s e p I h;obtain ⟨D,cls,L,B,O,rfl,F,V,Y⟩:=ME (I.nE h);show R1 _ _ (leaving _ _) _ _ _;refine wpAny_leaves_onW I.ok.frames rfl V λh' g up=>?_;have J:=F.move (tk:=p.toks) g.1 up;exact ⟨D,cls,L,B,O,rfl,J.os,J.bare,J.base,g,F.aa,λb o e n d=>F.old b o e n d (by simp [CB]),λb o e d=>F.there b o e d (by simp [CB]),Y⟩
theorem AY.hide {H:Hp}{h:Heap}{l:List Addr}(x:AY P w H h)(n:∀ b∈l,H b=none):AY P w H (W7 h l):=λa o e =>
 (x a o e).cU (λb u hb q=>Wv l q λd=>by
  have z:=n b d;rcases hb with rfl | hb
  .rw [e] at z;cases z
  .rw [hb] at z;cases z) (λ_ q=>q) λ_ _ q=>q
theorem AbS {C:Addr}{D:List Value}{d:String}(q:Ts K C D d=true):∃ nm p N bs g hd sn sub ab col dd k0 k1 k2 k3 k5,
  K.lookup C=some (excClassObj nm p C N bs g hd sn sub ab col dd k0 k1 k2 k3 k5 d)/\Yn K N=true/\Sv K N "__init__"=some none/\PySem.W.tailIn K D g=true:=by
 unfold Ts at q;split at q
 .rename_i dd cd sl ho
  split at q
  .rename_i C' g k0 k1 k2 k3 n k5 hm hs
   simp only [Ug,beq_iff_eq,Yo] at q;obtain ⟨⟨⟨⟨⟨rfl,rfl⟩,H⟩,L⟩,I⟩,J⟩:=q;obtain ⟨nm,bs,mro,O,p,hd,sn,sub,ab,col,V⟩:=cd;dsimp only at hm H I J;subst hm H;have B:sl=#[k0,k1,k2,k3,some (.builtin n),k5]:=by obtain ⟨l⟩:=sl;simp only at hs;rw [hs]
   subst B;exact ⟨nm,p,O,bs,g,hd,sn,sub,ab,col,dd,k0,k1,k2,k3,k5,ho,I,J,L⟩
  .cases q
 .cases q
theorem AbT {N:Addr}(d:Yn K N=true){h:Heap}(X:K.In h):∃ mN,(∀ h',K.In h'->h'.Ns N mN)/\∀ x,Sv K N x=some none->mN x=none:=by
 have i:=PySem.W.isNs_of_in X d;refine ⟨h.nsMap N,λh' g=>?_,λx e=>PySem.W.nsMap_none_of_in X d e⟩;obtain ⟨o,p,B,D,r⟩:=Cq (Heap.Ns.of_isNs i);refine ⟨o,p,B,?_,r⟩;unfold Yn at d;split at d
 .rename_i q
  have e:=X _ _ q;rw [D] at e;cases e;exact g _ _ q
 .cases d
def J3 (X:Cx)(W:St->XK):Prop:=∀(pins:List (Addr×Obj))(σ:St)(H:Hp)(s:RY)(ea:Addr)(h':Heap)(C:Addr)(args:List Value),Ad X pins σ H s->Heap.MadeExcOf s.heap h' ea (.ref C) args->W σ (.ref C) none H->X.xe (.ref ea) { s with heap:=h' }
def NG (W:St->XK)(C:Addr)(ta:TA):TS:=λ_ σ H=>ta σ H λvs H1=>vs.length<=sizeLine/\W σ (.ref C) none H1
theorem AbU {X:Cx}{W:St->XK}{C:Addr}{x:Str}{np B pos:Pos}{e:R6}{es:List R6}{t:TA}(ht:J3 X W)(hc:X.calm=true)(q:Ts X.K C [.type "ValueError",.type "Exception",.type "BaseException",.type "object"] "ValueError.__new__"=true)(hm:X.mg x=some (.ref C))(ha:PA X (e :: es) t)(hg:Gl X x:=by rfl)(hd:(x == ("__debug__":Str))=false:=by decide)(L:Se (e :: es) X.env=(false,Sf e X.env) :: Se es X.env:=by rfl)(az:(SJ B (Se es X.env)).any (·.1)=false:=by rfl) :
  PS X (.Raise (some (.Call (.Name x np) (e :: es) [] B)) none pos) (NG W C t):=by
 intro pins s σ H D I h;obtain ⟨O,qn,NN,bs,bm,eX,V,sub,Y,d,dd,k0,k1,k2,k3,k5,lk,aa,iR,tl⟩:=AbS q;obtain ⟨mN,hN,J⟩:=Am (AbT aa I.aw);have hb:bm.contains (.type "BaseException")=true:=(Zr I.aw tl).hasType Zs.hasBase;refine wpAny_Raise_call_subT (nm:=O) (q:=qn) (C:=C) (N:=NN) (bs:=bs) (hdct:=eX) (sn:=V) (sub:=sub) (ab:=Y) (col:=d) (dd:=dd) (k0:=k0) (k1:=k1) (k2:=k2) (k3:=k3) (k5:=k5) (mN:=mN) Zs hb (I.ok.hd hc) (by rw [L];show (false || _)=false;exact az) (J _ iR) (ET I hg hm ⟨rfl,?_⟩ hd);have g:=ha B pins s σ H _ I h;rw [L] at g ⊢;refine Zn (TV g (λus s2 zz=>Fz zz λvs H1 p r hl hE=>?_) λ_ _ z=>z);exact ⟨rfl,(by rw [<- r.length];exact hl),p.aw _ _ lk,hN _ p.aw,Zr p.aw tl,λh' ea mx=>ht pins σ H1 s2 ea h' C _ p mx hE⟩
theorem Ad.lies {X:Cx}{pins:List (Addr×Obj)}{σ:St}{H:Hp}{s:RY}(I:Ad X pins σ H s):HP X pins σ H (W7 s.heap (Cg X.stack)) s:=by
 have B:∀{b:Addr}{o:Obj},X.s₀.heap.get? b=some o->b ∉ X.fs->b ∉ Cg X.stack:=λ{b o} e g z=>by
  rcases Si.mp (I.cC b z) with y | y
  .exact I.cD e y
  .exact g y
 refine ⟨I,I.aa.hide I.jM,λb o e n d hx=>Wv _ (I.base.keep b o e n d hx) (B e d),λb o e d hx=>?_,λp hp=>?_⟩
 .obtain ⟨D,J⟩:=I.base.there b o e hx;exact ⟨D,Wv _ J (B e d)⟩
 .obtain ⟨e,n,ne,g,_⟩:=AJ (I.pin p hp);refine Wv _ e λz=>?_;rcases Si.mp (I.cC _ z) with y | y
  .exact ne y
  .exact g y
theorem CD:J3 (CB (Bd P w) P w K mg base N qual scope f cd A outer s₀ H₀ E) (λ_=>E):=by intro pins σ H d O V C args I B Y;have L:=I.lies;have g:∀ env∈(CB (Bd P w) P w K mg base N qual scope f cd A outer s₀ H₀ E).stack,∀ b,env.frame=some b->b∈Cg (CB (Bd P w) P w K mg base N qual scope f cd A outer s₀ H₀ E).stack:=λenv he b hb=>WB.mpr ⟨env,he,hb⟩;show R1 _ _ (leaving _ _) _ _ _;refine wpAny_leaves_madeW (s:={ d with heap:=V }) (base:=W7 d.heap (Cg (CB (Bd P w) P w K mg base N qual scope f cd A outer s₀ H₀ E).stack)) (h:=d.heap) I.ok.frames rfl (λb o z=>Zb _ z) (PySem.W.funFrames_hide I.stack g) B λh'' t D tup tn up=>?_;have J:=L.move (tk:=d.toks) D.1 ((Heap.UpToSlots.of_keeps B.keeps).trans up);exact ⟨O,.ref C,.ref t,_,H,rfl,J.os,J.bare,J.base,D,L.aa,λb o e n p=>L.old b o e n p (by simp [CB]),λb o e p=>L.there b o e p (by simp [CB]),Y⟩
end
section
variable {X:Cx}{pins:List (Addr×Obj)}{σ:St}{H:Hp}{s:RY}
theorem A4.got {P:R7}{w:R3}{h:Heap}{a:Addr}{o:HO}(x:A4 P w H h a o):∃ u,h.get? a=some u:=by
 cases o with
 | lst g=>obtain ⟨_,_,_,_,e⟩:=x;exact ⟨_,e⟩
 | tup g=>obtain ⟨_,_,_,_,e,_⟩:=x;exact ⟨_,e⟩
 | dK d=>obtain ⟨_,_,_,_,o,_,_,e,_⟩:=AJ x;exact ⟨_,e⟩
 | dT d=>obtain ⟨_,_,_,_,o,_,_,e,_⟩:=AJ x;exact ⟨_,e⟩
 | set S n=>obtain ⟨o,_,_,_,e,_⟩:=Df x;exact ⟨_,e⟩
 | ins C p fs=>obtain ⟨_,_,_,e,_⟩:=AJ x;exact ⟨_,e⟩
 | own y=>obtain ⟨_,e⟩:=x;exact ⟨_,e⟩
 | xd fs=>obtain ⟨_,⟨_,_,_,e,_⟩,_⟩:=Am x;exact ⟨_,e⟩
 | fJ lo B=>obtain ⟨_,_,_,e⟩:=x;exact ⟨_,e⟩
 | bF D u=>obtain ⟨e,_⟩:=x;exact ⟨_,e⟩
 | dW ps=>exact ⟨_,(show h.get? a=some _ from x)⟩
 | met f y=>exact ⟨_,(show h.get? a=some _ from x)⟩
 | ext φ=>obtain ⟨_,⟨_,e⟩,_⟩:=AJ x;exact ⟨_,e⟩
theorem AY.out {P:R7}{w:R3}{h:Heap}{a:Addr}(x:AY P w H h)(e:h.get? a=none):H a=none:=by
 cases q:H a with
 | none=>rfl
 | some o =>
  obtain ⟨u,z⟩:=(x a o q).got;rw [e] at z;cases z
def BN (ea:Addr)(cls:Value):HO:=.ext λh=>∃ o vs,h.get? ea=some o/\o.cls=cls/\o.data=.fields vs
theorem Ad.aay {a:Addr}{cls:Value}(I:Ad X pins σ H s)(hn:H a=none)(Y:∃ o vs,s.heap.get? a=some o/\o.cls=cls/\o.data=.fields vs)(h0:X.s₀.heap.get? a=none)(hp:∀ p∈X.pn++pins,p.1≠a) :
  Ad X pins σ (upd H a (BN a cls)) s:=by
 obtain ⟨oa,vs,g,ca,B⟩:=Bc Y;have D:X.env.locals≠a:=λz=>by
  obtain ⟨m,⟨o,es,ep,d,hd,_⟩,_⟩:=Am I.loc;rw [z,g] at d;cases d;rw [B] at hd;cases hd
 have J:∀ x c,X.env.cells.lookup x=some c->c≠a:=λx c e z=>by
  obtain ⟨v,o,d,hd⟩:=Bi (I.cell x c e);rw [z,g] at d;cases d;rw [B] at hd;cases hd
 have ne:∀{b:Addr}{o:HO},H b=some o->b≠a:=λ{b o} e z=>by rw [z,hn] at e;cases e
 refine ⟨I.ok,I.os,I.bare,⟨I.base.keep,I.base.slot,λb o e n hx=>?_,I.base.there,λb L e=>?_,λb o u e=>?_,λb ps e=>?_⟩,I.loc,I.cell,?_,λx c e=>?_,λp hq=>?_,λb o e=>?_,I.len⟩
 .rw [Ak (λz:b=a=>by rw [z,h0] at e;cases e)];exact I.base.free b o e n hx
 .have q:=I.base.aQ b L e;rw [Ak (ne q)];exact q
 .have q:=I.base.cm b o u e;rw [Ak (ne q)];exact q
 .obtain ⟨more,q⟩:=I.base.cA b ps e;exact ⟨more,by rw [Ak (ne q)];exact q⟩
 .rw [Ak D];exact I.free
 .rw [Ak (J x c e)];exact I.br x c e
 .obtain ⟨O,V,h3⟩:=AJ (I.pin p hq);exact ⟨O,by rw [Ak (hp p hq)];exact V,h3⟩
 .by_cases hb:b=a
  .subst hb;rw [Ah] at e;cases e;exact ⟨⟨oa,vs,g,ca,B⟩,⟨_,g⟩,λO V ⟨o,vs,e,r⟩ k=>⟨o,vs,k o e,r⟩⟩
  .rw [Ak hb] at e;exact (I.aa b o e).cU (λ_ _ _ q=>q) (λc q=>by rw [Ak (ne q)];exact q) λc L q=>by rw [Ak (ne q)];exact q
theorem Ad.unbind {i:Nat}{n:Str}{m:Str->Option Value}{v:Option Value}{h':Heap}{tk:Nat}(I:Ad X pins σ H s)(L:X.N.Nodup)(hi:X.N[i]?=some n)(hm:s.heap.Ns X.env.locals m)(O:∀ (i:Nat) (x:Str) (v:V),X.N[i]?=some x->σ[i]?=some (some v)->FD X.env.scope x->∃ u,AB v u/\MJ X.env s.heap m x u)(hn:h'.Ns X.env.locals (λx=>if x=n then v else m x))(hs:S4 X.env.locals s.heap h'):Ad X pins (σ.set i none) H { s with heap:=h',toks:=tk }:=by
 have cD:∀{b:Addr}{o:Obj},X.s₀.heap.get? b=some o->b≠X.env.locals:=λ{b o} e=>I.cD e;refine ⟨I.ok,I.os,I.bare,⟨λb o e n hb hx=>?_,λb o e n hb hx=>?_,I.base.free,λb o e hx=>?_,I.base.aQ,I.base.cm,I.base.cA⟩,⟨_,hn,λj y Y g B e3=>?_⟩,λy c e=>?_,I.free,I.br,λp hp=>?_,λb ob e=>?_,by simpa using I.len⟩
 .exact (hs.2 b (cD e)).trans (I.base.keep b o e n hb hx)
 .obtain ⟨sl,g⟩:=I.base.slot b o e n hb hx;exact ⟨sl,(hs.2 b (cD e)).trans g⟩
 .obtain ⟨o',g⟩:=I.base.there b o e hx;exact ⟨o',(hs.2 b (cD e)).trans g⟩
 .have D:j≠i:=λz=>by
   subst z;by_cases ai:j<σ.length
   .rw [X2 ai] at B;cases B
   .rw [Zt (by rw [List.length_set];omega)] at B;cases B
  rw [X3 (S3 D)] at B;obtain ⟨u',r',q⟩:=Am (O j y Y g B e3);refine ⟨u',r',?_⟩;rcases q with ⟨k,e⟩ | ⟨k,c,e,z⟩
  .refine .inl ⟨k,?_⟩;have:y≠n:=λe=>D (JH L g (e▸hi));simp [this,e]
  .exact .inr ⟨k,c,e,z.sameBut hs (I.dw y c e)⟩
 .obtain ⟨J,z⟩:=I.cell y c e;exact ⟨J,z.sameBut hs (I.dw y c e)⟩
 .obtain ⟨e,n,ne,nf,d⟩:=AJ (I.pin p hp);exact ⟨(hs.2 p.1 ne).trans e,n,ne,nf,d⟩
 .refine (I.aa b ob e).cU (λc J hc q=>(hs.2 c ?_).trans q) (λ_ q=>q) λ_ _ q=>q;rintro rfl;have z:=I.free;rcases hc with hc | hc
  .rw [hc,e] at z;cases z
  .rw [hc] at z;cases z
noncomputable abbrev Cx.tr (X:Cx)(Ew:Value->RY->Prop)(pins:List (Addr×Obj)):Cx:={ X with xe:=Ew,pn:=X.pn++pins }
noncomputable abbrev Cx.su (X:Cx)(ea:Addr):Cx:={ X with A:=X.A.mark (some (.ref ea)),calm:=false,xe:=λ_ _=>False }
theorem Ad.tr {d:Value->RY->Prop}{cY:List (Addr×Obj)}(I:Ad X (pins++cY) σ H s):Ad (X.tr d pins) cY σ H s :=
 ⟨⟨I.ok.mod,I.ok.kind,I.ok.glob,I.ok.blt,I.ok.above,I.ok.inj,I.ok.has,I.ok.cV,I.ok.hd,I.ok.frames,I.ok.dv,I.ok.cW,I.ok.bs,I.ok.bY,I.ok.cX,I.ok.cq,I.ok.bq,I.ok.cu⟩,I.os,I.bare,I.base,I.loc,I.cell,I.free,I.br,
  λp hp=>I.pin p (by rw [<- To];exact hp),I.aa,I.len⟩
theorem Ad.gy {d:Value->RY->Prop}{cY:List (Addr×Obj)}(I:Ad (X.tr d pins) cY σ H s):Ad X (pins++cY) σ H s :=
 ⟨⟨I.ok.mod,I.ok.kind,I.ok.glob,I.ok.blt,I.ok.above,I.ok.inj,I.ok.has,I.ok.cV,I.ok.hd,I.ok.frames,I.ok.dv,I.ok.cW,I.ok.bs,I.ok.bY,I.ok.cX,I.ok.cq,I.ok.bq,I.ok.cu⟩,I.os,I.bare,I.base,I.loc,I.cell,I.free,I.br,
  λp hp=>I.pin p (by show p∈(X.pn++pins)++cY;rw [To];exact hp),I.aa,I.len⟩
theorem Ad.su (d:Addr)(I:Ad X pins σ H s):Ad (X.su d) pins σ H s :=
 ⟨⟨I.ok.mod,I.ok.kind,I.ok.glob,I.ok.blt,I.ok.above,I.ok.inj,I.ok.has,I.ok.cV,(λz=>nomatch z),I.ok.frames,I.ok.dv,I.ok.cW,I.ok.bs,I.ok.bY,I.ok.cX,I.ok.cq,I.ok.bq,I.ok.cu⟩,I.os,I.bare,I.base,I.loc,I.cell,I.free,I.br,I.pin,I.aa,I.len⟩
theorem Ad.aaB {d:Cx}{g:Addr}(I:Ad (d.su g) pins σ H s)(hd:d.calm=true->d.A.handled=none):Ad d pins σ H s :=
 ⟨⟨I.ok.mod,I.ok.kind,I.ok.glob,I.ok.blt,I.ok.above,I.ok.inj,I.ok.has,I.ok.cV,hd,I.ok.frames,I.ok.dv,I.ok.cW,I.ok.bs,I.ok.bY,I.ok.cX,I.ok.cq,I.ok.bq,I.ok.cu⟩,I.os,I.bare,I.base,I.loc,I.cell,I.free,I.br,I.pin,I.aa,I.len⟩
def E9 (CX:BA)(X:Cx)(W:St->XK):Prop:=∀(pins:List (Addr×Obj))(σ:St)(H:Hp)(s:RY)(e:Value)(s':RY),Ad X pins σ H s->CX X.stack H s (W σ) e s'->X.xe e s'
def NH (K:R0)(Ch:Addr)(i:Nat)(tb:(Value->RY->Prop)->List (Addr×Obj)->(St->XK)->TS)(ts:Addr->TS):TS:=λD σ H=>∀ Ew pins,tb Ew pins (λσ' cls _ H'=>Xj K cls (.ref Ch)=some true/\∀ ea,H' ea=none ->
 ts ea { nx:=λσ2 H2=>D.nx (σ2.set i none) H2,rt:=D.rt,bk:=λσ2 H2=>D.bk (σ2.set i none) H2,ct:=λσ2 H2=>D.ct (σ2.set i none) H2 } (σ'.set i (some (.ref ea))) (upd H' ea (BN ea cls))) D σ H
theorem AbV {body fR:List Stmt}{b₀:Stmt}{x n:Str}{np gA pos:Pos}{i:Nat}{Ch:Addr}{tb:(Value->RY->Prop)->List (Addr×Obj)->(St->XK)->TS}{ts:Addr->TS}(hex:X.ex=[])(bt:X.stack=X.env :: X.outer)(jY:X.env.frame=some X.env.locals)(hm:X.mg x=some (.ref Ch))(hN:X.N.Nodup)(hi:X.N[i]?=some n)(hb:∀ Ew pins W,E9 (Bd X.prog X.w) (X.tr Ew pins) W->X6 (R4 X.prog X.w) X.A X.env Ew->Cr (X.tr Ew pins) body (tb Ew pins W))(hs:∀ d,Cr (X.su d) (b₀ :: fR) (ts d))(hx:Gl X x:=by rfl)(hl:X.env.scope.names.lookup n=some .local:=by rfl)(hd:(x == ("__debug__":Str))=false:=by decide) :
  PS X (.Try body [.ExceptHandler (some (.Name x np)) (some n) (b₀ :: fR) gA] [] [] pos) (NH X.K Ch i tb ts):=by
 intro pins s σ H D I h;refine wpAny_Try_except (TV (hb (λe s₁=>R1 (R4 X.prog X.w) X.A (Yp e X.env) (λ_ s₂=>R1 (R4 X.prog X.w) X.A (setFlight e none) (λ_ s₃=>R1 (R4 X.prog X.w) X.A (handleBy e X.env [.ExceptHandler (some (.Name x np)) (some n) (b₀ :: fR) gA]) (SP X pins D) X.xe s₃) X.xe s₂) X.xe s₁) pins _ ?_ PassesOwn.looking [] s σ H D (Ad.tr (by rw [S5];exact I)) (h _ _)) (λf s₁ q=>?_) λe s₁ q=>q)
 .-- an exception of a callee
  intro cY σ' H1 s1 e nJ I1 hcx;obtain ⟨d,cls,a0,B,H',rfl,L,fl,hw,hsu⟩:=ME (I1.gy.eR.nE hcx);show R1 _ _ (Yp _ _) _ _ _;rw [bt] at fl;have fr:X.A.frames=some (X.env :: X.outer):=by rw [<- bt];exact L.inv.ok.frames
  refine wpAny_looks_onW fr jY fl λh₄ aaC nK=>?_;refine wpAny_landsW aaC λh₅ jZ nM=>?_;have I5:=L.move (tk:=nJ.toks) jZ.1 (nK.trans nM);refine wpAny_handleBy_cons (codeAny_handlers_test (ET (X:=X.su d) (I5.su d) hx hm ?_ hd)) (by intro q;cases q);obtain ⟨ob,gB,aaD⟩:=Am jZ.there;have LT:PySem.W.Looks (R4 X.prog X.w) h₅ (typeOf (.ref d)) cls:=aaD▸(PySem.W.Looks.ld gB).andThen .now;refine (PySem.W.exm_one I5.aw LT hw).here ?_;rw [if_pos rfl];refine codeAny_handlers_suite_as ?_;refine lands_againW jZ λh₆ gC up₆=>?_;have I6:=L.move (tk:=nJ.toks) gC.1 ((nK.trans nM).trans up₆);have nO:H' d=none:=L.aa.out gC.2.1;obtain ⟨oe,vs,he,hc,nP,_⟩:=Bc gC.first
  have hs0:X.s₀.heap.get? d=none:=by
   cases q:X.s₀.heap.get? d with
   | none=>rfl
   | some o =>
    by_cases hf:d∈X.fs
    .obtain ⟨_,o1,e1,d1⟩:=I6.bq.mem hf;have bz:h₆.get? d=some o1:=e1;rw [he] at bz;cases bz;exact absurd nP (d1 vs)
    .by_cases j0:d∈X.ex
     .rw [hex] at j0;cases j0
     .obtain ⟨o',e'⟩:=L.there d o q hf j0;rw [gC.2.1] at e';cases e'
  have I7:=I6.aay (a:=d) (cls:=cls) nO ⟨oe,vs,he,hc,nP⟩ hs0 (λp hp z=>by
   have:=L.pin p hp;rw [z,gC.2.1] at this;cases this)
  refine JJ (X:=X.su d) (I7.su d) hN hi (.inl hl) (v:=.ref d) rfl (λs8 I8=>?_) (.inr hl);refine TV (hs d pins s8 _ _ _ I8 (hsu d nO)) (λf s9 q=>?_) λ_ _ z=>z.elim;have O:∀{σ2:St}{g:Hp}(J:Ad (X.su d) pins σ2 g s9){Q:Unit->RY->Prop},(∀ Y,Ad X pins (σ2.set i none) g Y->Q () Y) ->
    R1 (R4 X.prog X.w) X.A (do bindName X.env n .none;unbindBehindTheSuite X.env n gA) Q X.xe s9:=λ{σ2 g} J {Q} hq=>by
   obtain ⟨m,hn,hlk⟩:=Am (id J.loc);refine wpAny_nameGoes_keeps hl hn (by rw [I.ok.kind];rfl) λh' v jO b8=>hq _ ?_;exact (J.aaB I.ok.hd).unbind hN hi hn hlk jO b8
  show R1 _ _ _ _ _ _;cases f with
  | next =>
   obtain ⟨σ2,g,J,z⟩:=Bi q;exact O J λY V=>⟨_,_,V,z⟩
  | brk =>
   obtain ⟨σ2,g,J,z⟩:=Bi q;exact O J λY V=>⟨_,_,V,z⟩
  | cont =>
   obtain ⟨σ2,g,J,z⟩:=Bi q;exact O J λY V=>⟨_,_,V,z⟩
  | ret u =>
   obtain ⟨v,σ2,g,J,r,z⟩:=Cq q;exact O J λY V=>⟨v,_,_,V,r,z⟩
 .cases f with
  | next =>
   obtain ⟨σ2,g,J,z⟩:=Bi q;exact W8 ⟨σ2,g,by have:=J.gy;rw [S5] at this;exact this,z⟩
  | brk =>
   obtain ⟨σ2,g,J,z⟩:=Bi q;exact ⟨σ2,g,by have:=J.gy;rw [S5] at this;exact this,z⟩
  | cont =>
   obtain ⟨σ2,g,J,z⟩:=Bi q;exact ⟨σ2,g,by have:=J.gy;rw [S5] at this;exact this,z⟩
  | ret u =>
   obtain ⟨v,σ2,g,J,r,z⟩:=Cq q;exact ⟨v,σ2,g,by have:=J.gy;rw [S5] at this;exact this,r,z⟩
end
end L2
namespace L2
open PySem PySem.Spec PySem.Calls PyProof.Rows PySem.W PySem.Builtin PySem.Builtin.ObjectAttr PySem.Builtin.Getset_descriptor
open Sem (wp)
def AbW (ea:Addr)(cls:Value)(h:Heap):Prop:=∃ o vs,h.get? ea=some o/\o.cls=cls/\o.data=.fields vs
structure DL (K:Frag)(C:Addr):Prop where
 cls:(clsIn K C).isSome=true
 ga:findIn K (.ref C) "__getattribute__"=some (some (.builtin "BaseException.__getattribute__"))
 gt:findIn K (.ref C) "__getattr__"=some none
 cl:findIn K (.ref C) "__class__"=some (some (.builtin "object.__class__"))
 ob:subIn K (.ref C) (.type "object")=some true
 be:subIn K (.ref C) (.type "BaseException")=some true
section
variable {prog:R7}{w:R3}{A:Sj}{E:Value->RY->Prop}{K:Frag}{C ea:Addr}{h:Heap}{g:Array Ww}{d:Drawn}{t:Nat}{os:OsState}{o:Obj}
theorem J4 {M:U6}(hx:h.get? ea=some o)(hc:o.cls=.ref C):Looks M h (typeOf (.ref ea)) (.ref C):=hc▸(Looks.ld hx).andThen .now
theorem AbX {R:VF->RY->Prop}(X:K.In h)(c:DL K C)(hx:h.get? ea=some o)(hc:o.cls=.ref C)(hq:R (.ok (.ret (.ref C))) ⟨h,g,d,t,os⟩) :
  Tq (R4 prog w) A (.call (.builtin "getset_descriptor.__get__") ⟨[.builtin "object.__class__",.ref ea,.ref C],[]⟩) R ⟨h,g,d,t,os⟩:=by
 have p:=J4 (M:=R4 prog w) hx hc;have B:=looks_subIn (M:=R4 prog w) X c.ob;refine Yq KF.slot_gs.plain KF.entry_gs (KF.slot_gs.check _ _ _ _ _ _ _ _ KF.type_class (KF.args_gs _ _ _) ?_);unfold Builtin.«getset_descriptor.__get__» descrGet;rw [dga_obj];refine RZ (Sb ?_);unfold descrGetter descrCheckInstance descrNameAndClass isInstance;simp only [KF.owner_class];repeat lk
 refine ⟨Zu _ (by decide +kernel),VQ KF.entry_class ?_⟩;unfold Builtin.«object.__class__» shownTypeOf;repeat lk
 exact hq
theorem AbY {M:U6}{B:Value}{Q:Unit->RY->Prop}(X:K.In h)(c:DL K C)(hx:h.get? ea=some o)(hc:o.cls=.ref C)(hq:Q () ⟨h,g,d,t,os⟩) :
  R1 M A (Yr "BaseException.__getattribute__" ⟨[.ref ea,B],[]⟩) Q E ⟨h,g,d,t,os⟩:=by
 have hk:builtinKind "BaseException.__getattribute__"=some .slot:=by decide +kernel
 have p:splitId "BaseException.__getattribute__"=some ("BaseException","__getattribute__"):=by decide +kernel
 have D:=J4 (M:=M) hx hc;have H:=looks_subIn (M:=M) X c.be;have J:=F.args_bexc_ga (.ref ea) B;have I:Looks M h (isInstance (.ref ea) (.type "BaseException")) true:=D.andThen H;simp only [Yr,hk,p];refine RZ (I.at ?_);repeat (first | assumption | lk | wp_step)
theorem AbZ {tk:Tok}{Q:Fin->RY->Prop}(X:K.In h)(c:DL K C)(hx:h.get? ea=some o)(hc:o.cls=.ref C)(hq:Q (.done (.ret (.ref C))) ⟨h,g,d,t,os⟩) :
  R1 (R4 prog w) A (Builtin.«object.__getattribute__» ⟨[.ref ea,.str "__class__" tk],[]⟩) Q E ⟨h,g,d,t,os⟩:=by
 have p:(⟨h,g,d,t,os⟩:RY).TypeIs (.builtin "object.__class__") "getset_descriptor":=Zv;have L2:=looks_findIn (M:=R4 prog w) X c.cl;have B:=Zv;have D:=F.slot_gs_get.lookup;have H:=F.slot_gs_set.lookup;repeat (any_goals (first | assumption | (with_reducible refine Zw hx ?_;rw [hc]) | with_reducible refine L2.at ?_ | wp_step))
 refine AbX X c hx hc ?_;repeat (any_goals (first | assumption | wp_step))
theorem Ab0 {tk:Tok}{Q:Value->RY->Prop}(X:K.In h)(c:DL K C)(hx:h.get? ea=some o)(hc:o.cls=.ref C)(hq:Q (.ref C) ⟨h,g,d,t,os⟩) :
  R1 (R4 prog w) A (getAttrBy (.ref ea) (.str "__class__" tk) false) Q E ⟨h,g,d,t,os⟩:=by
 have H:=Zx.ga.bind (.ref ea);have p:(Xk "BaseException.__getattribute__" == Xk "object.__getattribute__")=false:=by decide +kernel
 have B:(onTheHeap (Sg C) && Xk "BaseException.__getattribute__" == Xk "object.__getattribute__")=false:=by rw [p];rfl
 have L2:=looks_findIn (M:=R4 prog w) X c.ga;have D:=looks_findIn (M:=R4 prog w) X c.gt;repeat (any_goals (first | assumption | (with_reducible refine Zw hx ?_;rw [hc]) | with_reducible refine L2.at ?_ | with_reducible refine D.at ?_ | wp_step))
 refine Yq Zx.ga.plain F.entry_bexc_ga (AbY X c hx hc (AbZ X c hx hc ?_));repeat (any_goals (first | assumption | wp_step))
theorem Ab1 {Q:Option Value->RY->Prop}(X:K.In h)(c:DL K C)(hx:h.get? ea=some o)(hc:o.cls=.ref C)(hq:Q (some (.ref C)) ⟨h,g,d,t+1,os⟩):R1 (R4 prog w) A (getAttr? (.ref ea) "__class__") Q E ⟨h,g,d,t,os⟩:=by unfold getAttr? getAttrBy?;repeat (any_goals (first | assumption | with_reducible apply Ab0 X c hx hc | wp_step))
theorem NI (c:DL K C):KitX K (.ref ea) (.ref C) (AbW ea (.ref C)) where
 ty:=λ_ _ _ D=>Az D λ_ _ e q _=>J4 e q
 it:=λ_ _ X _=>by
  obtain ⟨B,p⟩:=Ye.mp c.cls;unfold clsIn at p;split at p
  .rename_i c' d' cd' fL ho
   intro J L O V k q;unfold isType loadHead;exact RZ (Zg (k _ _ (X _ _ ho)) (Sb q))
  .cases p
 ne:=λh H Y its n sl X I=>by
  obtain ⟨B,p⟩:=Ye.mp c.cls;refine Wa.mpr λq=>?_;have e:C=H:=Value.ref.inj (beq_iff_eq.mp q);subst e;unfold clsIn at p;split at p
  .rename_i c' d' cd' fL ho
   have z:=(X _ _ ho).symm.trans I;cases z
  .cases p
 ca:=λ{prog w A E Q s} X ⟨o,vs,e,q,_⟩ k=>by
  obtain ⟨h,g,d,t,os⟩:=s;exact Ab1 X c e q k
end
end L2
namespace L2
open PySem PySem.Spec PyProof.Rows
mutual
inductive Is (K:R0)(H:Hp):V->PyData->Prop
 | ae:Is K H .ae .none
 | bl (b:Bool):Is K H (.bl b) (.bool b)
 | int (i:Int):Is K H (.int i) (.int i)
 | str (x:Str):Is K H (.str x) (.str x)
 | lst {a:Addr} {xs:List V} {ds:List PyData}:AZ K H a xs->aR K H xs ds->Is K H (.ref a) (.list ds)
 | tup {a:Addr} {xs:List V} {ds:List PyData}:A5 K H a xs->aR K H xs ds->Is K H (.ref a) (.tuple ds)
inductive aR (K:R0)(H:Hp):List V->List PyData->Prop
 | nil:aR K H [] []
 | cons {x:V} {xs:List V} {d:PyData} {ds:List PyData}:Is K H x d->aR K H xs ds->aR K H (x :: xs) (d :: ds)
end
theorem Ae.tup {K:R0}{H d:Hp}{a:Addr}{xs:List V}(e:Ae H d)(h:A5 K H a xs):A5 K d a xs:=by
 rcases h with (h | ⟨o,h⟩) | h
 .exact .inl (.inl (e _ _ h))
 .exact .inl (.inr ⟨o,e _ _ h⟩)
 .exact .inr h
section
variable {X:Cx}{pins:List (Addr×Obj)}{σ:St}{H H':Hp}{s:RY}{K:R0}
mutual
theorem Is.same:∀(d:PyData){x:V},Is K H x d->Ae H H'->Is K H' x d
 | .none,_,r,_=>by cases r;exact .ae
 | .bool _,_,r,_=>by cases r;exact .bl _
 | .int _,_,r,_=>by cases r;exact .int _
 | .str _,_,r,_=>by cases r;exact .str _
 | .list ds,_,r,e=>by cases r with | lst g p=>exact .lst (e.seq g) (aR.same ds p e)
 | .tuple ds,_,r,e=>by cases r with | tup g p=>exact .tup (e.tup g) (aR.same ds p e)
 | .dict _,_,r,_=>nomatch r
theorem aR.same:∀(ds:List PyData){xs:List V},aR K H xs ds->Ae H H'->aR K H' xs ds
 | [],_,r,_=>by cases r;exact .nil
 | d :: ds,_,r,e=>by cases r with | cons g p=>exact .cons (Is.same d g e) (aR.same ds p e)
end
mutual
theorem Is.reads:∀(d:PyData){x:V}{u:Value},Ad X pins σ H s->Is X.K H x d->AB x u->∃ g,Reads s.heap u d g
 | .none,_,_,_,r,q=>by cases r;cases q;exact ⟨_,.none⟩
 | .bool _,_,_,_,r,q=>by cases r;cases q;exact ⟨_,.bool _⟩
 | .int _,_,_,_,r,q=>by cases r;obtain ⟨t,rfl⟩:=q;exact ⟨_,.int _ _⟩
 | .str _,_,_,_,r,q=>by cases r;obtain ⟨t,rfl⟩:=q;exact ⟨_,.str _ _⟩
 | .list ds,_,_,I,r,q=>by
  cases r with
  | lst p B =>
   cases q;obtain ⟨its,D,⟨o,n,e,c,_,d⟩,_⟩:=Ax (I.list p);obtain ⟨g,J⟩:=aR.reads ds I B D;exact ⟨_,.list e c d (by simpa using J)⟩
 | .tuple ds,_,_,I,r,q=>by
  cases r with
  | tup p B =>
   cases q;obtain ⟨its,D,⟨o,e,c,n,d⟩,_⟩:=Ax (I.tuple p);obtain ⟨g,J⟩:=aR.reads ds I B D;exact ⟨_,.tuple e c d (by simpa using J)⟩
 | .dict _,_,_,_,r,_=>nomatch r
theorem aR.reads:∀(ds:List PyData){xs:List V}{us:List Value},Ad X pins σ H s->aR X.K H xs ds->Ar xs us->∃ g,ReadsAll s.heap us ds g
 | [],_,_,_,r,q=>by cases r;cases q;exact ⟨_,.nil⟩
 | d :: ds,_,_,I,r,q=>by
  cases r with
  | cons p B =>
   cases q with
   | cons D J =>
    obtain ⟨g,L⟩:=Is.reads d I p D;obtain ⟨bs,O⟩:=aR.reads ds I B J;exact ⟨_,.cons L O⟩
end
def GB (K:R0)(neg:Bool):R2:=λx y H Q=>∃ d d',Is K H x d/\Is K H y d'/\d.canLay0=true/\d'.canLay0=true/\d.depth<=32/\Q (.bl (if neg then !UR d d' else UR d d')) H
theorem Ab2 (hu:X.A.units+64<cLine):AU X (S1 .Eq) (GB X.K false):=by intro pins s σ H x y v u Q I p B ⟨d,g,D,J,L,O,hd,q⟩;obtain ⟨as,V⟩:=Is.reads d I D p;obtain ⟨bs,Y⟩:=Is.reads g I J B;exact SeqAt.rcAt_reads V Y L O (by have:=Xl d.depth g.depth;omega) _ _ _ _ ⟨.bl _,H,I,rfl,q⟩
theorem Ab3 (hu:X.A.units+64<cLine):AU X (S1 .NotEq) (GB X.K true):=by intro pins s σ H x y v u Q I p B ⟨d,g,D,J,L,O,hd,q⟩;obtain ⟨as,V⟩:=Is.reads d I D p;obtain ⟨bs,Y⟩:=Is.reads g I J B;exact SeqAt.rcNeAt_reads V Y L O (by have:=Xl d.depth g.depth;omega) _ _ _ _ ⟨.bl _,H,I,rfl,q⟩
end
noncomputable def DM {α:Type}(cs:List α)(lo hi:Option Int):List α:=(cs.drop (HT.aA cs.length 0 lo)).take (HT.aA cs.length cs.length hi - HT.aA cs.length 0 lo)
noncomputable def B9 (z:Str)(lo hi:Option Int):Str:=⟨(DM z.cps.toList lo hi).toArray⟩
theorem NJ (z:Str)(lo hi:Option Int):(B9 z lo hi).length<=z.length:=by show ((DM z.cps.toList lo hi).toArray).size<=z.cps.size;rw [SY];unfold DM;rw [SU,Ue];simp only [TC];omega
theorem NK (n:Nat)(o:Option Int):HT.aA n n o<=n:=HT.nj n n (Sh _) o
theorem NL (n:Nat)(o:Option Int):HT.aA n 0 o<=n:=HT.nj n 0 (S7 _) o
theorem Ab4 (a b:Nat):WL (a:Int) (b:Int) 1=(Uk (b - a)).map (λk=>a+k):=by
 unfold WL;simp only [show ((1:Int) > 0) from by decide,if_true];by_cases d:(a:Int)<b
 .have g:(((b:Int) - a+1 - 1) / 1).toNat=b - a:=by simp<;>omega
  simp only [d,if_true,g];refine List.map_congr_left λk _=>?_;omega
 .have:b - a=0:=by omega
  simp [d,this]
theorem NM (lo hi:Option Int)(n:Nat):Xm lo hi 1 n=(Uk (HT.aA n n hi - HT.aA n 0 lo)).map (λk=>HT.aA n 0 lo+k):=by
 have g:∀(v:Int)(d:Nat),max (0:Int) (min (if v<0 then v+(n:Int) else v) (n:Int))=((HT.aA n d (some v):Nat):Int):=by
  intro v d;rw [<- HT.aaj v n d];by_cases p:v<0
  .rw [if_pos p,if_pos p];omega
  .rw [if_neg p,if_neg p];omega
 rw [<- Ab4];cases lo with
 | none =>
  cases hi with
  | none=>rfl
  | some b =>
   show WL 0 (max (0:Int) (min (if b<0 then b+(n:Int) else b) (n:Int))) 1=_;rw [g b n];rfl
 | some a =>
  cases hi with
  | none =>
   show WL (max (0:Int) (min (if a<0 then a+(n:Int) else a) (n:Int))) (n:Int) 1=_;rw [g a 0];rfl
  | some b =>
   show WL (max (0:Int) (min (if a<0 then a+(n:Int) else a) (n:Int))) (max (0:Int) (min (if b<0 then b+(n:Int) else b) (n:Int))) 1=_;rw [g a 0,g b n]
theorem Ab5 (z:Str)(lo hi:Option Int):(Xm lo hi 1 z.length).filterMap (z.cps[·]?)=DM z.cps.toList lo hi:=by
 rw [NM];have g:=NK z.length hi;have p:=NL z.length lo;have d:z.cps.toList.length=z.length:=by simp [VL]
 unfold DM;rw [d];by_cases hc:HT.aA z.length 0 lo<=HT.aA z.length z.length hi
 .have:=PySem.StrLaws.picks z.cps.toList (HT.aA z.length z.length hi - HT.aA z.length 0 lo) (HT.aA z.length 0 lo) (by rw [d];omega);simpa using this
 .have e:HT.aA z.length z.length hi - HT.aA z.length 0 lo=0:=by omega
  rw [e];simp
theorem Ab6 (z:Str)(lo hi:Option Int)(h:(Xm lo hi 1 z.length).length=z.length):B9 z lo hi=z:=by
 rw [NM,R5,WM] at h;have B:=NK z.length hi;have D:=NL z.length lo;have d:z.cps.toList.length=z.length:=by simp [VL]
 unfold B9 DM;rw [d];by_cases H:z.length=0
 .have:z.cps.toList=[]:=VR.mp (by omega);rw [this];cases z with | mk c=>cases c;simp_all
 .have g:HT.aA z.length 0 lo=0:=by omega
  have p:HT.aA z.length z.length hi=z.length:=by omega
  rw [g,p,Xn,Xo,Vg (by omega)]
section
variable {X:Cx}
def J5:V->Option Int->Option Int->Hp->VK->Prop:=λx lo hi H Q=>∃ z,x=.str z/\z.length<=sizeLine/\Q (.str (B9 z lo hi)) H
theorem Ab7:D1 X J5:=by
 intro pins s σ H x v p B lo d sl Q I D J pl L h;replace h:=Ax h;obtain ⟨z,rfl,O,q⟩:=h
 obtain ⟨t,rfl⟩:=D;refine ⟨"str",_,F.slot_str_getitem.lookup,VM s z t,?_⟩;obtain ⟨l,V,Y⟩:∃ l,p=partValue l/\l.map (·.1)=lo:=by
  cases pl with
  | none=>exact ⟨none,rfl,rfl⟩
  | int i t=>exact ⟨some (i,t),rfl,rfl⟩
 obtain ⟨u,hu,g⟩:∃ u,B=partValue u/\u.map (·.1)=d:=by
  cases L with
  | none=>exact ⟨none,rfl,rfl⟩
  | int i t=>exact ⟨some (i,t),rfl,rfl⟩
 subst V hu;refine wpAny_getItem_str_slice (l:=l) (u:=u) (st:=none) J rfl ?_;unfold sliceMade slicePicked;simp only [Option.map_none,Yh,Y,g,beq_self_eq_true,Wb];by_cases hc:((Xm lo d 1 z.length).length == z.length)=true
 .rw [if_pos hc];rw [Ab6 z lo d (beq_iff_eq.mp hc)] at q;exact ⟨.str z,H,I,⟨t,rfl⟩,q⟩
 .rw [if_neg hc,Ab5];exact ⟨Sy (NJ z lo d) O,.str _,H,I.tok _,⟨_,rfl⟩,q⟩
noncomputable def Fb (z:Str)(n:Int):Str:=⟨(Ss n.toNat z.cps.toList).flatten.toArray⟩
def NO:R2:=λx y H Q=>∃ z n,x=.str z/\y=.int n/\0<=n/\n<2 ^ 40/\z.length * n.toNat<=sizeLine/\Q (.str (Fb z n)) H
end
end L2
namespace PySem.SeqAt
open AutoSeq1 (wpAny_loadPart')
open MeetsSeq MeetsSeq2 MeetsSeq3 SeqRoads2
end PySem.SeqAt
namespace L2
open PySem PySem.Spec PyProof.Rows
section
variable {X:Cx}
theorem Ab8:AU X (T7 .Mult) NO:=by
 intro pins s σ H x y v u Q I L O ⟨z,n,V,g,Y,hn,hz,q⟩;subst V g;obtain ⟨t,rfl⟩:=L;obtain ⟨t',rfl⟩:=O;have fold:∀(k:Nat)(d:List Nat),((Ss k z.cps).foldl (·++·) d.toArray)=(d++(Ss k z.cps.toList).flatten).toArray:=by
  intro k;induction k with
  | zero=>intro d;simp
  | succ k ih =>
   intro d;rw [Vf,Zo,Vf,V9];have e:d.toArray++z.cps=(d++z.cps.toList).toArray:=by simp
   rw [e,ih,To]
 have J:=fold n.toNat [];simp only [Zp] at J;have len:(Fb z n).length=z.length * n.toNat:=by show (List.flatten _).toArray.size=_;rw [SY,List.length_flatten,WN,List.sum_replicate_nat];simp [VL,Nat.mul_comm]
 have sl:sizeLine<=2 ^ 40:=by rw [R8];decide
 refine P.mul_str (by simp;omega) (λp _=>?_) (λ_ _=>?_) ?_
 .have B:0<n:=by omega
  have:((z.length:Int))<=(2 ^ 63 - 1) / n:=by
   rw [Int.le_ediv_iff_mul_le B];have:((z.length * n.toNat:Nat):Int)<=2 ^ 40:=by omega
   rw [Int.natCast_mul,Int.toNat_of_nonneg Y] at this;omega
  omega
 .unfold Builtin.Str.tooLong;rw [decide_eq_false_iff_not];omega
 .by_cases p:n<1
  .have e:n=0:=by omega
   subst e;rw [if_pos p];have g:Fb z 0=Sz:=rfl;rw [g] at q;exact ⟨by decide,.str _,H,I.tok _,⟨_,rfl⟩,q⟩
  .rw [if_neg p];by_cases D:(n == 1 || z.length == 0)=true
   .rw [if_pos D];have g:Fb z n=z:=by
     rcases Bool.or_eq_true_iff.mp D with h | h
     .have e:n=1:=beq_iff_eq.mp h;subst e;show (⟨(Ss 1 z.cps.toList).flatten.toArray⟩:Str)=z;simp
     .have e:z.length=0:=beq_iff_eq.mp h;have e':z.cps.toList=[]:=VR.mp (by simpa [VL] using e);unfold Fb;rw [e'];cases z with | mk c=>cases c;simp_all
    rw [g] at q;exact ⟨.str _,H,I,⟨_,rfl⟩,q⟩
   .rw [if_neg D];have g:(⟨(Ss n.toNat z.cps).foldl (·++·) #[]⟩:Str)=Fb z n:=by
     unfold Fb;rw [<- J]
    rw [g];exact ⟨by rw [len];exact hz,.str _,H,I.tok _,⟨_,rfl⟩,q⟩
def FL (z:Str):It:=⟨λi _=>i<z.cps.size,λi H x H'=>H'=H/\∃ c,z.cps.toList[i]?=some c/\x=.str ⟨#[c]⟩,λi _=>z.cps.size<=i⟩
theorem Ab9 {P:R7}{w:R3}{K:R0}{tg:R6}(z:Str)(t:Tok)(it:Addr):Eo P w K tg (FL z) [it] it (λi h=>h.IsStrIter it "str_ascii_iterator" z t i) where
 mem:=by simp
 obj:=λi h st b hb=>by
  have e:b=it:=by simpa using hb
  subst e;obtain ⟨o,e,c,d⟩:=Ax st;exact ⟨o,e,λv z=>by rw [d] at z;cases z⟩
 keep:=λi h g ⟨o,e,r⟩ k=>⟨o,k it (by simp) o e,r⟩
 item:=by intro X B hw D hc i pins s σ H E I p st J;subst B hw D;obtain ⟨L,f1,f2,O,V,Y⟩:=AJ (p it (by simp));have hx:z.cps[i]?=some z.cps[i]:=Ur J;refine wpAny_pyNext_ascii_item st hx λg aH sb=>?_;have I1:Ad X pins σ H { s with heap:=g,toks:=s.toks+1 }:=I.turned (t':=s.toks+1) (λb o hb e=>(sb.2 b hb).trans e) L f1 O V Y;obtain ⟨o,e,c,d⟩:=Ax (id aH);exact ⟨_,rfl,Gp (s:={ s with heap:=g,toks:=s.toks+1 }) e c d (by decide) ⟨.str _,H,I1,⟨_,rfl⟩,⟨rfl,z.cps[i],by rw [Zy];exact hx,rfl⟩,aH,λb hb=>(p b hb).1⟩⟩
 done:=by intro X B hw D hc i pins s σ H E I p st J;subst B hw D;obtain ⟨L,f1,f2,O,V,Y⟩:=AJ (p it (by simp));exact wpAny_pyNext_ascii_end (I.ok.hd hc) st (Zz J) λg eb=>⟨rfl,I.turned (t':=s.toks) (λb o hb e=>eb b o hb e) L f1 O V Y⟩
 self:=λ_ _ _ _ _ st h=>wpAny_pyIter_striter_ascii st h
def Aca (tl:TE):TI:=λσ H R=>tl σ H λx H1=>∃ z,x=.str z/\z.cps.all (·<128)=true/\R (FL z) H1
theorem J6 {D l:R6}{tl:TE}(J:PE X l tl):PI X D l (Aca tl):=by
 intro pins s σ H R I h;refine Al (J pins s σ H _ I h) λv d L=>Az L λx B g O p=>?_;replace p:=Ax p;obtain ⟨z,rfl,V,q⟩:=p
 obtain ⟨t,rfl⟩:=O;refine wpAny_pyIter_ascii V ?_;have Y:Ad X pins σ B { d with heap:=d.heap.push { cls:=.type "str_ascii_iterator",data:=.fields #[.str z t,.int 0 0] } }:=g.kept (t':=d.toks) λb ob q=>Sq _ q;exact ⟨_,[d.heap.objs.size],_,FL z,B,rfl,Y,Ab9 z t _,⟨_,SO _ rfl,rfl,rfl⟩,λb hb=>by
  have e:b=d.heap.objs.size:=by simpa using hb
  subst e;exact g.dY (Sh _) (g.aa.fresh (Sh _)),q⟩
theorem Acb:Bq X (.type "int") (λxs H Q=>∃ z n,xs=[.str z]/\Vh z=some n/\z.length<=640/\Q (.int n) H):=by intro pins s σ H xs g Q I r ⟨z,n,e,hn,d,q⟩;subst e;obtain ⟨u,rfl,t,rfl⟩:=Am r.one;exact PySem.W.KIN.call_text hn d ⟨.int n,H,I.tok _,⟨_,rfl⟩,q⟩
inductive GC (K:R0)(H:Hp):V->Value->Prop where
 | of {x:V} {t:Value} (h:C7 K H x t):GC K H x t
 | exc {a C:Addr} (e:H a=some (BN a (.ref C))) (c:DL K C):GC K H (.ref a) (.ref C)
theorem Acd {pins:List (Addr×Obj)}{σ:St}{H:Hp}{s:RY}{A:Sj}{E:Value->RY->Prop}{Q:Value->RY->Prop}{c:Value}{b:Bool}{x:V}{u t:Value}(I:Ad X pins σ H s)(d:AB x u)(ty:GC X.K H x t)(e:TQ X.K t c=some b)(h:∀ tk,Q (.bool b) { s with toks:=tk }) :
  R1 (R4 X.prog X.w) A (call (.builtin "isinstance") [u,c]) Q E s:=by
 cases ty with
 | of ty=>exact Aa9 I d ty e h
 | @exc a C g B =>
  cases (show u=Sg a from d);obtain ⟨p,_⟩:=(show A4 X.prog X.w H s.heap a (BN a (.ref C)) from I.aa a _ g);exact Uc (NI B) I.aw p e (λz=>nomatch z) h
noncomputable def Fc:V->Option Value
 | .ref a=>some (.ref a)
 | .ty n=>some (.type n)
 | _=>none
theorem NP {c:V}{u v:Value}(e:Fc c=some v)(r:AB c u):u=v:=by cases c<;>simp only [Fc] at e<;>first | (cases e;done) | (cases e;exact r)
theorem Ace:Bq X (.builtin "isinstance") (λxs H Q=>∃ x c t v b,xs=[x,c]/\GC X.K H x t/\Fc c=some v/\TQ X.K t v=some b/\Q (.bl b) H):=by intro pins s σ H xs p Q I r ⟨x,c,t,v,b,e,ty,hc,hk,q⟩;subst e;obtain ⟨u,w,rfl,d,g⟩:=Bc r.two;cases NP hc g;exact Acd I d ty hk λB=>⟨.bl b,H,I.tok _,rfl,q⟩
theorem NQ:∀{d:List V}{us vs:List Value},d.mapM Fc=some vs->Ar d us->us=vs
 | [],_,vs,e,r=>by cases r;simp at e;exact e.symm
 | c :: d,_,vs,e,r=>by
  cases r with
  | cons p r2 =>
   simp only [List.mapM_cons,Option.bind_eq_bind,Option.bind_eq_some_iff,Option.pure_def,Option.some.injEq] at e;replace e:=Am e;obtain ⟨v,B,D,g,rfl⟩:=e
   rw [NP B p,NQ g r2]
theorem Acf:Bq X (.builtin "isinstance") (λxs H Q=>∃ a C p d vs b,xs=[.ref a,.ref p]/\H a=some (BN a (.ref C))/\DL X.K C/\H p=some (.tup d)/\d.mapM Fc=some vs/\Wc X.K (.ref C) vs=some b/\Q (.bl b) H):=by intro pins s σ H xs us Q I r ⟨a,C,p,d,vs,b,e,D,J,hp,hc,hk,q⟩;subst e;obtain ⟨u,w,rfl,L,O⟩:=Bc r.two;cases (show u=Sg a from L);cases (show w=Sg p from O);obtain ⟨V,_⟩:=(show A4 X.prog X.w H s.heap a (BN a (.ref C)) from I.aa a _ D);obtain ⟨_,its,Y,⟨cls,dd,data,sl⟩,e1,g,n,B⟩:=(show A4 X.prog X.w H s.heap p (.tup d) from I.aa p _ hp);simp only at g B;subst g B;cases NQ hc Y;exact PySem.W.kia_tup (NI J) I.aw V e1 hk (λz=>nomatch z) λtk=>⟨.bl b,H,I.tok _,rfl,q⟩
theorem Fd {e:R6}{p:TE}{pos:Pos}(J:PE X e p):PE X (.FormattedValue e 114 none pos) (λσ H Q=>p σ H λx d=>∃ z,x=.str z/\(Ys z).length<=sizeLine/\Q (.str (Ys z)) d):=by
 intro pins s σ H Q I h;refine wpAny_FormattedValue_repr (Al (J pins s σ H _ I h) λv V L=>Az L λx d B O g=>?_);replace g:=Ax g;obtain ⟨z,rfl,D,q⟩:=g
 obtain ⟨t,rfl⟩:=O;refine wpAny_pyReprObj_gives (VM _ _ _) F.slot_str_repr F.entry_str_repr (F.args_str_repr_1 _) (gives_str_repr z t) ?_ rfl D;exact ZA ⟨.str _,d,B.tok _,⟨_,rfl⟩,q⟩ ⟨.str _,d,B.tok _,⟨_,rfl⟩,q⟩ D
abbrev TJ:=Str->St->Hp->(Str->Hp->Prop)->Prop
def PJ (X:Cx)(es:List R6)(t:TJ):Prop:=∀(acc:Str)(pins:List (Addr×Obj))(s:RY)(σ:St)(H:Hp)(Q:Str->Hp->Prop),Ad X pins σ H s->t acc σ H Q ->
 Joins (R4 X.prog X.w) X.A X.xe (evalEach es X.env) acc (λout s₁=>∃ H',Ad X pins σ H' s₁/\Q out H') s
theorem Fe:PJ X [] (λd _ H Q=>Q d H):=λ_ _ _ _ H _ I h=>⟨H,I,h⟩
theorem BJ {e:R6}{es:List R6}{B:TE}{D:TJ}(J:PE X e B)(hs:PJ X es D)(L:evalEach (e :: es) X.env=Sf e X.env :: evalEach es X.env:=by rfl) :
  PJ X (e :: es) (λd σ H Q=>B σ H λx g=>∃ y,x=.str y/\(d++y).length<=sizeLine/\D (d++y) σ g Q):=by
 intro d pins s σ H Q I h;rw [L];refine Al (J pins s σ H _ I h) λv O V=>Az V λx g Y r1 p=>?_;replace p:=Ax p;obtain ⟨y,rfl,hz,q⟩:=p
 obtain ⟨t,rfl⟩:=r1;exact ⟨y,t,rfl,hz,hs _ pins O σ g Q Y q⟩
theorem Joins.imp {M:U6}{A:Sj}{E:Value->RY->Prop}{Q g:Str->RY->Prop}(hq:∀ x s,Q x s->g x s):∀{l:List (Sem Value)}{d:Str}{s:RY},Joins M A E l d Q s->Joins M A E l d g s
 | [],_,_,h=>hq _ _ h
 | x :: rest,d,s,h=>Al (t:=x) h λv D p=>Az p λy t e B r=>⟨y,t,e,B,Joins.imp hq r⟩
theorem Ff {e g:R6}{es:List R6}{p:TJ}{pos:Pos}(h:PJ X (e :: g :: es) p):PE X (.JoinedStr (e :: g :: es) pos) (λσ H Q=>p Sz σ H λout d=>out.length<=sizeLine/\Q (.str out) d):=by intro pins s σ H Q I hw;refine wpAny_JoinedStr (Joins.imp (λout J ⟨d,B,D,q⟩=>?_) (h Sz pins s σ H _ I hw));exact ⟨D,.str out,d,B.tok _,⟨_,rfl⟩,q⟩
end
section
variable {P:R7}{w:R3}{K:R0}{mg:Str->Option Value}{base:Heap}
theorem AW.cw {x d:Str}{st:Stmt}{f:Addr}{p:Sr}{N ps:List Str}{k:Nat}{sp:Sp}(F:AW K x d st f p)(S:A8 N ps (Ab st))(B:∀ (g:Value) (A:Sj) (outer:List Env) (s:RY) (H:Hp) (vs:List V) (Q:VK) (E:XK),Bb k (A.deeper (Uz d (Ab st) s.heap.objs.size f g))->sp vs H Q E ->
   ∃ t,Cr (CB (Bd P w) P w K mg base N d (Ab st) f g A outer s H E) (CY st) t/\t { nx:=λ_ D=>Q .ae D,rt:=Q } (CN N vs) H)(len:∀ vs H Q E,sp vs H Q E->vs.length=ps.length:=by intro _ _ _ _ h;repeat (first | exact congrArg Xf h.1 | obtain ⟨_,h⟩:=h)):AE P w K mg base (Bd P w) (k+1) f p ps sp:=by
 obtain ⟨Y,od,kV,I,pm,an,g,ct,dA,rfl,lk,J⟩:=JG F.ex;exact Np lk J S len λA outer s H vs Q E L O=>B g A outer s H vs Q E L O
def Bf (P:R7)(w:R3)(K:R0)(mg:Str->Option Value)(base:Heap)(CX:BA)(k:Nat)(x:Str)(ps:List Str)(sp:Sp):Prop :=
 ∃ f fd,mg x=some (.ref f)/\Td K (.ref f)=true/\Ct K fd ps []/\AE P w K mg base CX k f fd ps sp
end
section
variable {X:Cx}{CX:BA}{k:Nat}{x:Str}{ps:List Str}{sp:Sp}{p pos:Pos}{e:R6}{es:List R6}{t:TA}
theorem Acg {E:XK}(D:Bf X.prog X.w X.K X.mg X.base CX k x ps sp)(d:Bb k X.A)(hx:CM CX X E)(g:PA X (e :: es) t)(B:Gl X x:=by rfl)(H:(x == ("__debug__":Str))=false:=by decide)(I:Se (e :: es) X.env=(false,Sf e X.env) :: Se es X.env:=by rfl)(J:(SJ pos (Se es X.env)).any (·.1)=false:=by rfl) :
  PE X (.Call (.Name x p) (e :: es) [] pos) (HJ sp [] E t):=by
 obtain ⟨f,fd,L,O,V,Y⟩:=Bc D;exact Abg Y d B L O V .nil hx g H I J
def NR (sp:Sp)(W:St->XK)(t:TA):TE:=λσ H Q=>t σ H λvs H1=>sp vs H1 Q (W σ)
theorem Ach {W:St->XK}(D:Bf X.prog X.w X.K X.mg X.base CX k x ps sp)(L:Bb k X.A)(hx:E9 CX X W)(O:PA X (e :: es) t)(V:Gl X x:=by rfl)(Y:(x == ("__debug__":Str))=false:=by decide)(he:Se (e :: es) X.env=(false,Sf e X.env) :: Se es X.env:=by rfl)(az:(SJ pos (Se es X.env)).any (·.1)=false:=by rfl) :
  PE X (.Call (.Name x p) (e :: es) [] pos) (NR sp W t):=by
 obtain ⟨f,fd,hm,hk,hb,F⟩:=Bc D;intro pins s σ H Q I h;refine VI (ET I V hm ?_ Y);refine Vb (h₀:=X.base) I.ok.mod.bS hk (Al (O pos pins s σ H _ I h) λg B zz=>Az zz λvs J d r q=>⟨d.aw,?_⟩) he az;have hl:(g++[]).length=ps.length:=by rw [S5,<- r.length];exact F.len _ _ _ _ q
 refine V7 (UM (F.run X.A X.stack B J ⟨g,[]⟩ g vs Q (W σ) L d.gm (by simpa using hb B g d.aw hl) r q) λr s' hq=>?_);cases r with
 | error e=>exact hx pins σ J B e s' d hq
 | ok fl =>
  cases fl with
  | ret u=>exact d.after hq
  | next=>exact Tn hq
  | brk=>exact Tn hq
  | cont=>exact Tn hq
end
section
variable {X:Cx}
theorem AL:AU X (T7 .Add) (λx y H Q=>(∃ i j,x=.int i/\y=.int j/\Q (.int (i+j)) H)\/(∃ i j,x=.str i/\y=.str j/\i.length+j.length<=sizeLine/\Q (.str (i++j)) H)\/NA x y H Q):=AaL.or (AaW.or AbK)
theorem BO:AU X (T7 .Mult) (λx y H Q=>(∃ i j,x=.int i/\y=.int j/\Gs i j/\Q (.int (i * j)) H)\/NO x y H Q\/NB x y H Q):=AaM.or (Ab8.or AbM)
theorem B4 (hu:X.A.units+64<cLine):AU X (S1 .Eq) (λx y H Q=>M0 x y H Q\/GB X.K false x y H Q):=AaP.or (Ab2 hu)
theorem Ca (hu:X.A.units+64<cLine):AU X (S1 .NotEq) (λx y H Q=>JQ x y H Q\/GB X.K true x y H Q):=AaQ.or (Ab3 hu)
noncomputable def D6 (i j:Str):Bool:=!(X7 j i 0 j.length 1).isEmpty
theorem HQ:AU X (S1 .In) (λx y H Q=>(∃ i j,x=.str i/\y=.str j/\Q (.bl (D6 i j)) H)\/FJ X.K false x y H Q):=AaS.or AbA
theorem J7:AU X (S1 .NotIn) (λx y H Q=>(∃ i j,x=.str i/\y=.str j/\Q (.bl (!D6 i j)) H)\/FJ X.K true x y H Q):=AbC.or AbB
theorem Bl:Bq X (.builtin "len") (λxs H Q=>(∃ z,xs=[.str z]/\z.length<=sizeLine/\Q (.int z.length) H)\/∃ p ys,xs=[.ref p]/\(AZ X.K H p ys\/A5 X.K H p ys)/\Q (.int ys.length) H):=AbE.or AbD
theorem DN:Bq X (.builtin "isinstance") (λxs H Q=>(∃ x c t v b,xs=[x,c]/\GC X.K H x t/\Fc c=some v/\TQ X.K t v=some b/\Q (.bl b) H) \/
 ∃ a C p d vs b,xs=[.ref a,.ref p]/\H a=some (BN a (.ref C))/\DL X.K C/\H p=some (.tup d)/\d.mapM Fc=some vs/\Wc X.K (.ref C) vs=some b/\Q (.bl b) H):=Ace.or Acf
theorem Aci:Bq X (.type "int") (λxs H Q=>∃ z n,xs=[.str z]/\Vh z=some n/\z.length<=640/\Q (.int n) H):=Acb
theorem BP:D1 X (λx lo hi H Q=>J5 x lo hi H Q\/J0 X.K x lo hi H Q):=Ab7.or Aby
end
theorem Ez {α:Type}{xs:List α}{k:Int}(g:0<=k)(h:k<xs.length):∃ v,BI xs k=some v/\xs[k.toNat]?=some v:=by
 have d:k.toNat<xs.length:=by omega
 refine ⟨xs[k.toNat],?_,SH d⟩;unfold BI EZ;rw [if_pos g,if_pos h];exact SH d
theorem GD {ns:List Int}{k:Int}(p:0<=k)(h:k<ns.length):BI (ns.map V.int) k=some (.int (ns.getD k.toNat 0)):=by
 obtain ⟨v,B,d⟩:=Am (Ez (xs:=ns.map V.int) p (by simpa using h));have g:k.toNat<ns.length:=by omega
 rw [SK,SH g] at d;cases d;rw [B];simp [Tf,SH g]
theorem Ae.upd {H d:Hp}{p:Addr}{o:HO}(s:Ae H d)(h:d p=none):Ae H (upd d p o):=λb B e=>by
 have g:=s b B e;rw [Ak (Be g h)];exact g
theorem Ae.bN {H d:Hp}{p:Addr}{o:HO}(s:Ae H d)(h:H p=none):Ae H (L2.upd d p o):=λb g e=>by
 rw [Ak (Be e h)];exact s b g e
structure Nm (sc:Scope)(x:Str):Prop where
 loc:sc.names.lookup x=some .local
 db:(x == ("__debug__":Str))=false
 cd:(x == ("__classdict__":Str))=false
structure Gm (sc:Scope)(x:Str):Prop where
 gl:sc.names.lookup x=some .globalImplicit
 db:(x == ("__debug__":Str))=false
 nn:x≠"__name__"
theorem Nm.of {sc:Scope}{x:Str}(a:sc.names.lookup x=some .local:=by decide +kernel)(b:(x == ("__debug__":Str))=false:=by decide +kernel)(c:(x == ("__classdict__":Str))=false:=by decide +kernel):Nm sc x:=⟨a,b,c⟩
theorem Gm.of {sc:Scope}{x:Str}(a:sc.names.lookup x=some .globalImplicit:=by decide +kernel)(b:(x == ("__debug__":Str))=false:=by decide +kernel)(c:x≠"__name__":=by decide +kernel):Gm sc x:=⟨a,b,c⟩
theorem A8.of {N P:List Str}{sc:Scope}(a:sc.kind=.function:=by rfl)(b:sc.isCoroutine=false:=by rfl)(c:sc.isGenerator=false:=by rfl)(d:N.Nodup:=by decide +kernel)(e:N.take P.length=P:=by rfl)(f:∀ x∈P,sc.names.lookup x=some .local\/sc.names.lookup x=some .cell:=by decide +kernel)(g:∀ y∈sc.names,y.2≠.free:=by decide +kernel):A8 N P sc:=⟨a,b,c,d,e,f,g⟩
theorem Bg:Ta "len"=some (.builtin "len"):=by decide +kernel
theorem DO:Ta "isinstance"=some (.builtin "isinstance"):=by decide +kernel
theorem J8:Ta "int"=some (.type "int"):=by decide +kernel
theorem Acj:Ta "bool"=some (.type "bool"):=by decide +kernel
theorem HR:Ta "str"=some (.type "str"):=by decide +kernel
theorem J9:Ta "list"=some (.type "list"):=by decide +kernel
theorem HS:Ta "tuple"=some (.type "tuple"):=by decide +kernel
theorem Ka:Ta "set"=some (.type "set"):=by decide +kernel
theorem NS:Ta "ValueError"=some (.type "ValueError"):=by decide +kernel
theorem Ack:Ta "min"=some (.builtin "min"):=by decide +kernel
theorem Acl:Ta "max"=some (.builtin "max"):=by decide +kernel
theorem DP:Ta "sorted"=some (.builtin "sorted"):=by decide +kernel
theorem Acm:Ta "all"=some (.builtin "all"):=by decide +kernel
section
variable {X:Cx}{x:Str}{pos p:Pos}
theorem Aa (i:Nat)(n:Nm X.env.scope x)(d:X.N[i]?=some x:=by rfl):PE X (.Name x pos) (FF i):=JK d (Sd n.loc) n.db n.cd
theorem A9 (i:Nat)(d:X.N.Nodup)(n:Nm X.env.scope x)(g:X.N[i]?=some x:=by rfl):PG X (.Name x pos) (Ba i):=MN d g (Sd n.loc) (R9 n.loc)
theorem AG (i:Nat){e:R6}{g:TE}{d:Pos}(B:X.N.Nodup)(n:Nm X.env.scope x)(D:PE X e g)(H:X.N[i]?=some x:=by rfl)(hs:U7 e (some (.Name x d)) pos.line X.env=pure false:=by rfl) :
  PS X (.Assign [.Name x d] e pos) (EV g (Ba i)):=MR B H (Sd n.loc) D hs (R9 n.loc)
theorem BK {v:V}{u:Value}(g:Gm X.env.scope x)(d:X.mg x=some u)(r:AB v u):PE X (.Name x pos) (tC v):=Aak g.gl d r g.db
theorem HU {v:V}{u:Value}(g:Gm X.env.scope x)(d:X.mg x=none)(B:Ta x=some u)(r:AB v u):PE X (.Name x pos) (tC v):=Aal g.gl d B r g.nn g.db
variable {e:R6}{es:List R6}{t:TA}{id T:String}{r:List V->Hp->VK->Prop}
theorem AH (hc:Bq X (.builtin id) r)(g:Gm X.env.scope x)(d:X.mg x=none)(B:Ta x=some (.builtin id))(D:PA X (e :: es) t)(H:Se (e :: es) X.env=(false,Sf e X.env) :: Se es X.env:=by rfl)(I:(SJ pos (Se es X.env)).any (·.1)=false:=by rfl):PE X (.Call (.Name x p) (e :: es) [] pos) (HL r t):=Abm hc g.gl d B D g.nn g.db H I
theorem CF (hc:Bq X (.type T) r)(g:Gm X.env.scope x)(d:X.mg x=none)(B:Ta x=some (.type T))(D:PA X (e :: es) t)(H:Se (e :: es) X.env=(false,Sf e X.env) :: Se es X.env:=by rfl)(I:(SJ pos (Se es X.env)).any (·.1)=false:=by rfl):PE X (.Call (.Name x p) (e :: es) [] pos) (HL r t):=Abn hc g.gl d B D g.nn g.db H I
theorem Bh {CX:BA}{k:Nat}{ps:List Str}{sp:Sp}{E:XK}(D:Bf X.prog X.w X.K X.mg X.base CX k x ps sp)(g:Gm X.env.scope x)(d:Bb k X.A)(hx:CM CX X E)(B:PA X (e :: es) t)(H:Se (e :: es) X.env=(false,Sf e X.env) :: Se es X.env:=by rfl)(I:(SJ pos (Se es X.env)).any (·.1)=false:=by rfl) :
  PE X (.Call (.Name x p) (e :: es) [] pos) (HJ sp [] E t):=Acg D d hx B g.gl g.db H I
theorem Acn {CX:BA}{k:Nat}{ps:List Str}{sp:Sp}{W:St->XK}(D:Bf X.prog X.w X.K X.mg X.base CX k x ps sp)(g:Gm X.env.scope x)(d:Bb k X.A)(hx:E9 CX X W)(B:PA X (e :: es) t)(H:Se (e :: es) X.env=(false,Sf e X.env) :: Se es X.env:=by rfl)(I:(SJ pos (Se es X.env)).any (·.1)=false:=by rfl) :
  PE X (.Call (.Name x p) (e :: es) [] pos) (NR sp W t):=Ach D d hx B g.gl g.db H I
theorem FN {B b:R6}{d:TA}(g:Gm X.env.scope "range")(D:X.mg "range"=none)(H:PA X [b] d)(hs:Se [b] X.env=[(false,Sf b X.env)]:=by rfl):PI X B (.Call (.Name "range" p) [b] [] pos) (MV d):=AaE g.gl D H hs
theorem CG {W:St->XK}{C:Addr}{B d:Pos}(D:J3 X W)(g:Gm X.env.scope x)(hc:X.calm=true)(q:Ts X.K C [.type "ValueError",.type "Exception",.type "BaseException",.type "object"] "ValueError.__new__"=true)(H:X.mg x=some (.ref C))(I:PA X (e :: es) t)(J:Se (e :: es) X.env=(false,Sf e X.env) :: Se es X.env:=by rfl)(L:(SJ d (Se es X.env)).any (·.1)=false:=by rfl) :
  PS X (.Raise (some (.Call (.Name x B) (e :: es) [] d)) none pos) (NG W C t):=AbU D hc q H I g.gl g.db J L
theorem NT {body B:List Stmt}{D:Stmt}{n:Str}{L O:Pos}(i:Nat){H:Addr}{I:(Value->RY->Prop)->List (Addr×Obj)->(St->XK)->TS}{ts:Addr->TS}(g:Gm X.env.scope x)(nm:Nm X.env.scope n)(Y:X.mg x=some (.ref H))(nd:X.N.Nodup)(hb:∀ d pins W,E9 (Bd X.prog X.w) (X.tr d pins) W->X6 (R4 X.prog X.w) X.A X.env d->Cr (X.tr d pins) body (I d pins W))(hs:∀ J,Cr (X.su J) (D :: B) (ts J))(hi:X.N[i]?=some n:=by rfl)(hex:X.ex=[]:=by rfl)(bt:X.stack=X.env :: X.outer:=by rfl)(jY:X.env.frame=some X.env.locals:=by rfl) :
  PS X (.Try body [.ExceptHandler (some (.Name x L)) (some n) (D :: B) O] [] [] pos) (NH X.K H i I ts):=AbV hex bt jY Y nd hi hb hs g.gl nm.loc g.db
end
noncomputable def GF:R6->Option V
 | .Constant (.int i) _ _=>some (.int i)
 | .Constant (.str x) _ _=>some (.str x)
 | .Constant (.bool b) _ _=>some (.bl b)
 | .Constant .none _ _=>some .ae
 | _=>none
noncomputable def Kb:List R6->Option (List V)
 | []=>some []
 | e :: es=>match GF e,Kb es with
  | some v,some vs=>some (v :: vs)
  | _,_=>none
section
variable {X:Cx}
theorem Aco {e:R6}{v:V}(h:GF e=some v):PE X e (tC v):=by unfold GF at h;split at h<;>first | (cases h;first | exact Ag | exact Ay | exact Du | exact Ci) | cases h
theorem Acp {e:R6}{v:V}(h:GF e=some v)(es:List R6):Se (e :: es) X.env=(false,Sf e X.env) :: Se es X.env:=by unfold GF at h;split at h<;>first | rfl | cases h
theorem FO:∀{es:List R6}{vs:List V},Kb es=some vs->PA X es (λ_ H Q=>Q vs H)
 | [],vs,h=>by
  cases h;exact Af
 | e :: es,vs,h=>by
  unfold Kb at h;split at h
  .rename_i v vs' h1 h2
   cases h;exact Ac (Aco h1) (FO h2) (Acp h1 es)
  .cases h
end
theorem HV {env:Env}{x:Str}:∀{ns:List (Str×Vc)},(ns.map λ(n,k)=>if (k == Vi && env.scope.kind == .function && env.kindOf n == some .cell) then (n,NameKind.cell) else (n,k)).lookup x
   =(ns.lookup x).map λk=>if (k == Vi && env.scope.kind == .function && env.kindOf x == some .cell) then NameKind.cell else k
 | []=>rfl
 | (n,k) :: r=>by
  have ih:=@HV env x r;rw [Th];cases q:x == n with
  | true =>
   have e:x=n:=beq_iff_eq.mp q;subst e;rw [Vj,Vj,q];by_cases hc:(k == Vi && env.scope.kind == .function && env.kindOf x == some .cell)=true
   .simp only [hc,if_true,q,Vk]
   .simp only [hc,if_false,q,Vk,VS]
  | false =>
   rw [Vj,Vj,q];by_cases hc:(k == Vi && env.scope.kind == .function && env.kindOf n == some .cell)=true
   .simp only [hc,if_true,q];exact ih
   .simp only [hc,if_false,q,VS];exact ih
theorem HW {sc:Scope}{env:Env}{x:Str}(h:sc.names.lookup x=some .free):(Us sc env).names.lookup x=some .cell\/(Us sc env).names.lookup x=some .free:=by
 have e:(Us sc env).names.lookup x=_:=HV;rw [h] at e;rw [e,Vk];by_cases hc:(Vi == Vi && env.scope.kind == .function && env.kindOf x == some .cell)=true
 .rw [if_pos hc];exact .inl rfl
 .rw [if_neg hc];exact .inr rfl
theorem NU {sc:Scope}{env:Env}{x:Str}{k:Vc}(h:sc.names.lookup x=some k)(hk:(k == Vi)=false):(Us sc env).names.lookup x=some k:=by have e:(Us sc env).names.lookup x=_:=HV;rw [h,Vk,hk] at e;exact e
theorem Acq {sc:Scope}{env:Env}{x:Str}(hn:∀ y∈sc.names,y.2≠.cell)(h:(Us sc env).names.lookup x=some .cell\/(Us sc env).names.lookup x=some .free):sc.names.lookup x=some .free:=by
 have e:(Us sc env).names.lookup x=_:=HV;cases q:sc.names.lookup x with
 | none=>rw [q] at e;rw [e] at h;rcases h with z | z<;>cases z
 | some k =>
  rw [q,Vk] at e;cases k with
  | free=>rfl
  | cell=>exact absurd rfl (hn _ (UA q))
  | _=>rw [e] at h;rcases h with z | z<;>cases z
theorem Kc {env:Env}:∀(ns:List (Str×Vc))(d:List (Str×Addr)),(∀ y∈ns,y.2=.free->∃ c,env.cells.lookup y.1=some c)->(∀ x c,d.lookup x=some c->env.cells.lookup x=some c) ->
  ∃ g,(forIn ns d λ(x:Str×Vc) (r:List (Str×Addr))=>if (x.2 == .free)=true then do let c <- cellOf env x.1;pure (Xp ((x.1,c) :: r)) else pure (Xp r):Sem (List (Str×Addr)))=pure g /\
   (∀ x c,g.lookup x=some c->env.cells.lookup x=some c)/\(∀ y∈ns,y.2=.free->∃ c,g.lookup y.1=some c)/\∀ x c,d.lookup x=some c->∃ c',g.lookup x=some c'
 | [],d,_,B=>⟨d,rfl,B,λy hy=>by simp at hy,λx c e=>⟨c,e⟩⟩
 | (n,k) :: r,d,h1,B=>by
  rw [Yt];by_cases hk:k=.free
  .subst hk;obtain ⟨c,hc⟩:=h1 (n,.free) SS rfl;have hc:env.cells.lookup n=some c:=hc;obtain ⟨g,e,H,I,p⟩:=Kc r ((n,c) :: d) (λy hy=>h1 y (SI _ hy)) (λx c' e=>by
    rw [Vj] at e;cases q:x == n with
    | true=>rw [q] at e;cases e;rw [beq_iff_eq.mp q];exact hc
    | false=>rw [q] at e;exact B x c' e)
   refine ⟨g,?_,H,λy hy D=>?_,λx c' e=>?_⟩
   .have:cellOf env n=pure c:=by unfold cellOf;rw [hc]
    simp only [beq_self_eq_true,if_true,this,pure_bind];exact e
   .rcases Si.mp hy with z | z
    .subst z;exact p n c (by rw [Vj,beq_self_eq_true])
    .exact I y z D
   .cases q:x == n with
    | true=>exact p x c (by rw [Vj,q])
    | false=>exact p x c' (by rw [Vj,q];exact e)
  .have hb:(k == Vi)=false:=beq_eq_false_iff_ne.mpr hk;obtain ⟨g,e,H,I,p⟩:=Kc r d (λy hy=>h1 y (SI _ hy)) B;refine ⟨g,?_,H,λy hy D=>?_,p⟩
   .simp only [hb,VS,if_false,pure_bind];exact e
   .rcases Si.mp hy with z | z
    .subst z;exact absurd D hk
    .exact I y z D
theorem Kd {env:Env}{sc:Scope}(h:∀ y∈sc.names,y.2=.free->∃ c,env.cells.lookup y.1=some c) :
  ∃ d,closureFor sc env=pure d/\(∀ x c,d.lookup x=some c->env.cells.lookup x=some c)/\∀ y∈sc.names,y.2=.free->∃ c,d.lookup y.1=some c:=by
 obtain ⟨d,e,g,p,_⟩:=Kc sc.names [] h (λx c e=>by cases e);refine ⟨d,?_,g,p⟩;unfold closureFor;show (forIn sc.names ([]:List (Str×Addr)) _ >>= λr=>pure r)=_;rw [bind_pure];rw [<- e]
theorem Cb {α:Type}{M:U6}{A:Sj}{t:Sem α}{Q d:α->RY->Prop}{E:Value->RY->Prop}{s:RY}(h:R1 M A t Q (λ_ _=>False) s)(hq:∀ a s,Q a s->d a s):R1 M A t d E s:=TV h hq λ_ _ f=>f.elim
noncomputable def GG (ifs:List R6)(env:Env):Sem Bool:=forIn ifs true λc r=>if r=true then do let ok <- Wy c env (Sf c env);pure (Xp ok) else pure (Xp r)
theorem Acr {prog:R7}{w:R3}{A:Sj}{R:VF->RY->Prop}{s:RY}{d J iter:R6}{g:List R6}{sc:Scope}{pos:Pos}{it p:Value}{env:Env}(I:Nat->RY->Prop)(B:∀ n s,I n s->R1 (R4 prog w) A (Tg it) (λr L=>match r with
   | none=>R (.ok .next) L
   | some v=>R1 (R4 prog w) A (VC J it v) (λ_ V=>R1 (R4 prog w) A (T5 J env v) (λ_ Y=>R1 (R4 prog w) A (GG g env) (λok O =>
     if ok=true then R1 (R4 prog w) A (Sf d env) (λx s₅=>R1 (R4 prog w) A (call (.builtin "list.append") [p,x]) (λ_ s₆=>∃ m,m<n/\I m s₆) (λ_ _=>False) s₅) (λ_ _=>False) O
     else ∃ m,m<n/\I m O) (λ_ _=>False) Y) (λ_ _=>False) V) (λ_ _=>False) L) (λ_ _=>False) s)(n:Nat)(h:I n s):Tq (R4 prog w) A (.compLoop (.ListComp d [⟨J,iter,g,0⟩] sc pos) 0 it p env) R s:=by
 refine Yu rfl I (λn s hI=>?_) n h;show R1 _ A ((Xq (.ListComp d [⟨J,iter,g,0⟩] sc pos) 0 it p env).onRaise _) _ _ s;refine Yv ?_;rw [compTurn_list];refine RZ (US (RZ (Cb (B n s hI) λr L D=>?_)));match r,D with
 | none,D=>exact Sb D
 | some v,D =>
  refine RZ (Cb D λ_ V h₂=>RZ (Cb h₂ λ_ Y h₃=>RZ (Cb h₃ λok O H=>?_)));match ok,H with
  | false,H=>exact Sb ⟨rfl,H⟩
  | true,H=>exact RZ (RZ (Cb H λx s₅ h₅=>RZ (Cb h₅ λ_ s₆ h₆=>Sb (Sb ⟨rfl,h₆⟩))))
structure A1 (sc c7:Scope)(N' N:List Str)(aj:List (Option Nat)):Prop where
 kind:sc.kind=.function
 iS:∀ y∈sc.names,y.2≠.cell
 one:∀ y∈sc.names,y.2=.local->sc.names.lookup y.1=some .local
 frees:∀ y∈sc.names,y.2=.free->c7.names.lookup y.1=some .cell\/c7.names.lookup y.1=some .free
 nd:N'.Nodup
 len:aj.length=N'.length
 out:∀ i j:Nat,aj[i]?=some (some j)->∃ x,N'[i]?=some x/\N[j]?=some x/\sc.names.lookup x=some .free/\(c7.names.lookup x=some .cell\/c7.names.lookup x=some .free)
noncomputable def D7 (aj:List (Option Nat))(σ:St):St:=aj.map λo=>o.bind λj=>(σ[j]?).join
noncomputable def AF (X:Cx)(N':List Str)(sc:Scope)(cl:List (Str×Addr))(C:Addr)(fp:List Addr)(pins:List (Addr×Obj))(s₂:RY)(H₂:Hp):Cx :=
 { prog:=X.prog,w:=X.w,K:=X.K,mg:=X.mg,base:=X.base,A:=X.A,N:=N',s₀:=s₂,H₀:=H₂,env:=Xr sc cl C X.env,outer:=X.stack,stack:=X.stack,ex:=fp,fn:=λ_=>false,calm:=X.calm,pn:=X.pn++pins,xe:=λ_ _=>False }
section
variable {X:Cx}{N':List Str}{sc:Scope}{aj:List (Option Nat)}{cl:List (Str×Addr)}{C:Addr}{fp:List Addr}{pins:List (Addr×Obj)}{s₂:RY}{H₂:Hp}{σ:St}
theorem D8 (S:A1 sc X.env.scope N' X.N aj)(I:Ad X pins σ H₂ s₂)(g:∀ x c,cl.lookup x=some c->X.env.cells.lookup x=some c)(B:∀ y∈sc.names,y.2=.free->∃ c,cl.lookup y.1=some c)(p:s₂.heap.objs.size<=C)(d:∀ b∈fp,CA X pins H₂ b)(D:∀ b∈fp,∃ o,s₂.heap.get? b=some o):(AF X N' sc cl C fp pins s₂ H₂).Ok where
 mod:=I.ok.mod
 kind:=S.kind
 glob:=I.ok.glob
 blt:=I.ok.blt
 above:=p
 inj:=λx y c H J=>I.ok.inj x y c (g x c H) (g y c J)
 has:=λx hx=>B _ (UA (Acq S.iS hx)) rfl
 cV:=λx c L=>by cases L
 hd:=I.ok.hd
 frames:=I.ok.frames
 dv:=.inl rfl
 cW:=λb hb=>by
  obtain ⟨o,O⟩:=D b hb;exact ⟨Sw (SN (So O) p),λx c e=>(d b hb).2.2.2.2.1 x c (g x c e)⟩
 bs:=I.bs
 bY:=Sy I.ok.bY I.sz
 cX:=λb o e hb=>by
  rcases (d b hb).2.2.2.1 with z | z
  .exact I.ok.cX b o e z
  .exact absurd (SN (So (I.ok.bs b o e).1) z) (TK _)
 cq:=λb hb z=>(Si.mp (I.cC b z)).elim (d b hb).2.1 (d b hb).2.2.1
 bq:=I.stack
 cu:=I.jM
theorem Acs {D:Addr}{h₁:Heap}{tk:Nat}{m:Str->Option Value}(S:A1 sc X.env.scope N' X.N aj)(I:Ad X pins σ H₂ s₂)(J:∀ x c,cl.lookup x=some c->X.env.cells.lookup x=some c)(Y:∀ y∈sc.names,y.2=.free->∃ c,cl.lookup y.1=some c)(bA:∀ b∈fp,CA X pins H₂ b)(aY:∀ b∈fp,∃ o,s₂.heap.get? b=some o)(hD:D=s₂.heap.objs.size)(hC:C=s₂.heap.objs.size+1)(hk:∀ b o,(s₂.heap.push { cls:=.type "list",data:=.seq #[] }).get? b=some o->h₁.get? b=some o)(bh:h₁.Ns C m) :
  Ad (AF X N' sc cl C fp pins s₂ H₂) [] (D7 aj σ) (upd H₂ D (.lst [])) { s₂ with heap:=h₁,toks:=tk }:=by
 subst hD;have V:s₂.heap.objs.size<=C:=by rw [hC];exact Tr _
 have ok:=D8 S I J Y V bA aY;have I3:=I.iO (ys:=[]) (its:=[]) (t':=tk) .nil (S7 _);have I4:Ad X pins σ (upd H₂ s₂.heap.objs.size (.lst [])) { s₂ with heap:=h₁,toks:=tk }:=I3.kept (t':=tk) hk;have g:∀ b o,s₂.heap.get? b=some o->h₁.get? b=some o:=λb o e=>hk b o (Sq _ e);have gD:∀ b o,s₂.heap.get? b=some o->b≠s₂.heap.objs.size:=λb o e=>Sw (So e);have dZ:∀ x c,cl.lookup x=some c->∃ v o,s₂.heap.get? c=some o/\o.data=.cell v:=λx c e=>by
  obtain ⟨v,o,B,hd⟩:=Bi (I.cell x c (J x c e));exact ⟨v,o,B,hd⟩
 refine ⟨ok,rfl,I.bare,Un.laid g (Sh _) I.fresh,⟨m,bh,λi x v e1 e2 e3=>?_⟩,λx c e=>?_,?_,λx c e=>?_,λp hp=>?_,I4.aa,?_⟩
 .have H:(aj[i]?).map (λo=>o.bind λj=>(σ[j]?).join)=some (some v):=by
   have:=e2;unfold D7 at this;rwa [SK] at this
  cases q:aj[i]? with
  | none=>rw [q] at H;cases H
  | some oj =>
   rw [q,Vk] at H;cases oj with
   | none=>cases H
   | some j =>
    have L:(σ[j]?).join=some v:=by simpa using H
    have e5:σ[j]?=some (some v):=by
     cases z:σ[j]? with
     | none=>rw [z] at L;cases L
     | some w=>rw [z] at L;rw [<- L];rfl
    obtain ⟨x',n1,n2,n3,O⟩:=Ax (S.out i j q);have bz:N'[i]?=some x:=e1;rw [n1] at bz;cases bz;obtain ⟨m2,eW,hl⟩:=Am I.loc;have hv:FD X.env.scope x:=O.elim (λz=>.inr (.inl z)) λz=>.inr (.inr z);obtain ⟨u,r,l⟩:=Am (hl j x v n2 e5 hv);refine ⟨u,r,.inr ⟨HW n3,?_⟩⟩;rcases l with ⟨k,_⟩ | ⟨_,c,ec,z⟩
    .have k':X.env.scope.names.lookup x=some .local:=k;rcases O with z | z<;>rw [k'] at z<;>cases z
    .obtain ⟨c',d0⟩:=Y _ (UA n3) rfl;have:=J x c' d0;rw [ec] at this;cases this;obtain ⟨o,B,hd⟩:=Am z;exact ⟨c,d0,o,g c o B,hd⟩
 .obtain ⟨v,o,B,hd⟩:=Bi (dZ x c e);exact ⟨v,o,g c o B,hd⟩
 .show upd H₂ s₂.heap.objs.size (.lst []) C=none;rw [Ak (by rw [hC];exact Xs _)];exact I.aa.fresh V
 .obtain ⟨v,o,B,hd⟩:=Bi (dZ x c e);show upd H₂ s₂.heap.objs.size (.lst []) c=none;rw [Ak (gD c o B)];exact I.br x c (J x c e)
 .have bH:p∈X.pn++pins:=by simpa [AF] using hp
  obtain ⟨e,n,ne,nf,d⟩:=AJ (I.pin p bH);obtain ⟨_,O,_⟩:=AJ (I4.pin p bH);exact ⟨g _ _ e,O,Sw (SN (So e) V),λz=>(Si.mp (I.cC _ z)).elim ne nf,d⟩
 .show (aj.map _).length=N'.length;rw [R5];exact S.len
theorem Ke {g:Hp}{σ':St}{p:RY}(I:Ad X pins σ H₂ s₂)(d:∀ b∈fp,CA X pins H₂ b)(J:Ad (AF X N' sc cl C fp pins s₂ H₂) [] σ' g p):Ad X pins σ g p :=
 I.mZ J.os J.base J.aa J.bare λb hb=>⟨(d b hb).2.2.2.1,(d b hb).2.1,(d b hb).2.2.2.2.1,(d b hb).2.2.2.2.2⟩
def DQ (X:Cx)(ifs:List R6)(t:TT):Prop :=
 ∀(pins:List (Addr×Obj))(s:RY)(σ:St)(H:Hp)(Q:Bool->Hp->Prop),Ad X pins σ H s->t σ H Q->R1 (R4 X.prog X.w) X.A (GG ifs X.env) (TP X pins σ Q) X.xe s
def Acu:TT:=λ_ H Q=>Q true H
theorem D9 {X:Cx}:DQ X [] Acu:=λpins s σ H Q I h=>wpAny_tests_nil ⟨H,I,h⟩
theorem GH {X:Cx}{c:R6}{t:TT}(h:PT X c t):DQ X [c] t:=λpins s σ H Q I q=>wpAny_tests_one (h pins s σ H Q I q)
def Kf (aj:List (Option Nat))(wi:TI)(g:TG)(tt:TT)(te:TE):TE:=λσ H Q=>wi σ H λJ H1=>∀ D,H1 D=none->∃ W:Nat->Nat->St->Hp->Prop,(∃ m,W 0 m (D7 aj σ) (upd H1 D (.lst [])))/\∀ i m σ' H',W i m σ' H' ->
 (J.stop i H'/\Q (.ref D) H')\/(J.go i H'/\∃ N:St->Hp->Prop,(∀ σ2 H2,N σ2 H2->∃ m',m'<m/\W (i+1) m' σ2 H2)/\∀ x H2,J.bL i H' x H2->g x σ' H2 λσ3 H3=>tt σ3 H3 λb H4 =>
  if b=true then te σ3 H4 λv H5=>∃ ys,H5 D=some (.lst ys)/\ys.length<sizeLine/\N σ3 (upd H5 D (.lst (ys++[v]))) else N σ3 H4)
theorem NV {elt tg iter:R6}{V:List R6}{sc:Scope}{aj:List (Option Nat)}{N':List Str}{pos:Pos}{wi:TI}{g:TG}{tt:TT}{te:TE}{s:RY}{H:Hp}{use:Option (Value->Sem Unit)}{Qv:Value->RY->Prop}{Q:VK}(hc:X.calm=true)(S:A1 sc X.env.scope N' X.N aj)(hi:PI X tg iter wi)(hg:∀ cl C fp pins s₂ H₂,PG (AF X N' sc cl C fp pins s₂ H₂) tg g)(ht:∀ cl C fp pins s₂ H₂,DQ (AF X N' sc cl C fp pins s₂ H₂) V tt)(he:∀ cl C fp pins s₂ H₂,PE (AF X N' sc cl C fp pins s₂ H₂) elt te)(hs:∀ x,UJ iter X.env x=pure x)(I:Ad X pins σ H s)(h:Kf aj wi g tt te σ H Q)(post:∀ D C B s' m,(∀ h',S4 C s'.heap h'->Ad X pins σ B { s' with heap:=h' })->Ad X pins σ B s'->s'.heap.Ns C m->(∀ x c,X.env.cells.lookup x=some c->c≠C)->X.env.locals≠C->B C=none ->
   (∀ σ' Y h',Ad X pins σ' B Y->S4 C Y.heap h'->Ad X pins σ' B { Y with heap:=h' })->Q (.ref D) B->Wd (R4 X.prog X.w) X.A X.xe use Qv (.ref D) C (.ok .next) s') :
  R1 (R4 X.prog X.w) X.A (WO (.ListComp elt [⟨tg,iter,V,0⟩] sc pos) sc X.env (Yw [⟨tg,iter,V,0⟩] pos) (newList []) false (Sf iter X.env) use) Qv X.xe s:=by
 obtain ⟨cl,gE,aI,aX⟩:=Kd (env:=X.env) (sc:=sc) λy hy hf=>I.ok.has y.1 (S.frees y hy hf);refine Yx rfl hs gE S.kind S.one (Al (hi pins s σ H _ I h) λxv s₁ h₁=>Al h₁ λgj s₂ h₂=>?_);obtain ⟨it,fp,tn,J,H₂,e,O,T,d2,f₂,rd⟩:=Gh h₂;subst e;refine UT (Yy S.iS (by intro y hy;simp at hy) (λh₁ bh b8=>?_) S.kind);dsimp only at bh b8 ⊢;have aY:∀ b∈fp,∃ o,s₂.heap.get? b=some o:=λb hb=>let ⟨o,e,_⟩:=T.obj _ _ d2 b hb;⟨o,e⟩;have bT:(s₂.heap.push { cls:=.type "list",dict:=none,data:=.seq ([]:List Value).toArray }).objs.size=s₂.heap.objs.size+1:=Tb ..;have hk:∀ b o,(s₂.heap.push { cls:=.type "list",data:=.seq #[] }).get? b=some o->h₁.get? b=some o:=λb o e=>b8.extBut b o (Sw (So e)) (Sq _ e);have IB:=Acs (tk:=s₂.toks+([]:List (Str×Value)).length) S O aI aX f₂ aY rfl bT hk bh;generalize (s₂.heap.push { cls:=.type "list",dict:=none,data:=.seq ([]:List Value).toArray }).objs.size=C at bT bh b8 IB ⊢;generalize hD:s₂.heap.objs.size=D at IB bT ⊢;have aC:s₂.heap.objs.size<=C:=by rw [hD,bT];exact Tr _
 obtain ⟨W,⟨m0,w0⟩,turn⟩:=Am (rd D (by rw [<- hD];exact O.fresh));have cJ:∀{B:Hp},(∀ b∈fp,B b=none)->∀ b∈fp,CA (AF X N' sc cl C fp pins s₂ H₂) [] B b:=λhn b hb=>by
  obtain ⟨z1,z2⟩:=(D8 S O aI aX aC f₂ aY).cW b hb;exact ⟨hn b hb,z1,(D8 S O aI aX aC f₂ aY).cq b hb,.inl hb,z2,λp hp=>(f₂ b hb).2.2.2.2.2 p (by simpa [AF] using hp)⟩
 have gF:∀ b∈fp,(upd H₂ D (.lst [])) b=none:=λb hb=>by
  obtain ⟨o,ho⟩:=aY b hb;rw [Ak (by rw [<- hD];exact Sw (So ho))];exact (f₂ b hb).1
 have bj:tn 0 h₁:=T.keep _ _ _ d2 λb hb o e=>hk b o (Sq _ e);have loop:Tq (R4 X.prog X.w) X.A (.compLoop (.ListComp elt [⟨tg,iter,V,0⟩] sc pos) 0 (.ref it) (.ref D) (Xr sc cl C X.env)) (Wd (R4 X.prog X.w) X.A X.xe use Qv (.ref D) C) { s₂ with heap:=h₁,toks:=s₂.toks+([]:List (Str×Value)).length }:=by
  refine Acr (λn s'=>∃ i σ' B,Ad (AF X N' sc cl C fp pins s₂ H₂) [] σ' B s'/\tn i s'.heap/\(∀ b∈fp,B b=none)/\W i n σ' B) ?_ m0 ⟨0,_,_,IB,bj,gF,w0⟩;rintro n s3 ⟨i,σ3,H3,I3,cG,cH,w3⟩;rcases turn i n σ3 H3 w3 with ⟨stop,qn⟩ | ⟨go,N,hN,step⟩
  .refine Al (T.done (AF X N' sc cl C fp pins s₂ H₂) rfl rfl rfl hc i [] s3 σ3 H3 _ I3 (cJ cH) cG stop) λr s4 ⟨hr,I4⟩=>?_;subst hr;have JX:=Ke O f₂ I4;obtain ⟨m,hn,_⟩:=Am I4.loc;have cn:∀ x c,X.env.cells.lookup x=some c->c≠C:=λx c e z=>by
    obtain ⟨v,q⟩:=O.cell x c e;exact absurd (SN q.lt (by rw [z];exact aC)) (TK _)
   have gone:∀ σ' Y h',Ad X pins σ' H3 Y->S4 C Y.heap h'->Ad X pins σ' H3 { Y with heap:=h' }:=λσ' Y h' K3 gG =>
    K3.turned (t':=Y.toks) (it:=C) (λb o hb e=>(gG.2 b hb).trans e) I4.free (T6 (SN O.lt aC)) (.inr (Sy O.sz aC)) cn λp hp z=>by
     exact absurd (SN (So (O.pin p hp).1) (by rw [z];exact aC)) (TK _)
   exact post D C H3 s4 m (λh' bO=>gone σ s4 h' JX bO) JX hn cn (Sw (SN O.lt aC)) I4.free gone qn
  .refine Al (T.item (AF X N' sc cl C fp pins s₂ H₂) rfl rfl rfl hc i [] s3 σ3 H3 _ I3 (cJ cH) cG go) λr s4 L=>Cp L λu hr h4=>?_;subst hr;refine Al h4 λ_ s5 L=>Az L λx H5 I5 r5 ⟨y5,bM,eT⟩=>?_;have eU:=I5.pinned (cJ eT) (T.obj _ _ bM);refine Al (hg cl C fp pins s₂ H₂ _ s5 σ3 H5 x u _ eU r5 (step x H5 y5)) λ_ s6 L=>Gg L λσ6 H6 I6 q6=>?_;refine Al (ht cl C fp pins s₂ H₂ _ s6 σ6 H6 _ I6 q6) λok s7 L=>Cp L λH7 I7 q7=>?_;have again:∀{H8:Hp}{s8:RY},Ad (AF X N' sc cl C fp pins s₂ H₂) ([]++EW fp s5.heap) σ6 H8 s8->N σ6 H8->∃ m,m<n/\∃ i σ' B,Ad (AF X N' sc cl C fp pins s₂ H₂) [] σ' B s8/\tn i s8.heap/\(∀ b∈fp,B b=none)/\W i m σ' B:=λ{H8 s8} I8 n8=>by
    obtain ⟨m',hm,w8⟩:=Am (hN σ6 H8 n8);refine ⟨m',hm,i+1,σ6,H8,I8.eR,T.keep _ _ _ bM λb hb o e=>(I8.pin (b,o) (S6 _ (S6 _ (Ep hb e)))).1,λb hb=>?_,w8⟩;obtain ⟨o,e,d⟩:=Am (T.obj _ _ bM b hb);exact (I8.pin (b,o) (S6 _ (S6 _ (Ep hb e)))).2.1
   cases ok with
   | false=>exact again I7 q7
   | true =>
    refine Al (he cl C fp pins s₂ H₂ _ s7 σ6 H7 _ I7 q7) λy s8 L=>Az L λv H8 I8 r8 q8=>?_;obtain ⟨ys,hy,hz,n8⟩:=Ax q8;refine Al (Ey _ s8 σ6 H8 (.ref D) [v] (.ref D) [y] (λ_ H9=>N σ6 H9) I8 rfl (.cons r8 .nil) ⟨D,ys,v,rfl,rfl,hy,hz,n8⟩) λ_ s9 L=>Az L λ_ H9 I9 _ q9=>?_;exact again I9 q9
 exact codeAny_compStart_list loop (T.self _ 0 _ _ _ bj loop)
theorem EA {d B iter:R6}{p:List R6}{sc:Scope}{aj:List (Option Nat)}{N':List Str}{pos:Pos}{L:TI}{g:TG}{O:TT}{V:TE}(hc:X.calm=true)(S:A1 sc X.env.scope N' X.N aj)(hi:PI X B iter L)(Y:∀ cl C fp pins s₂ H₂,PG (AF X N' sc cl C fp pins s₂ H₂) B g)(ht:∀ cl C fp pins s₂ H₂,DQ (AF X N' sc cl C fp pins s₂ H₂) p O)(he:∀ cl C fp pins s₂ H₂,PE (AF X N' sc cl C fp pins s₂ H₂) d V)(hs:∀ x,UJ iter X.env x=pure x:=by intro _;rfl):PE X (.ListComp d [⟨B,iter,p,0⟩] sc pos) (Kf aj L g O V):=by intro pins s σ H Q I h;rw [eval_ListComp];refine NV (use:=none) (Q:=Q) hc S hi Y ht he hs I h λD C H' s' m g1 J hn cn ln fr g2 q=>?_;exact ⟨m,hn,λh' bO=>⟨.ref D,H',g1 h' bO,rfl,q⟩⟩
theorem NW {p O iter:R6}{B:List R6}{sc:Scope}{aj:List (Option Nat)}{N':List Str}{pos Y d:Pos}{wi:TI}{g:TG}{tt:TT}{te:TE}{j:Nat}{y:Str}(hc:X.calm=true)(nd:X.N.Nodup)(hj:X.N[j]?=some y)(hy:FE X.env.scope y)(S:A1 sc X.env.scope N' X.N aj)(hi:PI X O iter wi)(hg:∀ cl C fp pins s₂ H₂,PG (AF X N' sc cl C fp pins s₂ H₂) O g)(ht:∀ cl C fp pins s₂ H₂,DQ (AF X N' sc cl C fp pins s₂ H₂) B tt)(he:∀ cl C fp pins s₂ H₂,PE (AF X N' sc cl C fp pins s₂ H₂) p te)(j3:U7 (.ListComp p [⟨O,iter,B,0⟩] sc pos) (some (.Name y d)) Y.line X.env=pure true)(hs:∀ x,UJ iter X.env x=pure x:=by intro _;rfl)(hf:X.fn y=true\/X.env.scope.names.lookup y=some .local:=by first | exact .inl rfl | exact .inr rfl | assumption) :
  PS X (.Assign [.Name y d] (.ListComp p [⟨O,iter,B,0⟩] sc pos) Y) (EV (Kf aj wi g tt te) (Ba j)):=by
 intro pins s σ H D I h;rw [ZC _ _ _ _ j3];refine RZ (US (RZ ?_));show R1 _ X.A (do let _ <- WO (.ListComp p [⟨O,iter,B,0⟩] sc pos) sc X.env _ (newList []) false (Sf iter X.env) (some (T5 (.Name y d) X.env))) _ _ s;refine RZ (Al (NV (use:=some (T5 (.Name y d) X.env)) (Qv:=λ_ V=>SP X pins D .next V) hc S hi hg ht he hs I h λL C H' V m g1 J hn cn ln fr g2 q=>?_) λ_ V hq=>Sb (Sb hq));show R1 _ X.A (T5 (.Name y d) X.env (.ref L)) _ _ _;refine X5 (JI J nd hj hy (v:=.ref L) rfl (λaB K j5=>?_) hf);obtain ⟨a,j6,ha⟩:=Am j5;have gJ:C≠a:=by
  rcases ha with z | z
  .rw [z];exact S3 ln
  .exact S3 (cn y a z)
 exact ⟨m,hn.sameBut j6 gJ,λh' bO=>⟨_,H',g2 _ aB h' K bO,q⟩⟩
end
section
variable {X:Cx}{pins:List (Addr×Obj)}{σ:St}{H:Hp}{s:RY}{h':Heap}
theorem Ad.aaF {t':Nat}{ch:List Addr}{T:Addr}{xs:List V}{us:List Value}(I:Ad X pins σ H s)(d:∀ b∈ch,CA X pins H b)(k:∀ b o,b ∉ ch->s.heap.get? b=some o->h'.get? b=some o)(g:s.heap.objs.size<=T)(B:∀ b∈ch,∃ o,s.heap.get? b=some o)(D:h'.get? T=some { cls:=.type "tuple",data:=.seq us.toArray })(J:Ar xs us)(L:xs.length<=sizeLine):Ad X pins σ (upd H T (.tup xs)) { s with heap:=h',toks:=t' }:=by
 have hn:=I.aa.fresh g;have neT:∀ b o,s.heap.get? b=some o->b≠T:=λb o e=>Sw (SN (So e) g);have p:∀ b u,H b=some u->b ∉ ch:=λb u e z=>by rw [(d b z).1] at e;cases e
 have up:∀ b u,H b=some u->upd H T (.tup xs) b=some u:=λb u e=>by rw [Ak (λz=>by rw [z,hn] at e;cases e)];exact e
 refine I.step (g':=s.gens) (d':=s.drawn) (ch:=ch) (λb hb=>⟨(d b hb).2.2.2.1,(d b hb).2.1,(d b hb).2.2.2.2.1,(d b hb).2.2.2.2.2⟩) (λb o _ _ hc e _=>k b o hc e) (λb o _ _ hc e _=>⟨o.slots,k b o hc e⟩)
  (λb o _ e n=>by rw [Ak (neT b o e)];exact n) (λb o hc e=>⟨o,k b o hc e⟩) (λb ys e=>up b _ e) (λb o u e=>up b _ e) (λb ps e=>⟨#[],by rw [up b _ e];simp⟩) (λm O=>?_) (λb u e=>?_) I.bare
 .obtain ⟨o,Y,ep,ho,r⟩:=Cq O;exact ⟨o,Y,ep,k _ o (λz=>(d _ z).2.1 rfl) ho,r⟩
 .by_cases hb:b=T
  .subst hb;rw [Ah] at e;cases e;exact ⟨L,us,J,_,D,rfl,_,rfl⟩
  .rw [Ak hb] at e;refine (I.aa b u e).cU (λc v hc q=>k c v ?_ q) (λc q=>up c _ q) λc ys q=>up c _ q;rcases hc with z | z
   .rw [z];exact p b u e
   .exact p c _ z
theorem Acv:Ta "enumerate"=some (.type "enumerate"):=by decide +kernel
end
noncomputable def Fg (lo hi:Int):List Int:=(Uk (hi - lo).toNat).map λ(k:Nat)=>lo+(k:Int)
theorem Acw (lo hi:Int):(Fg lo hi).length=(hi - lo).toNat:=by unfold Fg;rw [R5,WM]
section
variable {X:Cx}
def Sm (i:Int):Prop:=-(2 ^ 62)<=i/\i<2 ^ 62
theorem Acx {lo hi:Int}{d:Array Value}(h:ItemsOf (λ(i:Nat) (v:Value)=>∃ t,v=.int (lo+(i:Int) * 1) t) d (hi - lo).toNat):Ar ((Fg lo hi).map V.int) d.toList:=by
 obtain ⟨J,L⟩:=h;have B:∀(g:List Value)(n k:Nat),g.length=n->(∀ j v,g[j]?=some v->∃ t,v=Tu (lo+((k+j:Nat):Int)) t)->Ar (((We k n).map λ(k:Nat)=>lo+(k:Int)).map V.int) g:=by
  intro g;induction g with
  | nil=>intro n k p _;subst p;exact .nil
  | cons u g ih =>
   intro n k p I;obtain ⟨D,rfl⟩:∃ D,n=D+1:=⟨g.length,by rw [<- p];rfl⟩;rw [ZD,Th,Th];obtain ⟨t,e⟩:=I 0 u rfl;refine .cons ⟨t,by simpa using e⟩ (ih D (k+1) (by simpa using p) λj v H=>?_);obtain ⟨t,e⟩:=I (j+1) v (by simpa using H);exact ⟨t,by rw [e];congr 1;omega⟩
 unfold Fg;rw [List.range_eq_range'];refine B d.toList _ 0 (by rw [TC];exact J) λj v H=>?_;obtain ⟨t,e⟩:=L j v (by simpa using H);exact ⟨t,by rw [e];simp⟩
theorem Acy (hc:X.calm=true):Bq X (.type "list") (λxs H Q=>∃ p lo hi,xs=[.ref p]/\H p=some (.fJ lo hi)/\Sm lo/\Sm hi/\(hi - lo).toNat<=sizeLine/\∀ l,H l=none->Q (.ref l) (upd H l (.lst ((Fg lo hi).map V.int)))):=by
 intro pins s σ H xs us Q I r h;replace h:=Em h;obtain ⟨p,lo,hi,rfl,hp,⟨D,J⟩,⟨L,O⟩,B,q⟩:=h
 obtain ⟨u,rfl,Y⟩:=Am (CL r);cases Y;obtain ⟨t,u,v,e⟩:=I.aa p _ hp;have d:(hi - lo).toNat<=2 ^ 24:=B;refine call_list_range (n:=(hi - lo).toNat) (I.ok.hd hc) e (small_one D J L O) (by rw [rangeSize_one];split<;>omega) d λh' tk g c hk hl ha=>?_;refine ⟨.ref s.heap.objs.size,_,I.laid (t':=tk) hk (Sh _) (show A4 X.prog X.w _ h' _ (.lst ((Fg lo hi).map V.int)) from ⟨?_,g.toList,c,Acx ha,by simpa using hl⟩),rfl,q _ I.fresh⟩;rw [R5,Acw];exact B
theorem Kg (hc:X.calm=true):Bq X (.type "list") (λxs H Q=>(∃ p ys,xs=[.ref p]/\(AZ X.K H p ys\/A5 X.K H p ys)/\∀ l,H l=none->Q (.ref l) (upd H l (.lst ys))) \/
  ∃ p lo hi,xs=[.ref p]/\H p=some (.fJ lo hi)/\Sm lo/\Sm hi/\(hi - lo).toNat<=sizeLine/\∀ l,H l=none->Q (.ref l) (upd H l (.lst ((Fg lo hi).map V.int)))):=AbF.or (Acy hc)
end
def Fh (P:R7)(w:R3)(K:R0)(mg:Str->Option Value)(base:Heap)(CX:BA)(k:Nat)(C:Addr)(m:Str)(ps:List Str)(sp:Sp):Prop :=
 ∃ f fd,HI K C m f/\Ct K fd ps []/\AE P w K mg base CX k f fd ps sp
def Dk (P:R7)(w:R3)(K:R0)(mg:Str->Option Value)(base:Heap)(CX:BA)(k:Nat)(C:Addr)(x:Str)(ps:List Str)(sp:Sp):Prop :=
 ∃ f fd,mg x=some (.ref C)/\Mk K C f/\Ct K fd ps []/\AE P w K mg base CX k f fd ps sp
section
variable {X:Cx}{CX:BA}{k:Nat}{C:Addr}{ps:List Str}{sp:Sp}{E:XK}{x m:Str}{p pos apos:Pos}{e o:R6}{es:List R6}{ta:TE}{t:TA}{W:St->XK}
theorem Acz {pl:Sem Bool}(D:Fh X.prog X.w X.K X.mg X.base CX k C m ps sp)(c:B7 X.K C)(B:PE X o ta)(H:Bb k X.A)(hx:CM CX X E)(I:PA X (e :: es) t)(J:Se (e :: es) X.env=(false,Sf e X.env) :: Se es X.env:=by rfl)(L:(SJ pos (Se es X.env)).any (·.1)=false:=by rfl)(O:Sf (.Call (.Attribute o m apos) (e :: es) [] pos) X.env=(Sf o X.env >>= λd=>Um apos.atName >>= λ_=>UH [d] (Va d m pl) >>= λg=>V8 pos g.1 g.2 (SJ pos (Se (e :: es) X.env)) (UN pos (UO [] X.env))):=by rfl) :
  PE X (.Call (.Attribute o m apos) (e :: es) [] pos) (HK C m sp [] E ta t):=by
 obtain ⟨f,Y,V,hb,F⟩:=Bc D;exact Abh (pl:=pl) B c V F H hb .nil hx I J L O
theorem AcA {pl:Sem Bool}(D:Fh X.prog X.w X.K X.mg X.base CX k C m ps sp)(c:B7 X.K C)(B:PE X o ta)(H:Bb k X.A)(hx:CM CX X E)(I:Sf (.Call (.Attribute o m apos) [] [] pos) X.env=(Sf o X.env >>= λd=>Um apos.atName >>= λ_=>UH [d] (Va d m pl) >>= λg=>V8 pos g.1 g.2 (SJ pos (Se [] X.env)) (UN pos (UO [] X.env))):=by rfl) :
  PE X (.Call (.Attribute o m apos) [] [] pos) (HK C m sp [] E ta JW):=by
 obtain ⟨f,L,J,hb,F⟩:=Bc D;exact Abi (pl:=pl) B c J F H hb .nil hx I
def AcB (C:Addr)(m:Str)(sp:Sp)(W:St->XK)(ta:TE)(t:TA):TE:=λσ H Q=>ta σ H λx H1=>∃ a dx fs,x=.ref a/\H1 a=some (.ins C dx fs)/\fs.lookup m=none/\t σ H1 λvs H2=>sp (x :: vs) H2 Q (W σ)
theorem AcC {f:Addr}{d:Sr}{pins:List (Addr×Obj)}{σ:St}{H:Hp}{s:RY}{Q:VK}{us:List Value}{vs:List V}(F:AE X.prog X.w X.K X.mg X.base CX k f d ps sp)(g:Bb k X.A)(hb:Ct X.K d ps [])(hx:E9 CX X W)(I:Ad X pins σ H s)(r:Ar vs us)(h:sp vs H Q (W σ)):R1 (R4 X.prog X.w) X.A (call (.ref f) us) (EP X pins σ Q) X.xe s:=by
 have B:(us++[]).length=ps.length:=by rw [S5,<- r.length];exact F.len _ _ _ _ h
 refine V7 (UM (F.run X.A X.stack s H ⟨us,[]⟩ us vs Q (W σ) g I.gm (by simpa using hb s us I.aw B) r h) λr D hq=>?_);match r,hq with
 | .error e,hq=>exact hx pins σ H s e D I hq
 | .ok (.ret u),hq=>exact I.after hq
theorem AcD {pl:Sem Bool}(D:Fh X.prog X.w X.K X.mg X.base CX k C m ps sp)(c:B7 X.K C)(Y:PE X o ta)(hr:Bb k X.A)(hx:E9 CX X W)(ha:PA X (e :: es) t)(bt:Se (e :: es) X.env=(false,Sf e X.env) :: Se es X.env:=by rfl)(az:(SJ pos (Se es X.env)).any (·.1)=false:=by rfl)(ht:Sf (.Call (.Attribute o m apos) (e :: es) [] pos) X.env=(Sf o X.env >>= λg=>Um apos.atName >>= λ_=>UH [g] (Va g m pl) >>= λB=>V8 pos B.1 B.2 (SJ pos (Se (e :: es) X.env)) (UN pos (UO [] X.env))):=by rfl) :
  PE X (.Call (.Attribute o m apos) (e :: es) [] pos) (AcB C m sp W ta t):=by
 obtain ⟨f,fd,J,hb,F⟩:=Bc D;intro pins s σ H Q I h;refine Xe (pl:=pl) (Al (Y pins s σ H _ I h) λu s1 d=>Az d λx H1 L rx ⟨a,dx,fs,ex,ea,l,q⟩=>?_) ht;subst ex;cases rx;refine JV L ea c J l (Vb (first:=[.ref a]) (h₀:=X.base) I.ok.mod.bS J.kp (Al (ha pos pins s1 σ H1 _ L q) λO s2 d=>Az d λvs H2 V r q2=>⟨V.aw,?_⟩) bt az);exact AcC (us:=.ref a :: O) (vs:=.ref a :: vs) F hr hb hx V (.cons rfl r) q2
theorem Fi (D:Dk X.prog X.w X.K X.mg X.base CX k C x ps sp)(g:Gm X.env.scope x)(d:Bb (k+1) X.A)(hx:CM CX X E)(B:PA X (e :: es) t)(H:Se (e :: es) X.env=(false,Sf e X.env) :: Se es X.env:=by rfl)(I:(SJ pos (Se es X.env)).any (·.1)=false:=by rfl) :
  PE X (.Call (.Name x p) (e :: es) [] pos) (Nh C sp [] E t):=by
 obtain ⟨f,L,J,M,hb,F⟩:=Bc D;exact Abk M F d g.gl J hb .nil hx B g.db H I
end
structure Fj (sc:Scope)(x:Str):Prop where
 loc:sc.names.lookup x=some .cell
 db:(x == ("__debug__":Str))=false
 cd:(x == ("__classdict__":Str))=false
structure NX (sc:Scope)(x:Str):Prop where
 loc:sc.names.lookup x=some .cell\/sc.names.lookup x=some .free
 db:(x == ("__debug__":Str))=false
 cd:(x == ("__classdict__":Str))=false
section
variable {X:Cx}{x:Str}{pos p:Pos}
theorem C9 (i:Nat)(n:Fj X.env.scope x)(d:X.N[i]?=some x:=by rfl):PE X (.Name x pos) (FF i):=JK d (R9 (Sd n.loc)) n.db n.cd
theorem FP (i:Nat)(n:NX X.env.scope x)(d:X.N[i]?=some x:=by rfl):PE X (.Name x pos) (FF i):=JK d (R9 n.loc) n.db n.cd
theorem AcE (i:Nat)(d:X.N.Nodup)(n:Fj X.env.scope x)(g:X.fn x=true:=by rfl)(B:X.N[i]?=some x:=by rfl):PG X (.Name x pos) (Ba i):=MN d B (R9 n.loc) (Sd g)
theorem Kh (i:Nat){e:R6}{g:TE}{d:Pos}(B:X.N.Nodup)(n:Fj X.env.scope x)(D:PE X e g)(H:X.fn x=true:=by rfl)(I:X.N[i]?=some x:=by rfl)(hs:U7 e (some (.Name x d)) pos.line X.env=pure false:=by rfl) :
  PS X (.Assign [.Name x d] e pos) (EV g (Ba i)):=MR B I (R9 n.loc) D hs (Sd H)
theorem Nm.comp {sc:Scope}{env:Env}(n:Nm sc x):Nm (Us sc env) x:=⟨NU n.loc rfl,n.db,n.cd⟩
theorem Gm.comp {sc:Scope}{env:Env}(n:Gm sc x):Gm (Us sc env) x:=⟨NU n.gl rfl,n.db,n.nn⟩
structure Fl (sc:Scope)(x:Str):Prop where
 loc:sc.names.lookup x=some .free
 db:(x == ("__debug__":Str))=false
 cd:(x == ("__classdict__":Str))=false
theorem Fl.comp {sc:Scope}{env:Env}(n:Fl sc x):NX (Us sc env) x:=⟨HW n.loc,n.db,n.cd⟩
end
section
variable {X:Cx}
theorem Ki:Bq X (.type "int") (λxs H Q=>(∃ k,xs=[.bl k]/\Q (.int (if k then 1 else 0)) H)\/(∃ i,xs=[.int i]/\Q (.int i) H)\/∃ z n,xs=[.str z]/\Vh z=some n/\z.length<=640/\Q (.int n) H):=by
 intro pins s σ H xs d Q I r h;rcases h with h | h | h
 .exact Nc pins s σ H xs d Q I r (.inr h)
 .exact Nc pins s σ H xs d Q I r (.inl h)
 .exact Aci pins s σ H xs d Q I r h
theorem A1.mk' {sc g:Scope}{d N:List Str}{B:List (Option Nat)}(D:sc.kind=.function)(H:∀ y∈sc.names,y.2≠.cell)(I:∀ y∈sc.names,y.2=.local->sc.names.lookup y.1=some .local)(J:∀ y∈sc.names,y.2=.free->g.names.lookup y.1=some .cell\/g.names.lookup y.1=some .free)(L:d.Nodup)(O:B.length=d.length)(V:∀ p∈B.zip d,∀ j∈p.1,N[j]?=some p.2/\sc.names.lookup p.2=some .free/\(g.names.lookup p.2=some .cell\/g.names.lookup p.2=some .free)):A1 sc g d N B :=
 ⟨D,H,I,J,L,O,λi j e=>by
  have hi:i<B.length:=(TL.mp e).1;obtain ⟨x,hx⟩:∃ x,d[i]?=some x:=⟨d[i]'(by omega),SH (by omega)⟩;have Y:(B.zip d)[i]?=some (some j,x):=by rw [List.getElem?_zip_eq_some];exact ⟨e,hx⟩
  obtain ⟨a,b,c⟩:=V _ (SV Y) j rfl;exact ⟨x,hx,a,b,c⟩⟩
theorem AcF:∀ n:Nat,n<1001->(Sa (toString (n:Int))).length<=10:=by decide +kernel
theorem HY {e:R6}{p:TE}{pos:Pos}(D:PE X e p):PE X (.FormattedValue e (-1) none pos) (λσ H Q=>p σ H λx d=>(∃ i:Int,x=.int i/\0<=i/\i<=1000/\∀ z:Str,z.length<=10->Q (.str z) d)\/∃ z,x=.str z/\z.length<=sizeLine/\Q (.str z) d):=by
 intro pins s σ H Q I h;refine wpAny_FormattedValue_plain (Al (D pins s σ H _ I h) λv Y J=>Az J λx d g B L=>?_);rcases L with ⟨i,rfl,O,h1,q⟩ | ⟨z,rfl,V,q⟩
 .obtain ⟨t,rfl⟩:=B;obtain ⟨n,rfl⟩:=Yz O;have hn:n<1001:=by omega
  refine wpAny_formatField_int ?_ ⟨.str _,d,g.tok _,⟨_,rfl⟩,q _ (AcF n hn)⟩;have:(n:Int).natAbs=n:=rfl;rw [this];exact YA (ZE n) (by omega)
 .obtain ⟨t,rfl⟩:=B;exact ZA ⟨.str _,d,g,⟨_,rfl⟩,q⟩ ⟨.str _,d,g.tok _,⟨_,rfl⟩,q⟩ V
end
section
variable {K:R0}{a D:Addr}{xs:List V}{g:TG}{tt:TT}{te:TE}{σ0:St}{H:Hp}{Q:Hp->Prop}
abbrev Kj (D:Addr)(tt:TT)(te:TE)(N:St->Hp->Prop):St->Hp->Prop:=λσ3 H3=>tt σ3 H3 λb H4 =>
 if b=true then te σ3 H4 λv H5=>∃ ys,H5 D=some (.lst ys)/\ys.length<sizeLine/\N σ3 (upd H5 D (.lst (ys++[v]))) else N σ3 H4
theorem FQ (Pv:Nat->St->Hp->Prop)(h0:Pv 0 σ0 (upd H D (.lst [])))(hl:∀ i σ H,i<=xs.length->Pv i σ H->AZ K H a xs)(hs:∀ i x σ d,xs[i]?=some x->Pv i σ d->g x σ d (Kj D tt te (Pv (i+1))))(hd:∀ σ d,Pv xs.length σ d->Q d) :
  ∃ W:Nat->Nat->St->Hp->Prop,(∃ m,W 0 m σ0 (upd H D (.lst [])))/\∀ i m σ' d,W i m σ' d ->
   ((Dv K a).stop i d/\Q d)\/((Dv K a).go i d/\∃ N:St->Hp->Prop,(∀ σ2 B,N σ2 B->∃ I,I<m/\W (i+1) I σ2 B)/\∀ x B,(Dv K a).bL i d x B->g x σ' B λσ3 H3=>tt σ3 H3 λb J =>
    if b=true then te σ3 J λv L=>∃ ys,L D=some (.lst ys)/\ys.length<sizeLine/\N σ3 (upd L D (.lst (ys++[v]))) else N σ3 J):=by
 refine ⟨λi m σ H=>m=xs.length - i/\i<=xs.length/\Pv i σ H,⟨xs.length,by simp,S7 _,h0⟩,?_⟩;rintro i m σ O ⟨rfl,hi,p⟩;have q:=hl i σ O hi p;by_cases Y:i<xs.length
 .refine .inr ⟨⟨xs,xs[i],q,by simp [Y]⟩,Pv (i+1),λσ' d p'=>⟨xs.length - (i+1),by omega,rfl,Y,p'⟩,λx d y=>?_⟩;obtain ⟨rfl,hy⟩:=y;exact hs i x σ _ (hy xs q) p
 .have e:i=xs.length:=by omega
  subst e;exact .inl ⟨⟨xs,q,Sh _⟩,hd σ O p⟩
theorem AcG {lo:Int}{n:Nat}(Pv:Nat->St->Hp->Prop)(Y:Pv 0 σ0 (upd H D (.lst [])))(hs:∀ i σ d,i<n->Pv i σ d->g (.int (lo+i)) σ d (Kj D tt te (Pv (i+1))))(hd:∀ σ d,Pv n σ d->Q d) :
  ∃ W:Nat->Nat->St->Hp->Prop,(∃ m,W 0 m σ0 (upd H D (.lst [])))/\∀ i m σ' d,W i m σ' d ->
   ((DG lo n).stop i d/\Q d)\/((DG lo n).go i d/\∃ N:St->Hp->Prop,(∀ σ2 B,N σ2 B->∃ J,J<m/\W (i+1) J σ2 B)/\∀ x B,(DG lo n).bL i d x B->g x σ' B λσ3 H3=>tt σ3 H3 λb L =>
    if b=true then te σ3 L λv O=>∃ ys,O D=some (.lst ys)/\ys.length<sizeLine/\N σ3 (upd O D (.lst (ys++[v]))) else N σ3 L):=by
 refine ⟨λi m σ H=>m=n - i/\i<=n/\Pv i σ H,⟨n,by simp,S7 _,Y⟩,?_⟩;rintro i m σ H1 ⟨rfl,hi,p⟩;by_cases I:i<n
 .refine .inr ⟨I,Pv (i+1),λσ' d p'=>⟨n - (i+1),by omega,rfl,I,p'⟩,λx d y=>?_⟩;obtain ⟨rfl,rfl⟩:=y;exact hs i σ _ I p
 .have e:i=n:=by omega
  subst e;exact .inl ⟨Sh _,hd σ H1 p⟩
end
section
variable {X:Cx}(K:R0)(h:X.K=K)
include h
theorem NY:DH X (Nu K):=h▸Aw
theorem AcH (hu:X.A.units+64<cLine):AU X (S1 .NotEq) (λx y H Q=>JQ x y H Q\/GB K true x y H Q):=h▸Ca hu
theorem NZ:Bq X (.builtin "len") (λxs H Q=>(∃ z,xs=[.str z]/\z.length<=sizeLine/\Q (.int z.length) H)\/∃ p ys,xs=[.ref p]/\(AZ K H p ys\/A5 K H p ys)/\Q (.int ys.length) H):=h▸Bl
theorem N0:D1 X (λx lo hi H Q=>J5 x lo hi H Q\/J0 K x lo hi H Q):=h▸BP
theorem GI (n:Nat){es:List R6}{k:Nat}{pos:Pos}{t:En}(hc:X.calm=true)(d:Gk X es t)(hn:(U8 es X.env).length=n)(g:(U8 es X.env).findIdx? (·.1)=none):PG X (.Tuple es k pos) (MO K n t):=h▸Gn hc d hn g
theorem AcI:AU X (S1 .In) (λx y H Q=>(∃ i j,x=.str i/\y=.str j/\Q (.bl (D6 i j)) H)\/FJ K false x y H Q):=h▸HQ
theorem Kk:AU X (S1 .NotIn) (λx y H Q=>(∃ i j,x=.str i/\y=.str j/\Q (.bl (!D6 i j)) H)\/FJ K true x y H Q):=h▸J7
end
section
variable {κ:Type} [DecidableEq κ]
noncomputable def Bk (kvs:List (κ×V))(k:κ):Option V:=(kvs.find? λkv=>decide (kv.1=k)).map (·.2)
noncomputable def By (kvs:List (κ×V))(k:κ)(v:V):List (κ×V) :=
 if (kvs.any λkv=>decide (kv.1=k))=true then kvs.map (λkv=>if kv.1=k then (kv.1,v) else kv) else kvs++[(k,v)]
theorem Dl {p:κ×V}{r:List (κ×V)}{k:κ}(e:p.1=k):Bk (p :: r) k=some p.2:=by simp [Bk,Wf,e]
theorem Cc {p:κ×V}{r:List (κ×V)}{k:κ}(e:¬ p.1=k):Bk (p :: r) k=Bk r k:=by simp [Bk,Wf,e]
theorem HZ (k:κ):∀ kvs:List (κ×V),(kvs.any λd=>decide (d.1=k))=(Bk kvs k).isSome
 | []=>rfl
 | p :: r=>by
  rw [WG];by_cases e:p.1=k
  .simp only [Dl e,decide_eq_true e,Bool.true_or,Option.isSome_some]
  .rw [Cc e,decide_eq_false e,Bool.false_or];exact HZ k r
theorem Ia (kvs:List (κ×V))(k:κ)(v:V):(By kvs k v).length<=kvs.length+1:=by
 unfold By;split
 .rw [R5];omega
 .rw [SF,TX,YB];omega
theorem Ib {kvs:List (κ×V)}{k:κ}(v:V)(h:Bk kvs k=none):By kvs k v=kvs++[(k,v)]:=by unfold By;rw [HZ,h];exact if_neg (by decide)
theorem CJ.nR {o:Option V}{u:Option Value}(r:CJ o u):o.isSome=u.isSome:=by
 cases o with
 | none=>cases u with
  | none=>rfl
  | some _=>exact (show False from r).elim
 | some _=>cases u with
  | none=>exact (show False from r).elim
  | some _=>rfl
theorem KV.val {kvs:List (κ×V)}{vs:List (κ×Value)}(r:KV kvs vs)(k:κ):CJ (Bk kvs k) (VT vs k):=by
 unfold KV at r;induction r with
 | nil=>exact TY
 | @cons p q ps d h t ih =>
  obtain ⟨B,D⟩:=h;by_cases e:p.1=k
  .have g:q.1=k:=B.symm.trans e;have b:VT (q :: d) k=some q.2:=by simp [VT,Wf,g]
   rw [Dl e,b];exact D
  .have g:¬ q.1=k:=λz=>e (B.trans z);have b:VT (q :: d) k=VT d k:=by simp [VT,Wf,g]
   rw [Cc e,b];exact ih
theorem KV.any {kvs:List (κ×V)}{vs:List (κ×Value)}(r:KV kvs vs)(k:κ):(kvs.any λd=>decide (d.1=k))=vs.any λd=>decide (d.1=k):=by
 unfold KV at r;induction r with
 | nil=>rfl
 | cons h t ih=>rw [WG,WG,ih,h.1]
theorem KV.j7 {kvs:List (κ×V)}{vs:List (κ×Value)}(r:KV kvs vs)(k:κ){y:V}{u:Value}(B:AB y u) :
  KV (kvs.map λd=>if d.1=k then (d.1,y) else d) (vs.map λd=>if d.1=k then (d.1,u) else d):=by
 unfold KV at r ⊢;induction r with
 | nil=>exact .nil
 | @cons p q ps H h t ih =>
  rw [Th,Th];refine .cons ?_ ih;obtain ⟨g,D⟩:=h;by_cases e:p.1=k
  .rw [if_pos e,if_pos (g.symm.trans e)];exact ⟨g,B⟩
  .rw [if_neg e,if_neg (λz=>e (g.trans z))];exact ⟨g,D⟩
theorem KV.put {kvs:List (κ×V)}{vs:List (κ×Value)}(r:KV kvs vs)(k:κ){y:V}{u:Value}(d:AB y u):KV (By kvs k y) (stored vs k u):=by
 unfold By stored;rw [r.any k];by_cases e:(vs.any λg=>decide (g.1=k))=true
 .rw [if_pos e,if_pos e];exact r.j7 k d
 .rw [if_neg e,if_neg e];exact Paired.snoc r ⟨rfl,d⟩
theorem KV.keys {kvs:List (κ×V)}{vs:List (κ×Value)}(r:KV kvs vs):kvs.map (·.1)=vs.map (·.1):=by
 unfold KV at r;induction r with
 | nil=>rfl
 | cons h t ih=>rw [Th,Th,ih,h.1]
theorem KV.length {kvs:List (κ×V)}{vs:List (κ×Value)}(r:KV kvs vs):kvs.length=vs.length:=Paired.length r
end
theorem FR {P:R7}{w:R3}{k:Aq}{u:Value}(r:AB (kV k) u):(Bp P w).is k u=true:=by
 cases k with
 | inl i=>obtain ⟨t,e⟩:=(show ∃ t,u=Tu i t from r);subst e;exact Aag P w i t
 | inr x=>obtain ⟨t,e⟩:=(show ∃ t,u=S2 x t from r);subst e;exact FC P w x t
theorem N1 {P:R7}{w:R3}:∀{ks:List Aq}{us:List Value},Ar (ks.map kV) us->ItemsAre (Bp P w) ks us
 | [],_,r=>by rw [Yk] at r;cases r;exact .nil
 | k :: ks,_,r=>by
  rw [Th] at r;cases r with
  | cons h t=>exact .cons (FR h) (N1 t)
abbrev KT (H:Hp):List (List Aq×V)->List (List Aq×Addr×Value)->Prop:=Paired λp q=>p.1=q.1/\H q.2.1=some (.tup (p.1.map kV))/\AB p.2 q.2.2
theorem KT.val {H:Hp}{kvs:List (List Aq×V)}{xs:List (List Aq×Addr×Value)}(r:KT H kvs xs)(k:List Aq):CJ (Bk kvs k) ((Vl xs k).map (·.2)):=by
 induction r with
 | nil=>exact TY
 | @cons p q ps d h t ih =>
  obtain ⟨B,_,D⟩:=AJ h;by_cases e:p.1=k
  .have g:q.1=k:=B.symm.trans e;have b:Vl (q :: d) k=some q.2:=by simp [Vl,Wf,g]
   rw [Dl e,b];exact D
  .have g:¬ q.1=k:=λz=>e (B.trans z);have b:Vl (q :: d) k=Vl d k:=by simp [Vl,Wf,g]
   rw [Cc e,b];exact ih
theorem KT.j7 {H:Hp}{kvs:List (List Aq×V)}{xs:List (List Aq×Addr×Value)}(r:KT H kvs xs)(k:List Aq){y:V}{u:Value}(D:AB y u) :
  KT H (kvs.map λg=>if g.1=k then (g.1,y) else g) (xs.map (putAt k u)):=by
 induction r with
 | nil=>exact .nil
 | @cons p q ps J h t ih =>
  rw [Th,Th];refine .cons ?_ ih;obtain ⟨d,B,I⟩:=AJ h;unfold putAt;by_cases e:p.1=k
  .rw [if_pos e,if_pos (d.symm.trans e)];exact ⟨d,B,D⟩
  .rw [if_neg e,if_neg (λz=>e (d.trans z))];exact ⟨d,B,I⟩
theorem KT.put {H:Hp}{kvs:List (List Aq×V)}{xs:List (List Aq×Addr×Value)}(r:KT H kvs xs)(k:List Aq){b:Addr}{y:V}{u:Value}(hb:H b=some (.tup (k.map kV)))(d:AB y u) :
  KT H (By kvs k y) (storedH xs k b u):=by
 have e:(kvs.any λg=>decide (g.1=k))=(Vl xs k).isSome:=by rw [HZ,(r.val k).nR,Option.isSome_map]
 unfold By storedH;rw [e];by_cases q:(Vl xs k).isSome=true
 .rw [if_pos q,if_pos q];exact r.j7 k d
 .rw [if_neg q,if_neg q];exact Paired.snoc r ⟨rfl,hb,d⟩
theorem KT.keeps {H d:Hp}{kvs:List (List Aq×V)}{xs:List (List Aq×Addr×Value)}(r:KT H kvs xs)(g:∀ b ys,H b=some (.tup ys)->d b=some (.tup ys)):KT d kvs xs :=
 Paired.jL r λ_ _ z=>⟨z.1,g _ _ z.2.1,z.2.2⟩
section
variable {P:R7}{w:R3}{H:Hp}{h:Heap}{a:Addr}
theorem N2 {u:HO}(ok:AY P w H h)(e:Rd H a u):A4 P w H h a u:=e.ok ok
theorem N3 {kvs:List (Aq×V)}(ok:AY P w H h)(e:Rd H a (.dK kvs)):kvs.length<=sizeLine/\(a == Tv)=false/\∃ vs,KV kvs vs/\h.DictOf (Bp P w) a vs :=
 show A4 P w H h a (.dK kvs) from N2 ok e
theorem Kl {kvs:List (Aq×V)}(ok:AY P w H h)(e:H a=some (.dK kvs)):kvs.length<=sizeLine/\(a == Tv)=false/\∃ vs,KV kvs vs/\h.DictOf (Bp P w) a vs:=N3 ok (.inl e)
theorem N4 {ks:List Aq}(ok:AY P w H h)(e:H a=some (.tup (ks.map kV))):(Wu (Bp P w)).is h ks a:=by obtain ⟨_,its,r,o,d,g,n,p⟩:=(show A4 P w H h a (.tup (ks.map kV)) from ok a _ e);exact ⟨o,its.toArray,n,d,g,p,by simpa using N1 r⟩
theorem AcJ {kvs:List (List Aq×V)}(ok:AY P w H h)(e:Rd H a (.dT kvs)):kvs.length<=sizeLine/\(a == Tv)=false /\
  ∃ xs,KT H kvs xs/\h.DictOfH (Wu (Bp P w)) a xs:=by
 obtain ⟨z,y,xs,r,o,d,g,B,D,I,J,L⟩:=AJ ((show A4 P w H h a (.dT kvs) from N2 ok e));refine ⟨z,y,xs,r,o,d,g,B,D,I,J,λx hx=>?_,L⟩;have all:∀{l:List (List Aq×V)}{m:List (List Aq×Addr×Value)},KT H l m->∀ x∈m,(Wu (Bp P w)).is h x.1 x.2.1:=by
  intro l m q;induction q with
  | nil=>intro x hx;exact nomatch hx
  | @cons p q ps O hq t ih =>
   intro x hx;rcases Si.mp hx with e | hx
   .subst e;exact N4 ok (by rw [<- hq.1];exact hq.2.1)
   .exact ih x hx
 exact all r x hx
theorem AcK {kvs:List (List Aq×V)}(ok:AY P w H h)(e:H a=some (.dT kvs)):kvs.length<=sizeLine/\(a == Tv)=false /\
  ∃ xs,KT H kvs xs/\h.DictOfH (Wu (Bp P w)) a xs:=AcJ ok (.inl e)
end
def N5 (H:Hp)(a:Addr)(y v:V)(H':Hp):Prop :=
 (∃ kvs k,H a=some (.dK kvs)/\y=kV k/\kvs.length<sizeLine/\H'=upd H a (.dK (By kvs k v))) \/
 ∃ kvs k b,H a=some (.dT kvs)/\y=.ref b/\H b=some (.tup (k.map kV))/\kvs.length<sizeLine/\H'=upd H a (.dT (By kvs k v))
section
variable {X:Cx}{pins:List (Addr×Obj)}{σ:St}{H:Hp}{s:RY}{a:Addr}{y v:V}{u r:Value}{o:Option V}{A:Sj}{E:Value->RY->Prop}
theorem Ad.big (I:Ad X pins σ H s):Tv<s.heap.objs.size:=by have h:Sl<s.heap.objs.size:=(I.mod.glob.keeps I.bk).lt;exact Nat.lt_trans (by decide) h
theorem Ic {h':Heap}{t':Nat}{d:HO}(I:Ad X pins σ H s)(g:Gj (H a))(hs:S4 a s.heap h')(p:∃ q,h'.get? a=some q)(new:A4 X.prog X.w (upd H a d) h' a d) :
  Ad X pins σ (upd H a d) { s with heap:=h',toks:=t' } :=
 I.write (x:=a) (e:=a) g (.inl rfl) (λb q hb z=>(hs.2 b hb).trans z) p new
theorem Km {P:R7}{w:R3}{g:Hp}{h':Heap}{kvs:List (Aq×V)}{vs:List (Aq×Value)}(z:kvs.length<=sizeLine)(hd:(a == Tv)=false)(d:KV kvs vs)(dd:h'.DictOf (Bp P w) a vs) :
  A4 P w g h' a (.dK kvs):=⟨z,hd,vs,d,dd⟩
theorem AcL {H':Hp}{Q:Unit->RY->Prop}(hu:A.units+1<cLine)(I:Ad X pins σ H s)(g:N5 H a y v H')(ry:AB y u)(rv:AB v r)(h:∀ s',Ad X pins σ H' s'->Q () s') :
  R1 (R4 X.prog X.w) A (setItem (.ref a) u r) Q E s:=by
 rcases g with ⟨d,k,e,D,l,J⟩ | ⟨d,k,b,e,D,eb,l,J⟩
 .subst D J;obtain ⟨z,hd,vs,p,L⟩:=AJ (Kl I.aa e);have O:vs.length<=sizeLine:=by rw [<- p.length];exact z
  have Y:(By d k v).length<=sizeLine:=by have:=Ia d k v;omega
  refine wpAny_setItem_pairs (hsz:=O) (FR ry) L λh' B hs=>h _ ?_;have he:∃ q,h'.get? a=some q:=let ⟨q,_,_,hq,_⟩:=B;⟨q,hq⟩;exact Ic I (by rw [e];exact TY) hs he (Km Y hd (p.put k rv) B)
 .subst D J;cases (show u=Sg b from ry);obtain ⟨z,hd,xs,p,L⟩:=AJ (AcK I.aa e);have O:xs.length<=sizeLine:=by rw [<- Paired.length p];exact z
  have Y:(By d k v).length<=sizeLine:=by have:=Ia d k v;omega
  refine wpAny_setItem_heap (hsz:=O) (tupleKind_room_in1 hu) (N4 I.aa eb) L λh' B hs=>h _ ?_;obtain ⟨q,es,ep,hq,h2,h3,h4,_,h5⟩:=Em B;refine Ic I (by rw [e];exact TY) hs ⟨q,hq⟩ ⟨Y,hd,_,(p.put k eb rv).keeps λc ys ec=>?_,q,es,ep,hq,h2,h3,h4,h5⟩;rw [Ak (Hu ec e (λz=>nomatch z))];exact ec
end
section
variable {X:Cx}{pins:List (Addr×Obj)}{σ:St}{H:Hp}{s:RY}{a:Addr}{kvs:List (Aq×V)}{k:Aq}{u:Value}{A:Sj}{E:Value->RY->Prop}
end
def Kn (i:R6):Prop:=∀ ov iv,Xh i false ov iv=operate [ov,iv] (WE ov iv)
theorem AcM {prog:R7}{w:R3}{A:Sj}{E:Value->RY->Prop}{s:RY}{env:Env}{value slice:R6}{pos:Pos}{T id:String}{Q:Value->RY->Prop}(I:typeLookup (.type T) "__getitem__"=pure (some (.builtin id)))(hs:Kn slice)(h:R1 (R4 prog w) A (Sf value env) (λo B=>R1 (R4 prog w) A (Sf slice env) (λi g=>g.TypeIs o T/\R1 (R4 prog w) A (WE o i) Q E g) E B) E s) :
  R1 (R4 prog w) A (Sf (.Subscript value slice pos) env) Q E s:=by
 refine Yf (TV h (λo B J=>TV J (λi g p=>?_) λ_ _ x=>x) λ_ _ x=>x);obtain ⟨D,p⟩:=p;unfold Yg;refine RZ ?_;rw [getitemInPython_of_ne D.not_modules];refine RZ (ZF D I ?_);have d:R1 (R4 prog w) A (Xh slice false o i) (λr H=>R1 (R4 prog w) A (letTemporaryGo value o r >>= λ_=>pure r) Q E H) E g:=by rw [hs o i];exact wpAny_operating (TV p (λr H L=>RZ (wpAny_letTemporaryGo (Sb L))) λ_ _ x=>x)
 first
  | exact Sb (RZ d)
  | exact RZ (Sb (RZ d))
  | exact RZ d
def AcN (td ty tv:TE):TS:=λD σ H=>tv σ H λv H1=>td σ H1 λx H2=>ty σ H2 λy H3=>∃ a H4,x=.ref a/\N5 H3 a y v H4/\D.nx σ H4
section
variable {X:Cx}{o i e value:R6}{pos pos' aag:Pos}{td ty tv:TE}
theorem AcO (hu:X.A.units+1<cLine)(p:PE X o td)(hi:PE X i ty)(B:PE X value tv)(hs:U7 value (some (.Subscript o i pos')) pos.line X.env=pure false) :
  PS X (.Assign [.Subscript o i pos'] value pos) (AcN td ty tv):=by
 intro pins s σ H D I h;refine wpAny_Assign_Subscript (Al (B pins s σ H _ I h) λr J d=>Az d λv L O V Y=>Al (p pins J σ L _ O Y) λu s2 d=>Az d λx H2 I2 rx q2=>Al (hi pins s2 σ H2 _ I2 q2) λiv s3 d=>Az d λy H3 I3 ry ⟨a,H4,ex,g,q3⟩=>?_) hs;subst ex;obtain rfl:u=Sg a:=rx;exact AcL hu I3 g ry V λs4 I4=>⟨σ,H4,I4,q3⟩
end
theorem N6 {P:R7}{w:R3}{H:Hp}(h:Heap)(hb:Tv<h.objs.size):A4 P w H (h.push { cls:=.type "dict",data:=.dict #[] }) h.objs.size (.dK []) :=
 ⟨S7 _,beq_eq_false_iff_ne.mpr (S3 (Sw hb)),[],.nil,Heap.DictOf.new h⟩
section
variable {X:Cx}{pos:Pos}
end
def Ko:List (TE×TE)->St->Hp->(List (V×V)->Hp->Prop)->Prop
 | [],_,H,Q=>Q [] H
 | (tk,tv) :: r,σ,H,Q=>tk σ H λx H1=>tv σ H1 λy H2=>Ko r σ H2 λps H3=>Q ((x,y) :: ps) H3
abbrev VV:List (V×V)->List (Value×Value)->Prop:=Paired λp q=>AB p.1 q.1/\AB p.2 q.2
def Ie (X:Cx)(pos:Pos)(keys:List (Option R6))(values:List R6)(dC:List (TE×TE)):Prop :=
 ∀(pins:List (Addr×Obj))(s:RY)(σ:St)(H:Hp)(Q:List (V×V)->Hp->Prop),Ad X pins σ H s->Ko dC σ H Q ->
  R1 (R4 X.prog X.w) X.A (evalPairs (pairTrees keys values X.env pos)) (λvs s'=>∃ ps H',Ad X pins σ H' s'/\VV ps vs/\Q ps H') X.xe s
theorem AcP {X:Cx}{pos:Pos}:Ie X pos [] [] []:=λpins s σ H Q I h=>pairTrees_nil_walk ⟨[],H,I,.nil,h⟩
theorem Ig {X:Cx}{pos:Pos}{k v:R6}{ks:List (Option R6)}{vs:List R6}{tk p:TE}{B:List (TE×TE)}(hk:PE X k tk)(D:PE X v p)(J:Ie X pos ks vs B) :
  Ie X pos (some k :: ks) (v :: vs) ((tk,p) :: B):=λpins s σ H Q I h =>
 pairTrees_cons_walk (Al (hk pins s σ H _ I h) λu L d=>Az d λx O V Y q1=>Al (D pins L σ O _ V q1) λw2 s2 ⟨y,H2,I2,ry,q2⟩ =>
  Al (J pins s2 σ H2 _ I2 q2) λws s3 d=>Az d λps H3 I3 g q3=>⟨(x,y) :: ps,H3,I3,.cons ⟨Y,ry⟩ g,q3⟩)
def FT (kvs more:List (Aq×V)):List (Aq×V):=more.foldl (λacc kv=>By acc kv.1 kv.2) kvs
theorem KV.merge:∀{more:List (Aq×V)}{d:List (Aq×Value)}{kvs:List (Aq×V)}{vs:List (Aq×Value)},KV more d->KV kvs vs->KV (FT kvs more) (merged vs d):=by
 intro more d kvs vs r;unfold KV at r;induction r generalizing kvs vs with
 | nil=>intro q;exact q
 | @cons p q ps g h t ih =>
  intro r0;have e:KV (By kvs p.1 p.2) (stored vs q.1 q.2):=by have:=r0.put p.1 h.2;rw [<- h.1];exact this
  exact ih e
theorem N7:∀(more kvs:List (Aq×V)),(FT kvs more).length<=kvs.length+more.length
 | [],kvs=>by show kvs.length<=kvs.length+0;omega
 | p :: r,kvs=>by
  have d:=N7 r (By kvs p.1 p.2);have g:=Ia kvs p.1 p.2;show (FT (By kvs p.1 p.2) r).length<=_;rw [TX];omega
theorem N8 {P:R7}{w:R3}:∀{kvs:List (Aq×V)}{ws:List (Value×Value)},VV (kvs.map λg=>(kV g.1,g.2)) ws->∃ d,Carries (Bp P w) ws d/\KV kvs d
 | [],_,r=>by rw [Yk] at r;cases r;exact ⟨[],TY,.nil⟩
 | p :: kvs,_,r=>by
  rw [Th] at r;cases r with
  | @cons a b D bs h t =>
   obtain ⟨d,c,q⟩:=Am (N8 (P:=P) (w:=w) t);obtain ⟨H,B⟩:=b;exact ⟨(p.1,B) :: d,⟨FR h.1,rfl,c⟩,.cons ⟨rfl,h.2⟩ q⟩
def AcQ (dC:List (TE×TE)):TE:=λσ H Q=>∀ p,H p=none->Ko dC σ (upd H p (.dK [])) λps H2=>H2 p=some (.dK [])/\∃ kvs:List (Aq×V),ps=kvs.map (λkv=>(kV kv.1,kv.2))/\kvs.length<=15/\Q (.ref p) (upd H2 p (.dK (FT [] kvs)))
theorem AcR {X:Cx}{pos:Pos}{keys:List (Option R6)}{d:List R6}{D:List (TE×TE)}(h:Ie X pos keys d D)(fQ:keys.all (·.isSome)=true)(V:keys.length=d.length)(Y:keys≠[])(p:keys.length<=15):PE X (.Dict keys d pos) (AcQ D):=by
 intro pins s σ H Q I q;have hn:=I.aa.fresh (Sh s.heap.objs.size);have I1:=I.laid (a:=s.heap.objs.size) (o:=.dK []) (h':=s.heap.push { cls:=.type "dict",data:=.dict #[] }) (t':=s.toks) (λ_ _ q=>Sq _ q) (Sh _) (N6 s.heap I.big);refine wpAny_Dict_walk (knd:=Bp X.prog X.w) fQ V Y p (Al (h pins _ σ _ _ I1 (q _ hn)) λws s2 zz=>Az zz λps H2 L B ⟨e,g,ep,lk,q2⟩=>?_);subst ep;obtain ⟨rs,c,rk⟩:=Am (N8 (P:=X.prog) (w:=X.w) B);obtain ⟨z,hd,vs0,r0,dd⟩:=AJ (Kl L.aa e);cases r0;refine ⟨rs,c,dd,λJ O hs=>⟨.ref s.heap.objs.size,_,?_,rfl,q2⟩⟩;have hz:(FT [] g).length<=sizeLine:=by have h1:=N7 g [];rw [YB] at h1;rw [R8];omega
 have he:∃ q,J.get? s.heap.objs.size=some q:=let ⟨q,_,_,hq,_⟩:=O;⟨q,hq⟩;exact Ic L (by rw [e];exact TY) hs he (Km hz hd (rk.merge .nil) O)
structure M1 (X:Cx)(o:R6)(m:Str)(apos:Pos)(e:R6)(aS:Pos):Prop where
 base:WD o m X.env (Sf o X.env)=Sf o X.env
 aD:((SJ aS (Se [e] X.env)).all (λx=>!x.1) && (UN aS (UO [] X.env)).all (λx=>x.1.isSome)
  && decide (([e]:List R6).length+([]:List VJ).length+(if ([]:List VJ).isEmpty then 0 else 1)<30))=true
 line:(apos.endLine == aS.line)=true
 trees:SJ aS (Se [e] X.env)=[(false,Sf e X.env)]
structure M2 (X:Cx)(o:R6)(m:Str)(apos:Pos)(e f:R6)(aS:Pos):Prop where
 base:WD o m X.env (Sf o X.env)=Sf o X.env
 aD:((SJ aS (Se [e,f] X.env)).all (λx=>!x.1) && (UN aS (UO [] X.env)).all (λx=>x.1.isSome)
  && decide (([e,f]:List R6).length+([]:List VJ).length+(if ([]:List VJ).isEmpty then 0 else 1)<30))=true
 line:(apos.endLine == aS.line)=true
 trees:SJ aS (Se [e,f] X.env)=[(false,Sf e X.env),(false,Sf f X.env)]
section
variable {X:Cx}{pins:List (Addr×Obj)}{σ:St}{H:Hp}{s:RY}{a:Addr}{y d:V}{u r:Value}{o:Option V}{A:Sj}{E:Value->RY->Prop}
end
section
variable {X:Cx}{o e f:R6}{apos aS:Pos}{td ty tx:TE}
end
section
variable {X:Cx}{pins:List (Addr×Obj)}{σ:St}{H:Hp}{s:RY}{a:Addr}{kvs:List (Aq×V)}{A:Sj}{E:Value->RY->Prop}
end
section
variable {X:Cx}{pins:List (Addr×Obj)}{σ:St}{H:Hp}{s:RY}{a:Addr}{y:V}{u:Value}{A:Sj}{E:Value->RY->Prop}
end
section
variable {X:Cx}
end
section
variable {κ:Type} [DecidableEq κ]
theorem AcS {kvs:List (κ×V)}{k:κ}{v:V}(h:Bk kvs k=some v):k∈kvs.map (·.1):=by
 have q:(kvs.any λd=>decide (d.1=k))=true:=by rw [HZ,h];all_goals rfl
 obtain ⟨p,hp,e⟩:=Am (YC.mp q);exact Sx.mpr ⟨p,hp,of_decide_eq_true e⟩
end
structure N9 (K:R0)(C f:Addr)(m:Str):Prop where
 rd:ZG K C (.type "type")=true
 sp:Xd K (.ref C) "__getattribute__"=some (some (.builtin "type.__getattribute__"))
 fd:ZH K (.ref C) (.type "type") m=some (.val (.ref f))
 ty:TN K (.ref f)=some (.type "function")
 kp:Td K (.ref f)=true
section
variable {X:Cx}{CX:BA}{k:Nat}{f C:Addr}{fd:Sr}{ps:List Str}{sp:Sp}{E:XK}{x m:Str}{p pos apos:Pos}{e:R6}{es:List R6}{t:TA}
theorem AcT {pl:Sem Bool}(c:N9 X.K C f m)(g:Gm X.env.scope x)(V:X.mg x=some (.ref C))(F:AE X.prog X.w X.K X.mg X.base CX k f fd ps sp)(hb:Ct X.K fd ps [])(Y:Bb k X.A)(hx:CM CX X E)(ha:PA X (e :: es) t)(bt:Se (e :: es) X.env=(false,Sf e X.env) :: Se es X.env:=by rfl)(az:(SJ pos (Se es X.env)).any (·.1)=false:=by rfl)(ht:Sf (.Call (.Attribute (.Name x p) m apos) (e :: es) [] pos) X.env=(Sf (.Name x p) X.env >>= λD=>Um apos.atName >>= λ_=>UH [D] (Va D m pl) >>= λJ=>V8 pos J.1 J.2 (SJ pos (Se (e :: es) X.env)) (UN pos (UO [] X.env))):=by rfl) :
  PE X (.Call (.Attribute (.Name x p) m apos) (e :: es) [] pos) (HJ sp [] E t):=by
 intro pins s σ H Q I h;refine Xe (pl:=pl) ?_ ht;have pn:PE X (.Name x p) (tC (.ref C)):=BK g V rfl;refine Al (pn pins s σ H (λv L=>v=.ref C/\L=H) I ⟨rfl,rfl⟩) λu s1 d=>Fz d λv L B rv e1 e2=>?_;subst e1 e2;cases rv;refine PySem.W.method_cls B.aw c.sp (PySem.W.cls_value B.aw c.rd c.fd rfl ?_);have I2:=B.tok (s1.toks+1);refine Vb (first:=[]) (h₀:=X.base) I.ok.mod.bS c.kp (Al (ha pos pins _ σ _ _ I2 h) λus s2 d=>Az d λvs H2 O r q=>⟨O.aw,?_⟩) bt az;exact Gx F Y hb .nil hx O r q
end
section
variable {X:Cx}
end
theorem Ea:∀{vs:List Value}{zs:List Str},UU vs zs->Ar (zs.map V.str) vs
 | _,_,.nil=>.nil
 | _,_,.cons n t r=>.cons ⟨t,rfl⟩ (Ea r)
theorem Ih:∀{zs:List Str}{vs:List Value},Ar (zs.map V.str) vs->UU vs zs
 | [],_,.nil=>.nil
 | n :: zs,_,.cons r t=>by
  obtain ⟨d,rfl⟩:=r;exact .cons n d (Ih t)
def BQ (a b:Str):Prop:=a.cps.toList<=b.cps.toList
theorem AcU {a b c:Str}(h:BQ a b)(k:BQ b c):BQ a c:=List.le_trans h k
theorem Oa {a b:Str}(h:BQ a b)(k:BQ b a):a=b:=by have e:=YD h k;cases a with | mk x=>cases b with | mk y=>cases x;cases y;simp_all
theorem Ob:∀(l:List Str)(p:Str),risingS p l=true->(p :: l).Pairwise BQ
 | [],p,_=>List.pairwise_singleton _ _
 | x :: r,p,h=>by
  have d:(!ltCps x.cps.toList p.cps.toList && risingS x r)=true:=h;rw [Ug] at d;have ih:=Ob r x d.2;have hx:BQ p x:=by have:=d.1;rw [ltCps_eq] at this;show ¬ (x.cps.toList<p.cps.toList);simpa using this
  refine YE.mpr ⟨λy hy=>?_,ih⟩;rcases Si.mp hy with z | z
  .rw [z];exact hx
  .exact AcU hx ((YE.mp ih).1 y z)
theorem AcV:∀{l:List Str},sortedS l=true->l.Pairwise BQ
 | [],_=>.nil
 | x :: r,h=>Ob r x h
theorem Kp {a b:List Str}(p:a.Perm b)(d:a.Pairwise BQ)(hb:b.Pairwise BQ):a=b :=
 ZI (le:=BQ) (λx y _ _ g B=>Oa g B) d hb p
section
variable {X:Cx}
theorem GJ:Bq X (.builtin "sorted") (λxs H Q=>∃(p:Addr)(zs:List Str),xs=[.ref p]/\AZ X.K H p (zs.map V.str)/\zs.length<64/\∀(l:Addr)(zs':List Str),H l=none->zs'.Perm zs->zs'.Pairwise BQ->Q (.ref l) (upd H l (.lst (zs'.map V.str)))):=by
 intro pins s σ H xs Y Q I r h;replace h:=Bc h;obtain ⟨p,zs,rfl,hq,hl,q⟩:=h
 obtain ⟨u,rfl,B⟩:=Am (CL r);cases B;obtain ⟨its,d,pl,hz⟩:=Ax (I.list hq);have e:=d.length;rw [R5] at e;refine sorted_strs pl.isList (Ih d) (by omega) λout zs' D g J=>?_;obtain ⟨c,L⟩:=sortedAll_at s.heap its out;have O:H (s.heap.objs.size+1)=none:=I.aa.fresh (Tr _);refine ⟨.ref (s.heap.objs.size+1),_,I.laid (t':=s.toks) (λb o q=>sortedAll_old q) (Tr _) (show A4 X.prog X.w _ _ _ (.lst (zs'.map V.str)) from ⟨?_,out.toList,c,Ea D,by simpa using L⟩),rfl,q _ zs' O g (AcV J)⟩;rw [R5,g.length_eq,R8];omega
theorem AcW (hc:X.calm=true):Bq X (.builtin "all") (λxs H Q=>∃(p:Addr)(bs:List Bool),xs=[.ref p]/\AZ X.K H p (bs.map V.bl)/\Q (.bl (bs.all id)) H):=by
 intro pins s σ H xs us Q I r h;replace h:=Bc h;obtain ⟨p,bs,rfl,hq,q⟩:=h
 obtain ⟨u,rfl,rx⟩:=Am (CL r);cases rx;obtain ⟨its,J,pl,hz⟩:=Ax (I.list hq);refine call_all_walk (W9 pl.isList ?_);have ai:p<s.heap.objs.size:=by obtain ⟨o,e,_⟩:=Am pl.isList;exact So e
 have B:=J.length;rw [R5] at B;have hb:∀(i:Nat)(v:Value),its.toArray[i]?=some v->v=Wt (bs.getD i true):=λi v D=>by
  have L:its[i]?=some v:=by simpa using D
  have d:i<bs.length:=by rw [B];exact (TL.mp L).1
  obtain ⟨u,O,e2⟩:=J.get (i:=i) (x:=.bl bs[i]) (by rw [SK,SH d];rfl);rw [L] at O;cases O;rw [Tf,SH d];exact e2
 refine ⟨s.heap.objs.size,_,_,_,_,_,λi=>bs.getD i true,rfl,Walks.list (by simpa using I.ok.hd hc) s.heap.objs.size p (Sw ai) its.toArray,⟨⟨_,SO _ rfl,rfl,rfl⟩,pl.isList.push _⟩,λi v s' Q' E' D b7=>?_,λh' Y hk=>?_⟩
 .rw [hb i v D];exact UI b7
 .have e:(Uk its.toArray.size).all (λi=>bs.getD i true)=bs.all id:=by
   rw [SY,<- B,U9,UW,UW];constructor
   .intro h b g;obtain ⟨i,d,rfl⟩:=Xt g;have:=h i (Uv.mpr d);rwa [Tf,SH d] at this
   .intro h i d;have dB:=Uv.mp d;rw [Tf,SH dB];exact h _ (UX dB)
  rw [e];have I2:Ad X pins σ H { s with heap:=h',toks:=Y }:=I.kept (t':=Y) λb o g=>hk b o (λz=>by
   rw [SA.mp z] at g;exact absurd (So g) (TK _)) (Sq _ g)
  exact ⟨.bl _,H,I2,rfl,q⟩
end
end L2
namespace L2
open PySem PySem.Spec PyProof.Rows PySem.W
section
variable {n:Nat}{key:Nat->List Nat}{cmp:Nat->Nat->(Bool->RY->Prop)->RY->Prop}{s:RY}
noncomputable def AM (p:Array Nat)(i:Nat):Nat:=p.getD i 0
theorem C1 (p:Array Nat)(i:Nat):AM p i=(p[i]?).getD 0:=by unfold AM;rw [Array.getD_eq_getD_getElem?]
structure Pm (n:Nat)(p:Array Nat):Prop where
 pm:p.toList.Perm (Uk n)
theorem Pm.size {p:Array Nat}(h:Pm n p):p.size=n:=by have:=h.pm.length_eq;simpa using this
theorem Pm.lt {p:Array Nat}(h:Pm n p){i:Nat}(hi:i<n):AM p i<n:=by
 have d:i<p.size:=by rw [h.size];exact hi
 rw [C1,Ur d];exact Uv.mp (h.pm.mem_iff.mp (YF d))
theorem Pm.inj {p:Array Nat}(h:Pm n p){i j:Nat}(hi:i<n)(B:j<n)(e:AM p i=AM p j):i=j:=by
 have d:i<p.size:=by rw [h.size];exact hi
 have g:j<p.size:=by rw [h.size];exact B
 rw [C1,C1,Ur d,Ur g] at e;have D:p.toList.Nodup:=h.pm.nodup_iff.mpr ZJ;have H:p.toList[i]'(by simpa using d)=p.toList[j]'(by simpa using g):=by simpa using e
 exact (Wx D).mp H
structure Ky (n:Nat)(key:Nat->List Nat)(cmp:Nat->Nat->(Bool->RY->Prop)->RY->Prop)(s:RY):Prop where
 df:∀ i j,i<n->j<n->i≠j->key i≠key j
 ok:∀ i j C,i<n->j<n->C (decide (key i<key j)) s->cmp i j C s
def Up (key:Nat->List Nat)(p:Array Nat)(m:Nat):Prop:=∀ i j,i<j->j<m->key (AM p i)<key (AM p j)
def Dn (key:Nat->List Nat)(p:Array Nat)(m:Nat):Prop:=∀ i j,i<j->j<m->key (AM p j)<key (AM p i)
theorem Kq (k:Ky n key cmp s){p:Array Nat}(h:Pm n p){i j:Nat}(hi:i<n)(g:j<n)(d:i≠j)(z:¬ key (AM p i)<key (AM p j)):key (AM p j)<key (AM p i):=by
 have ne:key (AM p i)≠key (AM p j):=k.df _ _ (h.lt hi) (h.lt g) λe=>d (h.inj hi g e);rcases List.le_total (key (AM p i)) (key (AM p j)) with q | q
 .exact absurd (YD q (List.not_lt.mp z)) ne
 .exact ZK λw=>ne (YD (List.not_lt.mp w) q)
theorem Up.more {p:Array Nat}{m:Nat}(u:Up key p m)(h:m=0\/key (AM p (m - 1))<key (AM p m)):Up key p (m+1):=λi j d g=>by
 by_cases e:j<m
 .exact u i j d e
 .have e:j=m:=by omega
  subst e;rcases h with h | h
  .omega
  .by_cases q:i=j - 1
   .rw [q];exact h
   .exact Xu (u i (j - 1) (by omega) (by omega)) h
theorem Dn.more {p:Array Nat}{m:Nat}(u:Dn key p m)(h:m=0\/key (AM p m)<key (AM p (m - 1))):Dn key p (m+1):=λi j d g=>by
 by_cases e:j<m
 .exact u i j d e
 .have e:j=m:=by omega
  subst e;rcases h with h | h
  .omega
  .by_cases q:i=j - 1
   .rw [q];exact h
   .exact Xu h (u i (j - 1) (by omega) (by omega))
theorem Kr (k:Ky n key cmp s){p:Array Nat}(hp:Pm n p){Q:Nat->RY->Prop}:∀(f m:Nat),1<=m->m+f=n->Up key p m->(∀ d,m<=d->d<=n->Up key p d->(d<n->key (AM p d)<key (AM p (d - 1)))->Q d s)->(kas_asc p f m).kasWp cmp Q s
 | 0,m,g,B,u,q=>q m (Sh _) (by omega) u λz=>by omega
 | f+1,m,g,B,u,q=>by
  refine k.ok _ _ _ (hp.lt (i:=m) (by omega)) (hp.lt (i:=m - 1) (by omega)) ?_;by_cases c:key (AM p m)<key (AM p (m - 1))
  .have c':key (p.getD m 0)<key (p.getD (m - 1) 0):=c;rw [decide_eq_true c'];dsimp only;rw [if_pos rfl];exact q m (Sh _) (by omega) u λ_=>c
  .have c':¬ key (p.getD m 0)<key (p.getD (m - 1) 0):=c;rw [decide_eq_false c'];dsimp only;rw [if_neg (by decide)];exact Kr k hp f (m+1) (by omega) (by omega) (u.more (.inr (Kq k hp (by omega) (by omega) (by omega) c))) λd a b=>q d (by omega) b
theorem Oc (k:Ky n key cmp s){p:Array Nat}(hp:Pm n p){Q:Array Nat×Nat×Nat->RY->Prop}:∀(f m:Nat),1<=m->m+f=n->Dn key p m->(∀ g,m<=g->g<=n->Dn key p g->Q (p,g,0) s)->(kas_desc f p m 0).kasWp cmp Q s
 | 0,m,B,D,u,q=>q m (Sh _) (by omega) u
 | f+1,m,B,D,u,q=>by
  refine k.ok _ _ _ (hp.lt (i:=m) (by omega)) (hp.lt (i:=m - 1) (by omega)) ?_;by_cases c:key (AM p m)<key (AM p (m - 1))
  .have c':key (p.getD m 0)<key (p.getD (m - 1) 0):=c;rw [decide_eq_true c'];dsimp only;rw [if_pos rfl,if_neg (by decide)];exact Oc k hp f (m+1) (by omega) (by omega) (u.more (.inr c)) λg a b=>q g (by omega) b
  .have c':¬ key (p.getD m 0)<key (p.getD (m - 1) 0):=c;rw [decide_eq_false c'];dsimp only;rw [if_neg (by decide)];have d:=Kq k hp (i:=m) (j:=m - 1) (by omega) (by omega) (by omega) c;have H:key (p.getD (m - 1) 0)<key (p.getD m 0):=d;refine k.ok _ _ _ (hp.lt (i:=m - 1) (by omega)) (hp.lt (i:=m) (by omega)) ?_;rw [decide_eq_true H];dsimp only;rw [if_pos rfl];exact q m (Sh _) (by omega) u
theorem Od {p:Array Nat}{m:Nat}(d:m<=p.size)(i:Nat):AM (kas_rev p 0 m) i=if i<m then AM p (m - 1 - i) else AM p i:=by
 rw [C1,C1,C1];unfold kas_rev;rw [getElem?_mirror d _ (by omega)];split
 .rename_i h
  have g:i<m:=by omega
  rw [if_pos g];congr 2
  omega
 .rename_i h
  split
  .congr 2
   omega
  .rfl
theorem Pm.rev {p:Array Nat}(h:Pm n p)(m:Nat):Pm n (kas_rev p 0 m):=⟨(ZL.mp (mirror_perm _ _ _ _)).trans h.pm⟩
theorem Dn.rev {p:Array Nat}{m:Nat}(h:Dn key p m)(d:m<=p.size):Up key (kas_rev p 0 m) m:=λi j B g=>by
 rw [Od d,Od d,if_pos (by omega),if_pos g];exact h _ _ (by omega) (by omega)
theorem AcX (k:Ky n key cmp s){p:Array Nat}(hp:Pm n p)(hn:1<=n){Q:Nat×Array Nat->RY->Prop}(q:∀ m D,1<=m->m<=n->Pm n D->Up key D m->Q (m,D) s):(kas_count n p).kasWp cmp Q s:=by
 unfold kas_count;rw [WQ];refine Kr k hp (n - 1) 1 (Sh _) (by omega) (λi j a b=>by omega) λm H I u d=>?_;by_cases e:m=n
 .rw [if_pos (beq_iff_eq.mpr e)];exact q m p H I hp u
 .rw [if_neg (λz=>e (beq_iff_eq.mp z))];by_cases g:m > 1
  .rw [if_pos g];have c:key (p.getD 0 0)<key (p.getD (m - 1) 0):=u 0 (m - 1) (by omega) (by omega);refine k.ok _ _ _ (hp.lt (i:=0) (by omega)) (hp.lt (i:=m - 1) (by omega)) ?_;rw [decide_eq_true c];dsimp only;rw [if_pos rfl];exact q m p H I hp u
  .rw [if_neg g];have J:m=1:=by omega
   subst J;unfold kas_descPart;rw [WQ];refine Oc k hp (n - 2) 2 (by decide) (by omega) (Dn.more (m:=1) (λi j a b=>by omega) (.inr (d (by omega)))) λB a b L=>?_;rw [if_neg (by simp)];unfold kas_tail3;rw [WQ];have Y:=hp.size;exact Kr k (hp.rev B) (n - B) B (by omega) (by omega) (L.rev (by omega)) λm2 c1 O V _=>q m2 _ (by omega) O (hp.rev B) V
theorem Ks (k:Ky n key cmp s){p:Array Nat}(hp:Pm n p){c:Nat}(hc:c<n)(u:Up key p c){Q:Nat->RY->Prop}(q:∀ l,l<=c->(∀ i,i<l->key (AM p i)<key (AM p c))->(∀ i,l<=i->i<c->key (AM p c)<key (AM p i))->Q l s) :
  ∀(f l r:Nat),l<=r->r<=c->r - l<=f->(∀ i,i<l->key (AM p i)<key (AM p c))->(∀ i,r<=i->i<c->key (AM p c)<key (AM p i))->(kas_place p c f l r).kasWp cmp Q s
 | 0,l,r,D,d,H,a,b=>by
  have e:l=r:=by omega
  subst e;exact q l d a b
 | f+1,l,r,D,d,H,a,b=>by
  unfold kas_place;by_cases g:l ≥ r
  .rw [if_pos g];have e:l=r:=by omega
   subst e;exact q l d a b
  .rw [if_neg g];refine k.ok _ _ _ (hp.lt (i:=c) hc) (hp.lt (i:=(l+r) / 2) (by omega)) ?_;by_cases z:key (AM p c)<key (AM p ((l+r) / 2))
   .have B:key (p.getD c 0)<key (p.getD ((l+r) / 2) 0):=z;rw [decide_eq_true B];dsimp only;rw [if_pos rfl];refine Ks k hp hc u q f l ((l+r) / 2) (by omega) (by omega) (by omega) a λi I J=>?_;by_cases e:i=(l+r) / 2
    .rw [e];exact z
    .exact Xu z (u _ _ (by omega) J)
   .have B:¬ key (p.getD c 0)<key (p.getD ((l+r) / 2) 0):=z;rw [decide_eq_false B];dsimp only;rw [if_neg (by decide)];have y:=Kq k hp (i:=c) (j:=(l+r) / 2) hc (by omega) (by omega) z;refine Ks k hp hc u q f ((l+r) / 2+1) r (by omega) (by omega) (by omega) (λi I=>?_) b;by_cases e:i=(l+r) / 2
    .rw [e];exact y
    .exact Xu (u _ _ (by omega) (by omega)) y
theorem Oe {p:Array Nat}{c l:Nat}(hc:c<p.size)(d:l<=c)(i:Nat):AM (bubble p c (c - l)) i=if i=l then AM p c else if l<i/\i<=c then AM p (i - 1) else AM p i:=by
 rw [C1,getElem?_bubble hc (c - l) (by omega)];have e:c - (c - l)=l:=by omega
 rw [e,C1,C1,C1];split
 .rfl
 .split<;>rfl
theorem Of (k:Ky n key cmp s){Q:Array Nat->RY->Prop}(q:∀ p,Pm n p->Up key p n->Q p s):∀(f:Nat)(p:Array Nat)(c:Nat),Pm n p->c+f=n->Up key p c->(kas_bin f p c).kasWp cmp Q s
 | 0,p,c,hp,e,u=>by
  have e:c=n:=by omega
  subst e;exact q p hp u
 | f+1,p,c,hp,e,u=>by
  unfold kas_bin;rw [WQ];have J:=hp.size;refine Ks k hp (by omega) u (λl d a b=>?_) c 0 c (S7 _) (Sh _) (Sh _) (λi z=>by omega) (λi L z2=>by omega);refine Of k q f _ (c+1) ⟨(ZL.mp (bubble_perm _ _ _)).trans hp.pm⟩ (by omega) λi j D O=>?_;rw [Oe (by omega) d,Oe (by omega) d];by_cases g:i=l
  .rw [if_pos g,if_neg (by omega),if_pos (by omega)];exact b _ (by omega) (by omega)
  .rw [if_neg g];by_cases H:l<i
   .rw [if_pos ⟨H,by omega⟩,if_neg (by omega),if_pos (by omega)];exact u _ _ (by omega) (by omega)
   .rw [if_neg (by omega)];by_cases B:j=l
    .rw [if_pos B];exact a i (by omega)
    .rw [if_neg B];by_cases I:l<j
     .rw [if_pos ⟨I,by omega⟩];by_cases V:i=j - 1
      .omega
      .exact u _ _ (by omega) (by omega)
     .rw [if_neg (by omega)];exact u _ _ D (by omega)
theorem AcY (k:Ky n key cmp s)(hn:1<=n){Q:Array Nat->RY->Prop}(q:∀ p,Pm n p->Up key p n->Q p s):(kas_sort n).kasWp cmp Q s:=by
 unfold kas_sort;rw [WQ];refine AcX k ⟨by simp⟩ hn λm p d g hp u=>?_;by_cases e:m<n
 .rw [if_pos e];have em:max m 1=m:=by omega
  rw [em];exact Of k q (n - m) p m hp (by omega) u
 .rw [if_neg e];have e:m=n:=by omega
  subst e;exact q p hp u
end
end L2
namespace L2
open PySem PySem.Spec PyProof.Rows PySem.W
section
variable {prog:R7}{w:R3}{A:Sj}{E:Value->RY->Prop}{s:RY}
def GK (prog:R7)(w:R3)(A:Sj)(key:Nat->List Nat)(vs:List Value)(s:RY):Prop :=
 R1 (R4 prog w) A (keyKind' vs.toArray) (λκ s2=>s2=s/\Ky vs.length key (kas_ask prog w A κ vs) s) (λ_ _=>False) s
noncomputable def Dm (p:Array Nat)(vs:List Value):Array Value:=(p.toList.map λi=>vs.getD i SW).toArray
theorem Og (vs:List Value):Dm (Uk vs.length).toArray vs=vs.toArray:=by
 unfold Dm;congr 1
 refine Xv (by simp) λi g d=>?_;simp [Tf,SH d]
theorem Oh {a:Addr}{vs:List Value}{n:Nat}{key:Nat->List Nat}{P:Fin->RY->Prop}(B:s.heap.get? a=some (SQ "list" vs.toArray n))(Y:vs.length<64)(hk:2<=vs.length->∀ h',(∀ b o,b≠a->s.heap.get? b=some o->h'.get? b=some o)->GK prog w A key vs { s with heap:=h' })(q:∀ p,Pm vs.length p->Up key p vs.length->P (.done (.ret .none)) { s with heap:=sortedHeap s.heap a vs (Dm p vs) }):R1 (R4 prog w) A (Builtin.«list.sort» ⟨[.ref a],[]⟩) P E s:=by
 rw [list_sort_plain];have lt:a<s.heap.objs.size:=So B;refine RZ (listItems_at B rfl (RZ (YG B rfl ?_)));obtain ⟨c,hc⟩:∃ c,(s.heap.update a (Ti λ_=>#[])).get? a=some (SQ "list" #[] c):=⟨_,get?_update_seq B (λ_=>#[])⟩;refine RZ (YH hc rfl (RZ (YI (RZ (YJ (UB ?_))))));have n1:a≠(s.heap.update a (Ti λ_=>#[])).objs.size:=by rw [YK];exact Sw lt
 have n2:a≠((s.heap.update a (Ti λ_=>#[])).push (SQ "tuple" vs.toArray 0)).objs.size:=by rw [size_push',YK];exact Sw (Ut lt)
 have hd:(((s.heap.update a (Ti λ_=>#[])).push (SQ "tuple" vs.toArray 0)).push (SQ "list" #[] 0)).get? a=some (SQ "list" #[] c):=by rw [ZM _ _ _ n2,ZM _ _ _ n1];exact hc
 have I:∀ b o,b≠a->s.heap.get? b=some o->(((s.heap.update a (Ti λ_=>#[])).push (SQ "tuple" vs.toArray 0)).push (SQ "list" #[] 0)).get? b=some o:=λb o hb e =>
  Sq _ (Sq _ (by rw [ZN _ _ _ _ hb];exact e))
 show R1 (R4 prog w) A _ P E { s with heap:=((s.heap.update a (Ti λ_=>#[])).push (SQ "tuple" vs.toArray 0)).push (SQ "list" #[] 0) };have J:∀ p,Pm vs.length p->Up key p vs.length->P (.done (.ret .none)) { s with heap:=(((s.heap.update a (Ti λ_=>#[])).push (SQ "tuple" vs.toArray 0)).push (SQ "list" #[] 0)).update a (Ti λ_=>Dm p vs) }:=q;have L:=λO=>hk O _ I;generalize ((s.heap.update a (Ti λ_=>#[])).push (SQ "tuple" vs.toArray 0)).push (SQ "list" #[] 0)=G at hd J L ⊢;dsimp only;have sz:vs.toArray.size=vs.length:=SY;by_cases two:vs.toArray.size<2
 .rw [if_pos two,if_pos two];refine RZ (Sb ?_);rw [StateT.run_pure];refine RZ (Sb ?_);dsimp only;have V:(arrOf (SortSt.mk' general' (vs.toArray.zip vs.toArray) #[] 7 none)).map (·.2)=Dm (Uk vs.length).toArray vs:=by
   rw [Og];show (vs.toArray.zip vs.toArray).map (·.2)=_;rw [Array.map_snd_zip]<;>simp
  refine RZ (YH hd rfl (RZ (YG hd rfl ?_ (hsz2:=by rw [V,Og,sz,R8];omega))));simp only [bne_self_eq_false,VS,if_false];rw [V];exact Sb (J _ ⟨by simp⟩ λi j h1 O=>by omega)
 .rw [if_neg two,if_neg two];refine RZ (TV (L (by omega)) (λκ s2 ⟨e,ky⟩=>?_) λ_ _ f=>f.elim);subst e;refine RZ (TV (kat_run (ks:=vs) (vs:=vs) (Q:=λD d=>d={ s with heap:=G }/\failedOf D=none/\∃ p,Pm vs.length p/\Up key p vs.length/\(arrOf D).map (·.2)=Dm p vs) (G:=λp d=>d={ s with heap:=G }/\Pm vs.length p/\Up key p vs.length) rfl (by omega) Y
   (λp D d _ g H ⟨e,hp,u⟩=>⟨e,H,p,hp,u,kat_snds rfl g⟩) (AcY ky (by omega) λp hp u=>⟨rfl,hp,u⟩)) (λr d ⟨e,H,p,hp,u,g⟩=>?_) λ_ _ f=>f)
  subst e;obtain ⟨⟨⟩,D⟩:=r;dsimp only at H g ⊢;have small:(Dm p vs).size<=sizeLine:=by unfold Dm;rw [SY,R5,TC,hp.size,R8];omega
  refine RZ (YH hd rfl (RZ (YG hd rfl ?_ (hsz2:=by rw [g];exact Nat.le_succ_of_le small))));rw [H,g];simp only [bne_self_eq_false,VS,if_false];exact Sb (J p hp u)
theorem AcZ {l:Addr}{vs:List Value}{key:Nat->List Nat}{Q:Value->RY->Prop}(D:s.heap.IsList l vs.toArray)(H:vs.length<64)(hk:2<=vs.length->∀ h',(∀ b o,s.heap.get? b=some o->h'.get? b=some o)->GK prog w A.in1.in1 key vs { s with heap:=h' })(q:∀ p,Pm vs.length p->Up key p vs.length->Q (.ref (s.heap.objs.size+1)) { s with heap:=sortedAll s.heap vs (Dm p vs) }):R1 (R4 prog w) A (call (.builtin "sorted") [.ref l]) Q E s:=by
 refine ZO kind_sorted plain_sorted entry_sorted (args_sorted1 _) ?_;unfold Builtin.«sorted»;refine RZ (m:=checkCount "sorted" 1 1 _) (Sb (RZ (collect_list D (RZ (YJ ?_ (by rw [R8];omega))) (by rw [R8];omega))));have g:((s.heap.push (SQ "list" #[] 0)).update s.heap.objs.size (Ti (·++vs.toArray))).objs.size=s.heap.objs.size+1:=by rw [YK,size_push']
 have B:(((s.heap.push (SQ "list" #[] 0)).update s.heap.objs.size (Ti (·++vs.toArray))).push (SQ "list" vs.toArray 0)).get? (s.heap.objs.size+1)=some (SQ "list" vs.toArray 0):=g▸SO _ rfl;have keep:∀ b o,s.heap.get? b=some o->(((s.heap.push (SQ "list" #[] 0)).update s.heap.objs.size (Ti (·++vs.toArray))).push (SQ "list" vs.toArray 0)).get? b=some o:=λb o e =>
  Sq _ (by rw [ZN _ _ _ _ (Sw (So e))];exact Sq _ e)
 show R1 _ _ _ _ _ { s with heap:=((s.heap.push (SQ "list" #[] 0)).update s.heap.objs.size (Ti (·++vs.toArray))).push (SQ "list" vs.toArray 0) };rw [g];refine RZ (UB (T1 ZP ⟨_,B,rfl⟩ ZQ (Oh (key:=key) B H (λI h' d=>hk I h' λb o e=>d b o (Sw (Ut (So e))) (keep b o e)) λp hp u=>⟨_,rfl,?_⟩) (ZR _)));exact Sb ⟨_,rfl,q p hp u⟩
end
end L2
namespace L2
open PySem PySem.Spec PyProof.Rows PySem.W
abbrev Pr:=Addr×Str×Int
noncomputable def AD (t:Pr):V:=.ref t.1
def BR (H:Hp)(ts:List Pr):Prop:=∀ t∈ts,H t.1=some (.tup [.str t.2.1,.int t.2.2])
theorem BR.same {H d:Hp}{ts:List Pr}(h:BR H ts)(s:Ae H d):BR d ts:=λt m=>s _ _ (h t m)
section
variable {X:Cx}{pins:List (Addr×Obj)}{σ:St}{H:Hp}{s:RY}
theorem Ac0 (I:Ad X pins σ H s){t:Pr}(h:H t.1=some (.tup [.str t.2.1,.int t.2.2])):∃ o tk g n,s.heap.get? t.1=some o/\o.cls=.type "tuple"/\o.data=.seq #[S2 t.2.1 tk,Tu t.2.2 g] n:=by obtain ⟨_,its,r,o,e,c,n,d⟩:=(show A4 X.prog X.w H s.heap t.1 _ from I.aa _ _ h);obtain ⟨_,_,rfl,⟨tk,rfl⟩,g,rfl⟩:=Bc r.two;exact ⟨o,tk,g,n,e,c,d⟩
noncomputable def GN (ts:List Pr)(i:Nat):List Nat:=(ts.getD i (0,Sz,0)).2.1.cps.toList
theorem Oi {x y:Str}(h:x.cps.toList=y.cps.toList):x=y:=by cases x with | mk a=>cases y with | mk b=>cases a;cases b;simp_all
theorem Kt {ts:List Pr}{vs:List Value}(r:Ar (ts.map AD) vs){i:Nat}(hi:i<ts.length):vs.getD i SW=.ref ts[i].1:=by obtain ⟨u,e,q⟩:=r.get (i:=i) (x:=.ref ts[i].1) (by rw [SK,SH hi];rfl);rw [Tf,e];exact q
theorem Ii {ts:List Pr}{i:Nat}(hi:i<ts.length):GN ts i=ts[i].2.1.cps.toList:=by unfold GN;rw [Tf,SH hi];rfl
theorem Oj {h:Heap}:∀{ts:List Pr}{vs:List Value},Ar (ts.map AD) vs->(∀ t∈ts,∃ o tk d n,h.get? t.1=some o/\o.cls=.type "tuple"/\o.data=.seq #[S2 t.2.1 tk,Tu t.2.2 d] n) ->
  ∃ fs:List Value,KatTups h vs fs/\fs.length=ts.length/\∀ f∈fs,∃ z t,f=S2 z t
 | [],_,.nil,_=>⟨[],trivial,rfl,λ_ m=>nomatch m⟩
 | t :: ts,v :: vs,.cons r q,k=>by
  obtain ⟨fs,a,b,c⟩:=Oj q λg m=>k g (SI _ m);obtain ⟨o,tk,d,n,p,B,D⟩:=Df (k t SS);have r:v=.ref t.1:=r;subst r;refine ⟨S2 t.2.1 tk :: fs,KatTups.cons p B D rfl a,by rw [TX,TX,b],λf I=>?_⟩;rcases Si.mp I with z | z
  .exact ⟨_,_,z⟩
  .exact c f z
theorem Ac1 {A:Sj}{ts:List Pr}{vs:List Value}{h':Heap}(r:Ar (ts.map AD) vs)(d:∀ t∈ts,∃ o tk J n,h'.get? t.1=some o/\o.cls=.type "tuple"/\o.data=.seq #[S2 t.2.1 tk,Tu t.2.2 J] n)(I:(ts.map (·.2.1)).Nodup)(two:2<=vs.length):GK X.prog X.w A (GN ts) vs { s with heap:=h' }:=by
 have L:=r.length;rw [R5] at L;obtain ⟨fs,O,k2,V⟩:=Ax (Oj r d);refine kat_kind (s:={ s with heap:=h' }) (T:=.type "str") O (by omega) (λv m=>?_) (by decide) ⟨rfl,⟨λi j Y hj ne e=>?_,λi j C Y hj hc=>?_⟩⟩
 .obtain ⟨z,t,rfl⟩:=V v m;exact Looks.of_pure rfl
 .rw [Ii (by omega),Ii (by omega)] at e;have e':=Oi e;have g:i<(ts.map (·.2.1)).length:=by rw [R5];omega
  have p:j<(ts.map (·.2.1)).length:=by rw [R5];omega
  exact ne ((Wx (h₀:=g) (h₁:=p) I).mp (by simpa using e'))
 .have B:i<ts.length:=by omega
  have D:j<ts.length:=by omega
  show R1 _ A (keyLt' (tuples' true) (vs.getD i SW) (vs.getD j SW)) C _ _;rw [Kt r B,Kt r D];obtain ⟨o1,a1,b1,n1,x1,x2,x3⟩:=d ts[i] (UX B);obtain ⟨o2,a2,b2,n2,y1,y2,y3⟩:=d ts[j] (UX D);refine kat_lt (s:={ s with heap:=h' }) x1 x3 y1 y3 (kat_cons (eqBool_str ?_));rw [Ii B,Ii D] at hc;by_cases e:ts[i].2.1=ts[j].2.1
  .have g:i<(ts.map (·.2.1)).length:=by rw [R5];omega
   have p:j<(ts.map (·.2.1)).length:=by rw [R5];omega
   have ij:i=j:=(Wx (h₀:=g) (h₁:=p) I).mp (by simpa using e);subst ij;rw [beq_self_eq_true];refine kat_yes (kat_cons (Y8 ?_));rw [beq_self_eq_true];refine kat_yes (kat_nil ?_);rw [decide_eq_false (List.lt_irrefl _)] at hc;simpa using hc
  .rw [beq_eq_false_iff_ne.mpr e];exact kat_no (oneLt_str hc)
theorem Ku:Bq X (.builtin "sorted") (λxs H Q=>∃(p:Addr)(ts:List Pr),xs=[.ref p]/\AZ X.K H p (ts.map AD)/\BR H ts/\(ts.map (·.2.1)).Nodup/\ts.length<64 /\
  ∀(l:Addr)(B:List Pr),H l=none->B.Perm ts->B.Pairwise (λa b=>BQ a.2.1 b.2.1)->Q (.ref l) (upd H l (.lst (B.map AD)))):=by
 intro pins s σ H xs us Q I r h;replace h:=FA h;obtain ⟨p,ts,rfl,hq,D,nd,J,q⟩:=h
 obtain ⟨u,rfl,rx⟩:=Am (CL r);cases rx;obtain ⟨its,L,pl,hz⟩:=Ax (I.list hq);have V:=L.length;rw [R5] at V;have objs:=λt (m:t∈ts)=>Ac0 I (D t m);refine AcZ (key:=GN ts) pl.isList (by omega) (λtwo h' keep=>Ac1 L (λt m=>?_) nd two) λd hp up=>?_
 .obtain ⟨o,a,b,n,e1,e2,e3⟩:=Df (objs t m);exact ⟨o,a,b,n,keep _ _ e1,e2,e3⟩
 .obtain ⟨c,ho⟩:=sortedAll_at s.heap its (Dm d its);have fr:H (s.heap.objs.size+1)=none:=I.aa.fresh (Tr _);have g:=hp.pm;rw [<- V] at g up;have j8:∀ i∈d.toList,i<ts.length:=λi m=>Uv.mp (g.mem_iff.mp m);have vv:∀ l:List Nat,(∀ i∈l,i<ts.length)->Ar ((l.map λi=>ts.getD i (0,Sz,0)).map AD) (l.map λi=>its.getD i SW):=λl J=>by
   induction l with
   | nil=>exact .nil
   | cons i l ih =>
    have Y:=J i SS;refine .cons ?_ (ih λj m=>J j (SI _ m));dsimp only;rw [Kt L Y,Tf,SH Y];rfl
  have perm:(d.toList.map λi=>ts.getD i (0,Sz,0)).Perm ts:=by have:=g.map λi=>ts.getD i (0,Sz,0);refine this.trans (YL ?_);refine Xv (by simp) λi h1 O=>?_;simp [Tf,SH O]
  have sz:d.size=ts.length:=by have:=g.length_eq;simpa using this
  refine ⟨.ref (s.heap.objs.size+1),_,I.laid (t':=s.toks) (λb o q=>sortedAll_old q) (Tr _) (show A4 X.prog X.w _ _ _ (.lst ((d.toList.map λi=>ts.getD i (0,Sz,0)).map AD)) from ⟨?_,(d.toList.map λi=>its.getD i SW),c,vv _ j8,ho⟩),rfl,q _ _ fr perm ?_⟩
  .rw [R5,R5,TC,sz,R8];omega
  .rw [Wg,ZS];intro i j h1 O j9;have k1:i<d.size:=by simpa using h1
   have k2:j<d.size:=by simpa using O
   have:=up i j j9 (by omega);rw [C1,C1,Ur k1,Ur k2] at this;simp only [Option.getD_some,GN] at this;have t':(ts.getD d.toList[i] (0,Sz,0)).2.1.cps.toList<(ts.getD d.toList[j] (0,Sz,0)).2.1.cps.toList:=by simpa using this
   exact List.le_of_lt t'
end
end L2
namespace L2
open PySem PySem.Spec PyProof.Rows
noncomputable def BS (w:R3):Bool:=w.params.followText "set-order"
def GO (w:R3)(e:Int×Value):Prop:=∃ z tk,e=(T3 w z,S2 z tk)
noncomputable def B1 (e:Int×Value):Str:=match e.2 with
 | .str z _=>z
 | _=>Sz
def Cu (w:R3)(h:Heap)(a:Addr)(zs:List Str):Prop:=∃ o es ep t,h.get? a=some o/\o.ExactSet/\o.data=.set es ep t/\zs=es.toList.map B1/\(∀ e∈es.toList,GO w e)/\zs.Nodup/\zs.length<3000/\t.fits es.size=true/\t.led=!BS w/\(zs≠[]->t.plain=false)
theorem Cu.at {w:R3}{h h':Heap}{a:Addr}{zs:List Str}(x:Cu w h a zs)(k:∀ o,h.get? a=some o->h'.get? a=some o):Cu w h' a zs:=by obtain ⟨o,d,g,t,e,r⟩:=Df x;exact ⟨o,d,g,t,k _ e,r⟩
theorem Kv {w:R3}{e:Int×Value}(h:GO w e):∃ tk,e=(T3 w (B1 e),S2 (B1 e) tk):=by obtain ⟨z,tk,rfl⟩:=h;exact ⟨tk,rfl⟩
theorem Ac2 {prog:R7}{w:R3}{l:List (Int×Value)}(h:∀ e∈l,GO w e):ElemsOf (Bp prog w) l:=λe m=>by
 obtain ⟨z,d,rfl⟩:=h e m;exact ⟨⟨SM z,FC prog w z d,rfl⟩,rfl⟩
theorem Ol {w:R3}{e:Int×Value}{z:Str}(h:GO w e):DE (SM z) e.2=true↔B1 e=z:=by
 obtain ⟨y,d,rfl⟩:=h;show W6 z (.str y d)=true↔y=z;constructor
 .intro q;obtain ⟨t,e⟩:=Y7 q;injection e
 .rintro rfl;exact MI y d
theorem Ac3 (t:Tx)(n:Nat):(t.orStandIn n).led=t.led:=by unfold ZT ZU;split<;>rfl
theorem Ac4 {t:Tx}{n:Nat}(h:t.plain=false):(t.orStandIn n).plain=false:=by unfold ZT ZU;split<;>first | exact h | rfl
theorem Ac5 (t:Tx)(es:Array (Int×Value))(h:Int)(x:Value):(Wh t es h x).2.1.led=t.led:=by
 unfold Wh;split
 .exact Ac3 _ _
 .rfl
theorem Ac6 {t:Tx}{es:Array (Int×Value)}{h:Int}{x:Value}(hp:t.plain=false):(Wh t es h x).2.1.plain=false:=by
 unfold Wh;split
 .exact Ac4 hp
 .rfl
theorem Om {t t':Tx}{hs:Array Int}{n:Nat}{o:Array Nat}(e:t.relaid hs n=some (t',o)):t'.led=t.led/\t'.plain=t.plain:=by
 unfold SetTable.relaid SetTable.laid at e;cases q:SetTable.layClean (SetTable.sizeAbove n - 1) hs with
 | none=>rw [q] at e;cases e
 | some x=>rw [q] at e;cases e;exact ⟨rfl,rfl⟩
theorem Ac7 (t:Tx)(es:Array (Int×Value))(n:Nat):(Vm t es n).2.1.led=t.led:=by
 unfold Vm;split
 .rename_i t' o e
  dsimp only;split
  .exact (Om e).1
  .rfl
 .rfl
theorem Ac8 {t:Tx}{es:Array (Int×Value)}{n:Nat}(hp:t.plain=false):(Vm t es n).2.1.plain=false:=by
 unfold Vm;split
 .rename_i t' o e
  dsimp only;split
  .exact (Om e).2.trans hp
  .rfl
 .rfl
section
variable {prog:R7}{w:R3}{A:Sj}{E:Value->RY->Prop}{s:RY}
theorem Oo {a:Addr}{o:Obj}{es es':Array (Int×Value)}{d:Nat}{t t':Tx}{h:Heap}(g:h.get? a=some o)(hd:o.data=.set es d t):(h.update a (Xw es' t')).get? a=some { o with data:=.set es' (d+1) t' }:=by have e:=Vn (Xw es' t') g (by rw [putSet_of es' t' hd];rfl);rwa [putSet_of es' t' hd] at e
theorem add_str {a:Addr}{zs:List Str}{z:Str}{tk:Tok}{Q:Bool->RY->Prop}(hS:Cu w s.heap a zs)(room:zs.length+1<3000)(q:∀ h' zs' b,S4 a s.heap h'->Cu w h' a zs'->(if z∈zs then zs'=zs else zs'.Perm (zs++[z]))->Q b { s with heap:=h' }):R1 (R4 prog w) A (setAddHashed a (.str z tk) (T3 w z)) Q E s:=by
 obtain ⟨o,B,ep,t,Y,hex,hd,rfl,d6,nd,aD,hf,led,pl⟩:=ES (id hS);rw [R5,TC] at aD room;have sb:scanBound=4096:=rfl;have nX:=Ac2 (prog:=prog) d6;unfold setAddHashed YM;refine UB (RZ (Vo Y hd hf ?_));dsimp only;rw [byScan_of (knd:=Bp prog w) (x:=S2 z tk) rfl (by omega) nX];simp only [↓reduceIte];unfold setAddByScan;refine RZ (RZ (Vp (RZ (wpAny_setScan_of (knd:=Bp prog w) (k:=SM z) (FC prog w z tk) Y hd hf nX ?_))));cases nY:List.findIdx? (λe=>(Bp prog w).is (SM z) e.2) B.toList with
 | some j =>
  obtain ⟨hj,hp,_⟩:=List.findIdx?_eq_some_iff_getElem.mp nY;have mem:z∈B.toList.map B1:=Sx.mpr ⟨_,UX hj,(Ol (d6 _ (UX hj))).mp hp⟩;dsimp only;exact Sb (Sb (q s.heap _ _ (Heap.SameBut.refl a s.heap) hS (by rw [if_pos mem])))
 | none =>
  have nZ:z ∉ B.toList.map B1:=λm=>by
   obtain ⟨e,me,rfl⟩:=Am (Sx.mp m);have:=List.findIdx?_eq_none_iff.mp nY e me;rw [show (Bp prog w).is (SM (B1 e)) e.2=true from (Ol (d6 e me)).mpr rfl] at this;cases this
  have I:=layNew_perm t B (T3 w z) (.str z tk);have iT:=layNew_fits t B (T3 w z) (.str z tk);have l1:=Ac5 t B (T3 w z) (.str z tk);have p1:t.plain=false->(Wh t B (T3 w z) (.str z tk)).2.1.plain=false:=Ac6;dsimp only;have ek:MF w (SM z)=T3 w z:=rfl;have ek2:(Bp prog w).hash (SM z)=T3 w z:=rfl;try rw [ek2]
  generalize Wh t B (T3 w z) (.str z tk)=L at I iT l1 p1 ⊢;obtain ⟨d,t1,wd,aaG⟩:=L;dsimp only at I iT l1 p1 ⊢;rw [YN] at I;have aaH:∀ e∈d.toList,GO w e:=λe m=>by
   rcases SG.mp (I.mem_iff.mp m) with y | y
   .exact d6 e y
   .rw [SA.mp y];exact ⟨z,tk,rfl⟩
  have pz:(d.toList.map B1).Perm (B.toList.map B1++[z]):=by have:=I.map B1;rwa [Su] at this
  have sz1:d.size=B.size+1:=by rw [<- TC,I.length_eq,SF,TC];rfl
  have c9:(d.toList.map B1).Nodup:=pz.nodup_iff.mpr (VU.mpr ⟨nd,Te.mpr ⟨by simp,UY⟩,λx hx y hy e=>by rw [SA.mp hy] at e;exact nZ (e▸hx)⟩);have J:∀(h':Heap)(O:Obj)(D:Array (Int×Value))(ka:Nat)(g:Tx),S4 a s.heap h'->h'.get? a=some O->O.ExactSet->O.data=.set D ka g->D.toList.Perm d.toList->g.fits D.size=true->g.led=t.led->g.plain=false->∀ b,Q b { s with heap:=h' }:=λh' O D ka g sm e1 e2 e3 H f2 l2 p2 b=>by
   have gK:=H.map B1;refine q h' (D.toList.map B1) b sm ⟨O,D,ka,g,e1,e2,e3,rfl,λe m=>aaH e (H.mem_iff.mp m),gK.nodup_iff.mpr c9,?_,f2,l2.trans led,λ_=>p2⟩ (by rw [if_neg nZ];exact gK.trans pz);rw [R5,H.length_eq,TC,sz1];omega
  have quiet:∀(b:Bool){s₁:RY}{Q':Unit->RY->Prop},Q' () s₁->R1 (R4 prog w) A (match b with | true=>rule "set.scan.the-table-gave-way" | false=>pure ()) Q' E s₁:=λb s₁ Q' h=>by
   cases b
   .exact Sb h
   .exact Vp h
  refine RZ (quiet aaG ?_);have V:∀ g:Tx,g.fits d.size=true->g.led=t.led->g.plain=false->∀(K:Option Bool->Sem Bool),(∀ h' b,(∀ b,Q b { s with heap:=h' })->R1 (R4 prog w) A (K (some b)) Q E { s with heap:=h' }) ->
    R1 (R4 prog w) A (do
     storeSet a d g
     if (!wd && g.tooFull)=true then do
       (match (Vm g d (Vq d.size)).2.2 with | true=>rule "set.scan.the-table-gave-way" | false=>pure ())
       storeSet a (Vm g d (Vq d.size)).1 (Vm g d (Vq d.size)).2.1
       pure (some true)
      else pure (some true)) (λr s'=>R1 (R4 prog w) A (K r) Q E s') E s:=by
   intro g f2 l2 p2 K hK;refine RZ (ZV Y hd ?_ (by rw [R8];omega));have g1:=Oo (es':=d) (t':=g) Y hd;have s1:=VW s.heap a (Xw d g);split
   .have H:=relayAll_perm g d (Vq d.size);have f3:=relayAll_fits g d (Vq d.size);have l3:=Ac7 g d (Vq d.size);have p3:=Ac8 (es:=d) (n:=Vq d.size) p2;generalize Vm g d (Vq d.size)=R at H f3 l3 p3 ⊢;obtain ⟨D,t3,g2⟩:=R;dsimp only at H f3 l3 p3 ⊢;have sz2:D.size=d.size:=by rw [<- TC,H.length_eq,TC]
    refine RZ (quiet g2 (RZ (ZV (s:={ s with heap:=s.heap.update a (Xw d g) }) g1 rfl ?_ (by rw [R8];omega))));have g3:=Oo (es':=D) (t':=t3) g1 rfl;exact Sb (hK _ true (J _ _ D _ t3 (s1.trans (VW _ a _)) g3 hex rfl H f3 (l3.trans l2) p3))
   .exact Sb (hK _ true (J _ _ d _ g s1 g1 hex rfl (WR _) f2 l2 p2))
  by_cases hp:t1.plain=true
  .rw [if_pos hp];refine RZ ?_;rw [hashByValue_scannable 8 (x:=S2 z tk) rfl];refine Sb ?_;exact V { t1 with plain:=false } (SetTable.fits_plain_off iT) l1 rfl (λr=>match r with | some p=>pure p | none=>YM a (.str z tk) (T3 w z) 99999) λh' b hq=>Sb (hq b)
  .have hp:t1.plain=false:=by simpa using hp
   rw [if_neg (by rw [hp];decide)];refine RZ (Sb ?_);exact V t1 iT l1 hp (λr=>match r with | some p=>pure p | none=>YM a (.str z tk) (T3 w z) 99999) λh' b hq=>Sb (hq b)
end
section
variable {prog:R7}{w:R3}{A:Sj}{I:Addr}{fp wr:List Addr}{G:Array Ww->Array Ww->Prop}{n:Nat}{P:Nat->Value->Prop}{St:Nat->RY->Prop}
theorem Ac9 {R:VF->RY->Prop}(W:WalksS prog w A.in1 I fp wr G n P St)(S:Addr)(hS:S ∉ fp)(val:Nat->Str)(O:∀ i v,P i v->∃ t,v=S2 (val i) t)(aD:n+1<3000) :
  ∀(k i:Nat)(s:RY)(zs:List Str),n - i=k->i<=n->St i s->Cu w s.heap S zs->(∀ z,z∈zs↔∃ j,j<i/\val j=z)->zs.length<=i ->
   (∀ d zs',Moved (S :: wr) G s d->Cu w d.heap S zs'->(∀ z,z∈zs'↔∃ j,j<n/\val j=z)->R (.ok (.ret .none)) d)->Tq (R4 prog w) A (.builtin "set.update.loop" ⟨[.ref S,.ref I],[]⟩) R s:=by
 have J:S ∉ wr:=λh=>hS (W.sub _ h);have sub:∀ b∈wr,b∈S :: wr:=λb h=>SI _ h;intro k;induction k with
 | zero =>
  intro i s zs hk V st x mem _ q;have e:i=n:=by omega
  subst e;refine VQ ZW ?_;rw [WS YO _];show R1 _ A.in1 (Tg (.ref I) >>= _) _ _ s;refine RZ (W.done s _ _ st λd m=>?_);exact Sb (q d zs (m.mono sub) (x.at λo e=>m.heap S o J e) mem)
 | succ k ih =>
  intro i s zs hk V st x mem len q;refine VQ ZW ?_;rw [WS YO _];show R1 _ A.in1 (Tg (.ref I) >>= _) _ _ s;refine RZ (W.item i s _ _ (by omega) st λv d Y aH m=>?_);obtain ⟨t,rfl⟩:=O i v Y;have x':=x.at λo e=>m.heap S o J e;show R1 _ A.in1 (UH [S2 (val i) t] (setAdd S (.str (val i) t)) >>= _) _ _ d;refine RZ (UB ?_);unfold setAdd;refine UB (RZ ((Bp prog w).pyHash (k:=SM (val i)) (FC _ _ _ _) ?_));refine add_str (s:={ d with toks:=d.toks+1 }) x' (by omega) λh' zs' b L x2 g=>?_;have B:∀ z,z∈zs'↔∃ j,j<i+1/\val j=z:=λz=>by
   have e:z∈zs'↔z∈zs\/z=val i:=by
    by_cases y:val i∈zs
    .rw [if_pos y] at g;rw [g];exact ⟨.inl,λh=>h.elim id λe=>e▸y⟩
    .rw [if_neg y] at g;rw [g.mem_iff,SG,SA]
   rw [e,mem];constructor
   .rintro (⟨j,h1,p⟩ | h)
    .exact ⟨j,by omega,p⟩
    .exact ⟨i,by omega,h.symm⟩
   .rintro ⟨j,h1,p⟩;by_cases h:j<i
    .exact .inl ⟨j,h,p⟩
    .have:j=i:=by omega
     subst this;exact .inr p.symm
  have kb:zs'.length<=i+1:=by
   by_cases y:val i∈zs
   .rw [if_pos y] at g;rw [g];omega
   .rw [if_neg y] at g;rw [g.length_eq,SF,TR];omega
  refine Sb ⟨Xx YO _,ih (i+1) _ zs' (by omega) (by omega) (W.frame _ d _ _ aH (Tr _) λb hb o e=>?_) x2 B kb λaB D m2 x3 H=>?_⟩
  .exact (L.2 b λh=>hS (h▸hb)).trans e
  .refine q aB D (Moved.trans W.gtrans ((m.mono sub).then_heap (Tr _) λb o hb e=>?_) m2) x3 H;exact (L.2 b λh=>hb (h▸SS)).trans e
end
section
variable {prog:R7}{w:R3}{A:Sj}{E:Value->RY->Prop}{s:RY}
theorem Ada (a:Value){Q₁:Value->RY->Prop}(h:Q₁ (.ref s.heap.objs.size) { s with heap:=s.heap.push { cls:=.type "set",dict:=none,data:=.set #[] 0 (.fresh 0 0 (!BS w)) } }) :
  Tq (R4 prog w) A (.call (.builtin "set.__new__") ⟨[.type "set",a],[]⟩) (wants Q₁ E) s:=by
 refine YQ ?_;show R1 _ A.in1 (do Yr "set.__new__" ⟨[.type "set",a],[]⟩;again (.builtin "set.__new__" ⟨[.type "set",a],[]⟩)) _ _ s;refine RZ (YR (F.newCall_set_1 a) (Sb ⟨Xx ZX _,VQ F.entry_set_new ?_⟩));rw [WS ZX _];unfold Builtin.«set.__new__» Builtin.Frozenset.newClass;have sub:=sub_set_self;obtain ⟨hp,g,d,p,os⟩:=s;dsimp only;wp_walk
 refine Vr (Sb ?_);dsimp only;simp only [newObj];exact RZ (wpAny_alloc (Sb (Sb h)))
theorem Oq {h:Heap}{a:Addr}(e:h.get? a=some { cls:=.type "set",dict:=none,data:=.set #[] 0 (.fresh 0 0 (!BS w)) }):Cu w h a [] :=
 ⟨_,#[],0,_,e,⟨rfl,rfl,rfl⟩,rfl,rfl,λe m=>by simp at m,UY,by decide,rfl,rfl,λz=>(z rfl).elim⟩
theorem Adb {l:Addr}{items:Array Value}{zs:List Str}{Q:Value->RY->Prop}(hh:A.handled=none)(hl:s.heap.IsList l items)(hi:UU items.toList zs)(aD:items.size+1<3000)(q:∀ (h':Heap) (tk:Nat) (zs':List Str),Cu w h' s.heap.objs.size zs'->(∀ z,z∈zs'↔z∈zs)->(∀ b o,b<s.heap.objs.size->s.heap.get? b=some o->h'.get? b=some o)->Q (.ref s.heap.objs.size) { s with heap:=h',toks:=tk }) :
  R1 (R4 prog w) A (call (.type "set") [.ref l]) Q E s:=by
 obtain ⟨c,tl,aeQ⟩:=Vs.mro;have made:=Vs.made;have sub:=Vs.sub;refine V7 (YQ ?_);show R1 _ _ (callAny (.type "set") _) _ _ _;refine Sb ⟨Zu _ (by decide +kernel),VQ F.entry_type_call ?_⟩;rw [Around.under_plain (weight_type_call_type "set" [.ref l] []) rfl];have c1:=Vs.notType;have c2:=Vs.canCreate;have c3:=F.typeCall_set_1 (.ref l);repeat (any_goals (first | assumption | wp_step))
 refine UM (Ada (.ref l) (E:=E) (Q₁:=λobj J=>obj=.ref s.heap.objs.size/\J={ s with heap:=s.heap.push { cls:=.type "set",dict:=none,data:=.set #[] 0 (.fresh 0 0 (!BS w)) } }) ⟨rfl,rfl⟩) λr J g=>?_;cases r with
 | error e=>exact g
 | ok fl =>
  cases fl with
  | ret obj =>
   obtain ⟨rfl,rfl⟩:=g;have atS:(s.heap.push { cls:=.type "set",dict:=none,data:=.set #[] 0 (.fresh 0 0 (!BS w)) }).get? s.heap.objs.size=some { cls:=.type "set",dict:=none,data:=.set #[] 0 (.fresh 0 0 (!BS w)) }:=SO _ rfl;have ty:WT { s with heap:=s.heap.push { cls:=.type "set",dict:=none,data:=.set #[] 0 (.fresh 0 0 (!BS w)) } } (.ref s.heap.objs.size) "set":=⟨_,atS,rfl⟩;have i1:=Vs.init.lookup;have i2:=Vs.init.bind (.ref s.heap.objs.size);repeat (any_goals (first | assumption | wp_step))
   refine UM (Yq (R:=wants (λr L=>r=.none/\∃ h' tk zs',L={ s with heap:=h',toks:=tk }/\Cu w h' s.heap.objs.size zs'/\(∀ z,z∈zs'↔z∈zs) /\
     (∀ b o,b<s.heap.objs.size->s.heap.get? b=some o->h'.get? b=some o)) E) Vs.init.plain F.entry_set_init (check_set_init_1 ty ?_)) λr₂ L p=>?_
   .obtain ⟨⟨aeR,B,aeS,D⟩,O,V,Y,e3⟩:=Ax hl;simp only at V e3;subst V e3;have bz:(s.heap.push { cls:=.type "set",dict:=none,data:=.set #[] 0 (.fresh 0 0 (!BS w)) }).get? l=some { cls:=.type "list",dict:=B,data:=.seq items Y,slots:=D }:=Sq _ O;have s1:=F.sub_list_set;have s2:=F.sub_list_frozenset;have s3:(UG "list" == UG "dict")=false:=by decide
    have l1:(s.heap.push { cls:=.type "set",dict:=none,data:=.set #[] 0 (.fresh 0 0 (!BS w)) }).IsList l items:=⟨_,bz,rfl,Y,rfl⟩;unfold Builtin.«set.__init__» noKeywords Builtin.Frozenset.updateFrom;generalize H:VD=PI;wp_walk
    subst H;refine W9 l1 (RZ (ZY ?_));have lt:l<s.heap.objs.size:=So O;have ns:l≠(s.heap.push { cls:=.type "set",dict:=none,data:=.set #[] 0 (.fresh 0 0 (!BS w)) }).objs.size:=by rw [Tb];exact Sw (Ut lt)
    have nf:s.heap.objs.size ∉ [(s.heap.push { cls:=.type "set",dict:=none,data:=.set #[] 0 (.fresh 0 0 (!BS w)) }).objs.size,l]:=by rw [Tb];simp only [Si,Tz,or_false,not_or];exact ⟨Sw (Uq _),T6 lt⟩
    have ze:zs.length=items.size:=by have:=(Ea hi).length;rw [R5] at this;simpa using this
    have val:∀(i:Nat)(v:Value),items[i]?=some v->∃ t,v=S2 (zs.getD i Sz) t:=λi v hv=>by
     have fM:items.toList[i]?=some v:=by rw [Zy];exact hv
     have il:i<zs.length:=by rw [ze];exact (Array.getElem?_eq_some_iff.mp hv).1
     obtain ⟨u,g1,g2⟩:=(Ea hi).get (i:=i) (x:=.str zs[i]) (by rw [SK,SH il];rfl);rw [fM] at g1;cases g1;obtain ⟨t,rfl⟩:=g2;exact ⟨t,by rw [Tf,SH il];rfl⟩
    have nh:A.in1.in1.in1.handled=none:=by simp [hh]
    refine Ac9 ((Walks.list nh _ l ns items).toS) s.heap.objs.size nf (λi=>zs.getD i Sz) val aD (items.size - 0) 0 _ [] (by omega) (S7 _) ⟨⟨_,SO _ rfl,rfl,rfl⟩,l1.push _⟩ (Oq (Sq _ atS)) (λz=>⟨λh=>absurd h Tz,λzz=>Cp zz λj h _=>absurd h (Nat.not_lt_zero _)⟩) (Sh _) ?_;intro s' zs' m x mem;obtain ⟨h',g',d',bw,jT⟩:=s';have eg:g'=s.gens:=m.gens;have ed:d'=s.drawn:=m.drawn;have eo:jT=s.os:=m.os;subst eg ed eo;show R1 _ _ _ _ _ _;refine Sb ?_;show R1 _ _ (ret SW) _ _ _;refine Sb ⟨rfl,h',bw,zs',rfl,x,λz=>?_,λb o hb e=>?_⟩
    .rw [mem];constructor
     .rintro ⟨j,h1,rfl⟩;have d:j<zs.length:=by omega
      rw [Tf,SH d];exact UX d
     .intro h;obtain ⟨j,d,rfl⟩:=Xt h;exact ⟨j,by omega,by rw [Tf,SH d];rfl⟩
    .have b2:b≠(s.heap.push { cls:=.type "set",dict:=none,data:=.set #[] 0 (.fresh 0 0 (!BS w)) }).objs.size:=by rw [Tb];exact Sw (Ut hb)
     exact m.heap b o (by simp only [Si,Tz,or_false,not_or];exact ⟨Sw hb,b2⟩) (Sq _ (Sq _ e))
   .cases r₂ with
    | error e=>exact p
    | ok I =>
     cases I with
     | ret r =>
      obtain ⟨rfl,h',tk,zs',rfl,x,mem,hk⟩:=p;repeat (any_goals (first | assumption | wp_step))
      exact q _ _ _ x mem hk
     | _=>exact p.elim
  | _=>exact g.elim
end
noncomputable def Bo (w:R3)(a:Addr)(zs:List Str):HO:=.ext λh=>∃ zs',Cu w h a zs'/\∀ z,z∈zs'↔z∈zs
theorem Kw {P:R7}{w:R3}{H:Hp}{h:Heap}{a:Addr}{zs zs':List Str}(x:Cu w h a zs')(m:∀ z,z∈zs'↔z∈zs):A4 P w H h a (Bo w a zs):=by refine ⟨⟨zs',x,m⟩,?_,λg p ⟨y,d,m1⟩ k=>⟨y,d.at k,m1⟩⟩;obtain ⟨o,_,_,_,e,_⟩:=Df x;exact ⟨o,e⟩
theorem Ij:∀{a b:List Str},a.Nodup->(∀ z∈a,z∈b)->a.length<=b.length
 | [],b,_,_=>S7 _
 | x :: a,b,nd,h=>by
  have d:=Te.mp nd;have hx:=h x SS;have ih:=Ij (b:=b.erase x) d.2 λz g=>(List.mem_erase_of_ne (λe:z=x=>d.1 (e▸g))).mpr (h z (SI _ g));rw [List.length_erase_of_mem hx] at ih;have:0<b.length:=ZZ hx;rw [TX];omega
theorem Adc {a b:List Str}(B:a.Nodup)(m:∀ z,z∈a↔z∈b):a.length=b.length↔b.Nodup:=by
 constructor
 .intro e;refine ZK λh=>?_;have d:∀ b:List Str,¬ b.Nodup->∃ c:List Str,c.length<b.length/\∀ z,z∈c↔z∈b:=λb=>by
   induction b with
   | nil=>exact λh=>(h UY).elim
   | cons x b ih =>
    intro h;by_cases hx:x∈b
    .exact ⟨b,by simp,λz=>⟨SI _,λg=>(Si.mp g).elim (λe=>e▸hx) id⟩⟩
    .obtain ⟨c,D,p⟩:=ih λq=>h (Te.mpr ⟨hx,q⟩);refine ⟨x :: c,by simpa using D,λz=>?_⟩;rw [Si,Si,p]
  obtain ⟨c,D,p⟩:=Am (d b h);have:=Ij B λz g=>(p z).mpr ((m z).mp g);omega
 .intro hb;exact ((YS B hb).mpr m).length_eq
section
variable {X:Cx}
theorem Kx {w:R3}(hw:X.w=w)(hc:X.calm=true):Bq X (.type "set") (λxs H Q=>∃(p:Addr)(zs:List Str),xs=[.ref p]/\AZ X.K H p (zs.map V.str)/\zs.length<2000/\∀ l,H l=none->Q (.ref l) (upd H l (Bo w l zs))):=by
 subst hw;intro pins s σ H xs D Q I r h;replace h:=Bc h;obtain ⟨p,zs,rfl,hq,J,q⟩:=h
 obtain ⟨u,rfl,g⟩:=Am (CL r);cases g;obtain ⟨its,d,pl,L⟩:=Ax (I.list hq);have e:=d.length;rw [R5] at e;refine Adb (items:=its.toArray) (zs:=zs) (I.ok.hd hc) pl.isList (by simpa using Ih d) (by rw [SY];omega) λO B zs' x m k=>?_;exact ⟨.ref s.heap.objs.size,_,I.laid (t':=B) (λb o e=>k b o (So e) e) (Sh _) (Kw x m),rfl,q _ I.fresh⟩
theorem Ot {w:R3}(hw:X.w=w):Bq X (.builtin "len") (λxs H Q=>∃(p:Addr)(zs:List Str),xs=[.ref p]/\H p=some (Bo w p zs)/\∀ n:Nat,(n=zs.length↔zs.Nodup)->Q (.int n) H):=by
 subst hw;intro pins s σ H xs Y Q I r h;replace h:=Bc h;obtain ⟨p,zs,rfl,hp,q⟩:=h
 obtain ⟨u,rfl,g⟩:=Am (CL r);cases g;obtain ⟨⟨zs',⟨o,d,ep,t,B,D,J,L,e5,O,aD,V,_⟩,m⟩,_⟩:=(show A4 X.prog X.w H s.heap p (Bo X.w p zs) from I.aa p _ hp);have sz:zs'.length=d.size:=by rw [L,R5,TC]
 refine call_len_set B D J V (by omega) ⟨.int d.size,H,I.tok _,⟨_,rfl⟩,q _ ?_⟩;rw [<- sz];exact Adc O m
end
section
variable {prog:R7}{w:R3}{A:Sj}{R:VF->RY->Prop}{E:Value->RY->Prop}{s:RY}
theorem Ade {Q:Value->RY->Prop}(h:Q (.ref s.heap.objs.size) { s with heap:=s.heap.push { cls:=.type "set",dict:=none,data:=.set #[] 0 (.fresh 0 0 (!BS w)) } }):R1 (R4 prog w) A (newSet (.type "set")) Q E s:=by unfold newSet WU;refine RZ (RZ (Vr (Sb ?_)));dsimp only;simp only [newObj];exact RZ (wpAny_alloc (Sb h))
theorem Adf (d B iter:R6)(g:List R6)(sc:Scope)(pos:Pos)(it p:Value)(env:Env):Xq (.SetComp d [⟨B,iter,g,0⟩] sc pos) 0 it p env=(do
  Um iter.pos
  match <- Tg it with
  | none=>pure (.done .next)
  | some v =>
   VC B it v
   T5 B env v
   let ok <- GG g env
   if ok then (do let v <- Sf d env;Um d.pos;let _ <- call (.builtin "set.add") [p,v])
   again (.compLoop (.SetComp d [⟨B,iter,g,0⟩] sc pos) 0 it p env)):=by rfl
theorem Adg {d J iter:R6}{g:List R6}{sc:Scope}{pos:Pos}{it p:Value}{env:Env}(I:Nat->RY->Prop)(B:∀ n s,I n s->R1 (R4 prog w) A (Tg it) (λr L=>match r with
   | none=>R (.ok .next) L
   | some v=>R1 (R4 prog w) A (VC J it v) (λ_ V=>R1 (R4 prog w) A (T5 J env v) (λ_ Y=>R1 (R4 prog w) A (GG g env) (λok O =>
     if ok=true then R1 (R4 prog w) A (Sf d env) (λx s₅=>R1 (R4 prog w) A (call (.builtin "set.add") [p,x]) (λ_ s₆=>∃ m,m<n/\I m s₆) (λ_ _=>False) s₅) (λ_ _=>False) O
     else ∃ m,m<n/\I m O) (λ_ _=>False) Y) (λ_ _=>False) V) (λ_ _=>False) L) (λ_ _=>False) s)(n:Nat)(h:I n s):Tq (R4 prog w) A (.compLoop (.SetComp d [⟨J,iter,g,0⟩] sc pos) 0 it p env) R s:=by
 refine Yu rfl I (λn s hI=>?_) n h;show R1 _ A ((Xq (.SetComp d [⟨J,iter,g,0⟩] sc pos) 0 it p env).onRaise _) _ _ s;refine Yv ?_;rw [Adf];refine RZ (US (RZ (Cb (B n s hI) λr L D=>?_)));match r,D with
 | none,D=>exact Sb D
 | some v,D =>
  refine RZ (Cb D λ_ V h₂=>RZ (Cb h₂ λ_ Y h₃=>RZ (Cb h₃ λok O H=>?_)));match ok,H with
  | false,H=>exact Sb ⟨rfl,H⟩
  | true,H=>exact RZ (RZ (Cb H λx s₅ h₅=>RZ (US (RZ (Cb h₅ λ_ s₆ h₆=>Sb (Sb ⟨rfl,h₆⟩))))))
theorem Adh {d D iter:R6}{g:List R6}{sc:Scope}{pos:Pos}{it p:Value}{env:Env}(J:Tq (R4 prog w) A (.compLoop (.SetComp d [⟨D,iter,g,0⟩] sc pos) 0 it p env) R s)(h:R1 (R4 prog w) A (VD it) (λH B=>Tq (R4 prog w) A (.compLoop (.SetComp d [⟨D,iter,g,0⟩] sc pos) 0 H p env) R B) (notedBy (R4 prog w) A env λx B=>R (.error x) B) s) :
  Tq (R4 prog w) A (.compStart (.SetComp d [⟨D,iter,g,0⟩] sc pos) 0 it p env) R s:=by
 refine YQ ?_;show R1 _ _ ((compStart (.SetComp d [⟨D,iter,g,0⟩] sc pos) 0 it p env).onRaise (λx=>do Yp x env;Um theWindowsPlace)) _ _ s;refine wpAny_notedAt ?_;unfold compStart;show R1 _ _ (ask >>= _) _ _ s;refine RZ (Vr (wpAny_ite ?_));split
 .first | exact RZ (Sb (Sb ⟨rfl,J⟩)) | exact Sb ⟨rfl,J⟩
 .first | exact RZ (Vp (RZ (US (RZ (TV h (λH B I=>Sb ⟨rfl,I⟩) λ_ _ x=>x))))) | exact Vp (RZ (US (RZ (TV h (λH B I=>Sb ⟨rfl,I⟩) λ_ _ x=>x))))
theorem Adi {a:Addr}{zs:List Str}{z:Str}{tk:Tok}{Q:Value->RY->Prop}(ty:s.TypeIs (.ref a) "set")(hS:Cu w s.heap a zs)(room:zs.length+1<3000)(q:∀ h' zs' d,S4 a s.heap h'->Cu w h' a zs'->(if z∈zs then zs'=zs else zs'.Perm (zs++[z]))->Q .none { s with heap:=h',toks:=d }):R1 (R4 prog w) A (call (.builtin "set.add") [.ref a,.str z tk]) Q E s:=by
 refine T1 F.slot_set_add ty F.entry_set_add ?_ (F.args_set_add_2 _ _);unfold Builtin.«set.add» Builtin.Frozenset.oneOther;simp only [List.isEmpty_nil,bind_assoc];unfold Z0 setAdd;refine RZ (Sb ?_);try dsimp only
 refine RZ (Sb ?_);try dsimp only
 refine RZ (UB (RZ ((Bp prog w).pyHash (k:=SM z) (FC _ _ _ _) ?_)));refine add_str (s:={ s with toks:=s.toks+1 }) hS room λh' zs' b g x p=>?_;show R1 _ _ (ret SW) _ _ _;exact Sb ⟨_,rfl,q h' zs' _ g x p⟩
end
section
variable {X:Cx}{N':List Str}{sc:Scope}{aj:List (Option Nat)}{cl:List (Str×Addr)}{C:Addr}{fp:List Addr}{pins:List (Addr×Obj)}{s₂:RY}{H₂:Hp}{σ:St}
theorem Adj {s:RY}{H:Hp}{D:Addr}{zs:List Str}{z:Str}{tk:Tok}{Q:Value->RY->Prop}{E:Value->RY->Prop}(I:Ad X pins σ H s)(J:H D=some (Bo X.w D zs))(aD:zs.length<2000)(q:∀ h' p,Ad X pins σ (upd H D (Bo X.w D (zs++[z]))) { s with heap:=h',toks:=p }->Q .none { s with heap:=h',toks:=p }):R1 (R4 X.prog X.w) X.A (call (.builtin "set.add") [.ref D,.str z tk]) Q E s:=by
 obtain ⟨⟨zs',x,m⟩,_⟩:=(show A4 X.prog X.w H s.heap D (Bo X.w D zs) from I.aa D _ J);obtain ⟨o,es,ep,t,L,O,r⟩:=Df (id x);have ty:s.TypeIs (.ref D) "set":=⟨o,L,O.1⟩;have le:zs'.length<=zs.length:=by obtain ⟨_,_,_,_,_,_,_,_,_,V,_⟩:=ES (id x);exact Ij V λz d=>(m z).mp d
 refine Adi ty x (by omega) λh' Y p sb x2 d=>?_;have m2:∀ y,y∈Y↔y∈zs++[z]:=λy=>by
  rw [SG,SA,<- m];by_cases B:z∈zs'
  .rw [if_pos B] at d;rw [d];exact ⟨.inl,λh=>h.elim id λe=>e▸B⟩
  .rw [if_neg B] at d;rw [d.mem_iff,SG,SA]
 refine q h' p (I.write (t':=p) (x:=D) (e:=D) (by rw [J];trivial) (.inl rfl) (λb u hb e=>(sb.2 b hb).trans e) ?_ (Kw x2 m2));obtain ⟨o2,_,_,_,g,_⟩:=Df x2;exact ⟨o2,g⟩
theorem Adk {D:Addr}{h₁:Heap}{tk:Nat}{m:Str->Option Value}(S:A1 sc X.env.scope N' X.N aj)(I:Ad X pins σ H₂ s₂)(J:∀ x c,cl.lookup x=some c->X.env.cells.lookup x=some c)(Y:∀ y∈sc.names,y.2=.free->∃ c,cl.lookup y.1=some c)(bA:∀ b∈fp,CA X pins H₂ b)(aY:∀ b∈fp,∃ o,s₂.heap.get? b=some o)(hD:D=s₂.heap.objs.size)(hC:C=s₂.heap.objs.size+1)(hk:∀ b o,(s₂.heap.push { cls:=.type "set",dict:=none,data:=.set #[] 0 (.fresh 0 0 (!BS X.w)) }).get? b=some o->h₁.get? b=some o)(bh:h₁.Ns C m) :
  Ad (AF X N' sc cl C fp pins s₂ H₂) [] (D7 aj σ) (upd H₂ D (Bo X.w D [])) { s₂ with heap:=h₁,toks:=tk }:=by
 subst hD;have V:s₂.heap.objs.size<=C:=by rw [hC];exact Tr _
 have ok:=D8 S I J Y V bA aY;have I3:Ad X pins σ (upd H₂ s₂.heap.objs.size (Bo X.w s₂.heap.objs.size [])) { s₂ with heap:=s₂.heap.push { cls:=.type "set",dict:=none,data:=.set #[] 0 (.fresh 0 0 (!BS X.w)) },toks:=tk }:=I.laid (t':=tk) (λb o q=>Sq _ q) (Sh _) (Kw (Oq (SO _ rfl)) λz=>WV);have I4:Ad X pins σ (upd H₂ s₂.heap.objs.size (Bo X.w s₂.heap.objs.size [])) { s₂ with heap:=h₁,toks:=tk }:=I3.kept (t':=tk) hk;have g:∀ b o,s₂.heap.get? b=some o->h₁.get? b=some o:=λb o e=>hk b o (Sq _ e);have gD:∀ b o,s₂.heap.get? b=some o->b≠s₂.heap.objs.size:=λb o e=>Sw (So e);have dZ:∀ x c,cl.lookup x=some c->∃ v o,s₂.heap.get? c=some o/\o.data=.cell v:=λx c e=>by
  obtain ⟨v,o,B,hd⟩:=Bi (I.cell x c (J x c e));exact ⟨v,o,B,hd⟩
 refine ⟨ok,rfl,I.bare,Un.laid g (Sh _) I.fresh,⟨m,bh,λi x v e1 e2 e3=>?_⟩,λx c e=>?_,?_,λx c e=>?_,λp hp=>?_,I4.aa,?_⟩
 .have H:(aj[i]?).map (λo=>o.bind λj=>(σ[j]?).join)=some (some v):=by
   have:=e2;unfold D7 at this;rwa [SK] at this
  cases q:aj[i]? with
  | none=>rw [q] at H;cases H
  | some oj =>
   rw [q,Vk] at H;cases oj with
   | none=>cases H
   | some j =>
    have L:(σ[j]?).join=some v:=by simpa using H
    have e5:σ[j]?=some (some v):=by
     cases z:σ[j]? with
     | none=>rw [z] at L;cases L
     | some w=>rw [z] at L;rw [<- L];rfl
    obtain ⟨x',n1,n2,n3,O⟩:=Ax (S.out i j q);have bz:N'[i]?=some x:=e1;rw [n1] at bz;cases bz;obtain ⟨m2,eW,hl⟩:=Am I.loc;have hv:FD X.env.scope x:=O.elim (λz=>.inr (.inl z)) λz=>.inr (.inr z);obtain ⟨u,r,l⟩:=Am (hl j x v n2 e5 hv);refine ⟨u,r,.inr ⟨HW n3,?_⟩⟩;rcases l with ⟨k,_⟩ | ⟨_,c,ec,z⟩
    .have k':X.env.scope.names.lookup x=some .local:=k;rcases O with z | z<;>rw [k'] at z<;>cases z
    .obtain ⟨c',d0⟩:=Y _ (UA n3) rfl;have:=J x c' d0;rw [ec] at this;cases this;obtain ⟨o,B,hd⟩:=Am z;exact ⟨c,d0,o,g c o B,hd⟩
 .obtain ⟨v,o,B,hd⟩:=Bi (dZ x c e);exact ⟨v,o,g c o B,hd⟩
 .show upd H₂ s₂.heap.objs.size (Bo X.w s₂.heap.objs.size []) C=none;rw [Ak (by rw [hC];exact Xs _)];exact I.aa.fresh V
 .obtain ⟨v,o,B,hd⟩:=Bi (dZ x c e);show upd H₂ s₂.heap.objs.size (Bo X.w s₂.heap.objs.size []) c=none;rw [Ak (gD c o B)];exact I.br x c (J x c e)
 .have bH:p∈X.pn++pins:=by simpa [AF] using hp
  obtain ⟨e,n,ne,nf,d⟩:=AJ (I.pin p bH);obtain ⟨_,O,_⟩:=AJ (I4.pin p bH);exact ⟨g _ _ e,O,Sw (SN (So e) V),λz=>(Si.mp (I.cC _ z)).elim ne nf,d⟩
 .show (aj.map _).length=N'.length;rw [R5];exact S.len
def Ou (w:R3)(aj:List (Option Nat))(wi:TI)(g:TG)(tt:TT)(te:TE):TE:=λσ H Q=>wi σ H λJ H1=>∀ D,H1 D=none->∃ W:Nat->Nat->St->Hp->Prop,(∃ m,W 0 m (D7 aj σ) (upd H1 D (Bo w D [])))/\∀ i m σ' H',W i m σ' H' ->
 (J.stop i H'/\Q (.ref D) H')\/(J.go i H'/\∃ N:St->Hp->Prop,(∀ σ2 H2,N σ2 H2->∃ m',m'<m/\W (i+1) m' σ2 H2)/\∀ x H2,J.bL i H' x H2->g x σ' H2 λσ3 H3=>tt σ3 H3 λb H4 =>
  if b=true then te σ3 H4 λv H5=>∃ zs z,v=.str z/\H5 D=some (Bo w D zs)/\zs.length<2000/\N σ3 (upd H5 D (Bo w D (zs++[z]))) else N σ3 H4)
theorem Adl {elt tg iter:R6}{O:List R6}{sc:Scope}{aj:List (Option Nat)}{N':List Str}{pos:Pos}{wi:TI}{g:TG}{tt:TT}{te:TE}{s:RY}{H:Hp}{use:Option (Value->Sem Unit)}{Qv:Value->RY->Prop}{Q:VK}(hc:X.calm=true)(S:A1 sc X.env.scope N' X.N aj)(hi:PI X tg iter wi)(hg:∀ cl C fp pins s₂ H₂,PG (AF X N' sc cl C fp pins s₂ H₂) tg g)(ht:∀ cl C fp pins s₂ H₂,DQ (AF X N' sc cl C fp pins s₂ H₂) O tt)(he:∀ cl C fp pins s₂ H₂,PE (AF X N' sc cl C fp pins s₂ H₂) elt te)(hs:∀ x,UJ iter X.env x=pure x)(I:Ad X pins σ H s)(h:Ou X.w aj wi g tt te σ H Q)(post:∀ D C B s' m,(∀ h',S4 C s'.heap h'->Ad X pins σ B { s' with heap:=h' })->Ad X pins σ B s'->s'.heap.Ns C m->(∀ x c,X.env.cells.lookup x=some c->c≠C)->X.env.locals≠C->B C=none ->
   (∀ σ' V h',Ad X pins σ' B V->S4 C V.heap h'->Ad X pins σ' B { V with heap:=h' })->Q (.ref D) B->Wd (R4 X.prog X.w) X.A X.xe use Qv (.ref D) C (.ok .next) s') :
  R1 (R4 X.prog X.w) X.A (WO (.SetComp elt [⟨tg,iter,O,0⟩] sc pos) sc X.env (Yw [⟨tg,iter,O,0⟩] pos) (newSet (.type "set")) false (Sf iter X.env) use) Qv X.xe s:=by
 obtain ⟨cl,gE,aI,aX⟩:=Kd (env:=X.env) (sc:=sc) λy hy hf=>I.ok.has y.1 (S.frees y hy hf);refine Yx rfl hs gE S.kind S.one (Al (hi pins s σ H _ I h) λxv s₁ h₁=>Al h₁ λgj s₂ h₂=>?_);obtain ⟨it,fp,tn,J,H₂,e,L,T,d2,f₂,rd⟩:=Gh h₂;subst e;refine Ade (Yy S.iS (by intro y hy;simp at hy) (λh₁ bh b8=>?_) S.kind);dsimp only at bh b8 ⊢;have aY:∀ b∈fp,∃ o,s₂.heap.get? b=some o:=λb hb=>let ⟨o,e,_⟩:=T.obj _ _ d2 b hb;⟨o,e⟩;have bT:(s₂.heap.push { cls:=.type "set",dict:=none,data:=.set #[] 0 (.fresh 0 0 (!BS X.w)) }).objs.size=s₂.heap.objs.size+1:=Tb ..;have hk:∀ b o,(s₂.heap.push { cls:=.type "set",dict:=none,data:=.set #[] 0 (.fresh 0 0 (!BS X.w)) }).get? b=some o->h₁.get? b=some o:=λb o e=>b8.extBut b o (Sw (So e)) (Sq _ e);have IB:=Adk (tk:=s₂.toks+([]:List (Str×Value)).length) S L aI aX f₂ aY rfl bT hk bh;generalize (s₂.heap.push { cls:=.type "set",dict:=none,data:=.set #[] 0 (.fresh 0 0 (!BS X.w)) }).objs.size=C at bT bh b8 IB ⊢;generalize hD:s₂.heap.objs.size=D at IB bT ⊢;have aC:s₂.heap.objs.size<=C:=by rw [hD,bT];exact Tr _
 obtain ⟨W,⟨m0,w0⟩,turn⟩:=Am (rd D (by rw [<- hD];exact L.fresh));have cJ:∀{B:Hp},(∀ b∈fp,B b=none)->∀ b∈fp,CA (AF X N' sc cl C fp pins s₂ H₂) [] B b:=λhn b hb=>by
  obtain ⟨z1,z2⟩:=(D8 S L aI aX aC f₂ aY).cW b hb;exact ⟨hn b hb,z1,(D8 S L aI aX aC f₂ aY).cq b hb,.inl hb,z2,λp hp=>(f₂ b hb).2.2.2.2.2 p (by simpa [AF] using hp)⟩
 have gF:∀ b∈fp,(upd H₂ D (Bo X.w D [])) b=none:=λb hb=>by
  obtain ⟨o,ho⟩:=aY b hb;rw [Ak (by rw [<- hD];exact Sw (So ho))];exact (f₂ b hb).1
 have bj:tn 0 h₁:=T.keep _ _ _ d2 λb hb o e=>hk b o (Sq _ e);have loop:Tq (R4 X.prog X.w) X.A (.compLoop (.SetComp elt [⟨tg,iter,O,0⟩] sc pos) 0 (.ref it) (.ref D) (Xr sc cl C X.env)) (Wd (R4 X.prog X.w) X.A X.xe use Qv (.ref D) C) { s₂ with heap:=h₁,toks:=s₂.toks+([]:List (Str×Value)).length }:=by
  refine Adg (λn s'=>∃ i σ' B,Ad (AF X N' sc cl C fp pins s₂ H₂) [] σ' B s'/\tn i s'.heap/\(∀ b∈fp,B b=none)/\W i n σ' B) ?_ m0 ⟨0,_,_,IB,bj,gF,w0⟩;rintro n s3 ⟨i,σ3,H3,I3,cG,cH,w3⟩;rcases turn i n σ3 H3 w3 with ⟨stop,qn⟩ | ⟨go,N,hN,step⟩
  .refine Al (T.done (AF X N' sc cl C fp pins s₂ H₂) rfl rfl rfl hc i [] s3 σ3 H3 _ I3 (cJ cH) cG stop) λr s4 ⟨hr,I4⟩=>?_;subst hr;have JX:=Ke L f₂ I4;obtain ⟨m,hn,_⟩:=Am I4.loc;have cn:∀ x c,X.env.cells.lookup x=some c->c≠C:=λx c e z=>by
    obtain ⟨v,q⟩:=L.cell x c e;exact absurd (SN q.lt (by rw [z];exact aC)) (TK _)
   have gone:∀ σ' V h',Ad X pins σ' H3 V->S4 C V.heap h'->Ad X pins σ' H3 { V with heap:=h' }:=λσ' V h' K3 gG =>
    K3.turned (t':=V.toks) (it:=C) (λb o hb e=>(gG.2 b hb).trans e) I4.free (T6 (SN L.lt aC)) (.inr (Sy L.sz aC)) cn λp hp z=>by
     exact absurd (SN (So (L.pin p hp).1) (by rw [z];exact aC)) (TK _)
   exact post D C H3 s4 m (λh' bO=>gone σ s4 h' JX bO) JX hn cn (Sw (SN L.lt aC)) I4.free gone qn
  .refine Al (T.item (AF X N' sc cl C fp pins s₂ H₂) rfl rfl rfl hc i [] s3 σ3 H3 _ I3 (cJ cH) cG go) λr s4 Y=>Cp Y λu hr h4=>?_;subst hr;refine Al h4 λ_ s5 Y=>Az Y λx H5 I5 r5 ⟨y5,bM,eT⟩=>?_;have eU:=I5.pinned (cJ eT) (T.obj _ _ bM);refine Al (hg cl C fp pins s₂ H₂ _ s5 σ3 H5 x u _ eU r5 (step x H5 y5)) λ_ s6 Y=>Gg Y λσ6 H6 I6 q6=>?_;refine Al (ht cl C fp pins s₂ H₂ _ s6 σ6 H6 _ I6 q6) λok s7 Y=>Cp Y λH7 I7 q7=>?_;have again:∀{H8:Hp}{s8:RY},Ad (AF X N' sc cl C fp pins s₂ H₂) ([]++EW fp s5.heap) σ6 H8 s8->N σ6 H8->∃ m,m<n/\∃ i σ' B,Ad (AF X N' sc cl C fp pins s₂ H₂) [] σ' B s8/\tn i s8.heap/\(∀ b∈fp,B b=none)/\W i m σ' B:=λ{H8 s8} I8 n8=>by
    obtain ⟨m',hm,w8⟩:=Am (hN σ6 H8 n8);refine ⟨m',hm,i+1,σ6,H8,I8.eR,T.keep _ _ _ bM λb hb o e=>(I8.pin (b,o) (S6 _ (S6 _ (Ep hb e)))).1,λb hb=>?_,w8⟩;obtain ⟨o,e,d⟩:=Am (T.obj _ _ bM b hb);exact (I8.pin (b,o) (S6 _ (S6 _ (Ep hb e)))).2.1
   cases ok with
   | false=>exact again I7 q7
   | true =>
    refine Al (he cl C fp pins s₂ H₂ _ s7 σ6 H7 _ I7 q7) λy s8 Y=>Az Y λv H8 I8 r8 q8=>?_;replace q8:=Bc q8;obtain ⟨zs,z,rfl,hy,aD,n8⟩:=q8
    obtain ⟨tk,rfl⟩:=r8;exact Adj (X:=AF X N' sc cl C fp pins s₂ H₂) I8 hy aD λh9 tk9 I9=>again I9 n8
 exact Adh loop (T.self _ 0 _ _ _ bj loop)
theorem Adm {d B iter:R6}{p:List R6}{sc:Scope}{aj:List (Option Nat)}{N':List Str}{pos:Pos}{L:TI}{g:TG}{O:TT}{V:TE}{w:R3}(hw:X.w=w)(hc:X.calm=true)(S:A1 sc X.env.scope N' X.N aj)(hi:PI X B iter L)(Y:∀ cl C fp pins s₂ H₂,PG (AF X N' sc cl C fp pins s₂ H₂) B g)(ht:∀ cl C fp pins s₂ H₂,DQ (AF X N' sc cl C fp pins s₂ H₂) p O)(he:∀ cl C fp pins s₂ H₂,PE (AF X N' sc cl C fp pins s₂ H₂) d V)(hs:∀ x,UJ iter X.env x=pure x:=by intro _;rfl):PE X (.SetComp d [⟨B,iter,p,0⟩] sc pos) (Ou w aj L g O V):=by subst hw;intro pins s σ H Q I h;rw [arm_eval_SetComp];refine Adl (use:=none) (Q:=Q) hc S hi Y ht he hs I h λD C H' s' m g1 J hn cn ln fr g2 q=>?_;exact ⟨m,hn,λh' bO=>⟨.ref D,H',g1 h' bO,rfl,q⟩⟩
end
theorem Dy:Slot "set_iterator" "__next__" "set_iterator.__next__":=.of (owner:="set_iterator") (n:="__next__") (by rw [Z1,Z2];kernel_rfl) (by decide +kernel) (by decide +kernel) (by decide +kernel) (by first | exact .inl (by decide +kernel) | exact .inr (by decide +kernel)) (by rw [Z3];kernel_rfl)
theorem Ik:entryFor table "set_iterator.__next__"=some Builtin.«set_iterator.__next__»:=entryFor_of_fast (by kernel_rfl)
theorem Il (a:Value):argsOk "set_iterator.__next__" ⟨[a],[]⟩:=by unfold argsOk;kernel_rfl
theorem Adn:entryFor table "set.__iter__"=some Builtin.«frozenset.__iter__»:=Z4 (id':="frozenset.__iter__") (by kernel_rfl) rfl (by decide +kernel) (by kernel_rfl)
theorem Kz {α:Type}:∀{l:List α}{i:Nat}(h:i<l.length),(l[i] :: l.eraseIdx i).Perm l
 | x :: l,0,_=>WR _
 | x :: l,i+1,h=>by
  have ih:=Kz (l:=l) (i:=i) (by simpa using h);show (l[i]'(by simpa using h) :: x :: l.eraseIdx i).Perm (x :: l);exact (Xy _ _ _).trans (Xz _ ih)
section
variable {prog:R7}{w:R3}{A:Sj}{E:Value->RY->Prop}{s:RY}
theorem Ado {g:Source}{n:Nat}{Q:Nat->RY->Prop}(hn:n≠0)(q:∀ i d,i<n->Q i { s with drawn:=d }):R1 (R4 prog w) A (choose g n) Q E s:=λΓ p B =>
 ⟨hn,q _ _ (Nat.mod_lt _ (Nat.pos_of_ne_zero hn))⟩
theorem Ov {α:Type}:∀(n:Nat)(xs:List α)(s:RY){Q:List α->RY->Prop},xs.length=n->(∀ ys d,ys.Perm xs->Q ys { s with drawn:=d })->R1 (R4 prog w) A (drawOrder n xs) Q E s
 | 0,xs,s,Q,e,q=>by
  have e:xs=[]:=VR.mp e;subst e;exact Sb (q [] s.drawn (WR _))
 | n+1,[],s,Q,e,q=>by simp at e
 | n+1,x :: xs,s,Q,e,q=>by
  show R1 _ A (choose .order (x :: xs).length >>= _) _ _ s;refine RZ (Ado (by simp) λi d g=>?_);rw [SH g];dsimp only;refine RZ (Ov n ((x :: xs).eraseIdx i) _ (by rw [Z5 g];omega) λys p hp=>?_);refine Sb (q _ p ?_);exact (Xz _ hp).trans (Kz g)
theorem Ow {α:Type}(next:Nat->Nat):∀(n k:Nat)(left:List α)(out:Array α),left.length=n->∃ ys:List α,ys.Perm left/\(YT next n k left out).toList=out.toList++ys
 | 0,k,left,out,e=>by
  have e:left=[]:=VR.mp e;subst e;exact ⟨[],WR _,by unfold YT;simp⟩
 | n+1,k,left,out,e=>by
  have d:next k % left.length<left.length:=Nat.mod_lt _ (by omega)
  obtain ⟨ys,g,p⟩:=Am (Ow next n (k+1) (left.eraseIdx (next k % left.length)) (out.push left[next k % left.length]) (by rw [Z5 d];omega));refine ⟨left[next k % left.length] :: ys,(Xz _ g).trans (Kz d),?_⟩;unfold YT;rw [SH d];dsimp only;rw [p,YN,To];rfl
theorem Adp {α:Type}(next:Nat->Nat)(xs:Array α):(Vt next xs).toList.Perm xs.toList:=by obtain ⟨ys,d,g⟩:=Am (Ow next xs.size 0 xs.toList #[] (by simp));unfold Vt;rw [g];simpa using d
structure Dp (h:Heap)(I a:Addr)(o:Obj)(first:Value)(i n ep:Nat):Prop where
 it:h.get? I=some { cls:=.type "set_iterator",data:=.fields #[first,.int i 0,.ref a,.int n 0,.int ep 0] }
 st:h.get? a=some o
theorem GP {a:Addr}{o:Obj}{es:Array (Int×Value)}{d:Nat}{t:Tx}{Q:Array (Int×Value)->RY->Prop}(g:s.heap.get? a=some o)(hd:o.data=.set es d t)(p:t.fits es.size=true)(h:Q es s):R1 (R4 prog w) A (WW a) Q E s:=wpAny_setEntries_of g hd p h
theorem Ox {I a:Addr}{o:Obj}{es:Array (Int×Value)}{d i f f':Nat}{t:Tx}{v:Value}{Q:Option Value->RY->Prop}(x:Dp s.heap I a o (.int f 0) i es.size d)(g:I≠a)(hd:o.data=.set es d t)(B:t.fits es.size=true)(nx:∀ {D:Sj} {H} {p:Option (Value×Nat)->RY->Prop},p (some (v,f')) s->R1 (R4 prog w) D (Vu a f i d) p H s)(q:∀ h',Dp h' I a o (.int f' 0) (i+1) es.size d->S4 I s.heap h'->Q (some v) { s with heap:=h' }):R1 (R4 prog w) A (Tg (.ref I)) Q E s:=by
 have ty:s.TypeIs (.ref I) "set_iterator":=⟨_,x.it,rfl⟩;unfold Tg;refine RZ (VX (UZ (name:=Sa "__next__") ty Dy (T1 Dy ty Ik ?_ (Il _))));show R1 _ _ (Vv (.ref I) >>= _) _ _ s;unfold Vv;refine RZ (RZ (V6 x.it (Sb ?_)));show R1 _ _ (WW a >>= _) _ _ s;refine RZ (GP x.st hd B ?_);rw [if_neg (by simp)];show R1 _ _ (Vu a (Wi (f:Int)) (Wi (i:Int)) (Wi (d:Int)) >>= _) _ _ s;rw [T8,T8,T8];refine RZ (nx ?_);dsimp only;refine RZ (Vw x.it rfl (by simp) ?_);have g1:=Vn (U0 (·.setIfInBounds 0 (Tc f'))) x.it rfl;refine RZ (Vw (s:={ s with heap:=s.heap.update I (U0 (·.setIfInBounds 0 (Tc f'))) }) g1 rfl (by simp) ?_);have g2:=Vn (U0 (·.setIfInBounds 1 (Tc ((i:Int)+1)))) g1 rfl;refine Sb ⟨v,rfl,Sb (q _ ⟨?_,?_⟩ ((VW ..).trans (VW ..)))⟩
 .rw [g2];rfl
 .rw [UQ _ _ g,UQ _ _ g];exact x.st
end
section
variable {prog:R7}{w:R3}{A:Sj}{E:Value->RY->Prop}{s:RY}
theorem Oy {d:Fin->RY->Prop}{Er:Value->RY->Prop}(g:A.handled=none)(q:∀ h' e,(∀ b o,s.heap.get? b=some o->h'.get? b=some o)->WT { s with heap:=h' } e "StopIteration"->Er e { s with heap:=h' }) :
  R1 (R4 prog w) A (newExc (.type "StopIteration") [] >>= λe=>raiseNew e) d Er s:=by
 refine RZ ?_;simp only [newExc,newTuple];refine RZ (UT ?_ (by size_fits));refine RZ (m:=XA _ _) (YR (a:=SW) (by first | rfl | (simp only [XA];rfl)) (UT ?_ (by size_fits)));simp only [raiseNew];refine RZ (wpAny_handled ?_);rw [g];refine RZ (Sb (wpAny_throw (q _ (.ref _) (λb o e=>Sq _ (Sq _ e)) ⟨_,SO _ rfl,rfl⟩)))
theorem Oz {I a:Addr}{o:Obj}{es:Array (Int×Value)}{d i f:Nat}{t:Tx}{Q:Option Value->RY->Prop}(p:A.handled=none)(x:Dp s.heap I a o (.int f 0) i es.size d)(hd:o.data=.set es d t)(B:t.fits es.size=true)(nx:∀ {D:Sj} {H} {g:Option (Value×Nat)->RY->Prop},g none s->R1 (R4 prog w) D (Vu a f i d) g H s)(q:∀ h',(∀ b o,b≠I->s.heap.get? b=some o->h'.get? b=some o)->Q none { s with heap:=h' }):R1 (R4 prog w) A (Tg (.ref I)) Q E s:=by have ty:s.TypeIs (.ref I) "set_iterator":=⟨_,x.it,rfl⟩;unfold Tg;refine RZ (VX (UZ (name:=Sa "__next__") ty Dy (T1 Dy ty Ik ?_ (Il _))));show R1 _ _ (Vv (.ref I) >>= _) _ _ s;unfold Vv;refine RZ (RZ (V6 x.it (Sb ?_)));show R1 _ _ (WW a >>= _) _ _ s;refine RZ (GP x.st hd B ?_);rw [if_neg (by simp)];show R1 _ _ (Vu a (Wi (f:Int)) (Wi (i:Int)) (Wi (d:Int)) >>= _) _ _ s;rw [T8,T8,T8];refine RZ (nx ?_);dsimp only;refine RZ (Vw x.it rfl (by simp) ?_);refine Oy (A:=A.in1) (s:={ s with heap:=s.heap.update I (U0 (·.setIfInBounds 2 SW)) }) (by simpa using p) λh' e k J=>?_;refine RZ (WX (T:="StopIteration") (b:=true) J XB ?_);exact Sb (q h' λb o hb e=>k b o (by rw [UQ _ _ (S3 hb)];exact e))
theorem Adq {I a T:Addr}{o g:Obj}{es:Array (Int×Value)}{d i B pl:Nat}{t:Tx}{ps:Array Value}{e0:Int×Value}{Q:Option Value->RY->Prop}(x:Dp s.heap I a o (.ref T) i es.size d)(D:I≠a)(hd:o.data=.set es d t)(p:t.fits es.size=true)(H:s.heap.get? T=some g)(dT:g.data=.seq ps B)(hp:ps[i]?=some (.int pl 0))(J:es[pl]?=some e0)(q:∀ h',Dp h' I a o (.ref T) (i+1) es.size d->S4 I s.heap h'->Q (some e0.2) { s with heap:=h' }):R1 (R4 prog w) A (Tg (.ref I)) Q E s:=by
 have ty:s.TypeIs (.ref I) "set_iterator":=⟨_,x.it,rfl⟩;unfold Tg;refine RZ (VX (UZ (name:=Sa "__next__") ty Dy (T1 Dy ty Ik ?_ (Il _))));show R1 _ _ (Vv (.ref I) >>= _) _ _ s;unfold Vv;refine RZ (RZ (V6 x.it (Sb ?_)));show R1 _ _ (WW a >>= _) _ _ s;refine RZ (GP x.st hd p ?_);rw [if_neg (by simp)];show R1 _ _ (XC (.ref T) >>= _) _ _ s;refine RZ (WY H dT ?_);dsimp only;rw [show (i:Int).toNat=i from T8 i,hp];dsimp only;unfold setNextDrawn;refine RZ (RZ (Vo x.st hd p ?_));dsimp only;rw [show (d:Int).toNat=d from T8 d,show (pl:Int).toNat=pl from T8 pl,if_neg (by simp),J];obtain ⟨L,v⟩:=e0;refine Sb ?_;refine RZ (Vw x.it rfl (by simp) ?_);have g2:=Vn (U0 (·.setIfInBounds 1 (Tc ((i:Int)+1)))) x.it rfl;refine Sb ⟨v,rfl,Sb (q _ ⟨?_,?_⟩ (VW ..))⟩
 .rw [g2];rfl
 .rw [UQ _ _ D];exact x.st
theorem Ads {I a T:Addr}{o d:Obj}{es:Array (Int×Value)}{g i p:Nat}{t:Tx}{ps:Array Value}{Q:Option Value->RY->Prop}(B:A.handled=none)(x:Dp s.heap I a o (.ref T) i es.size g)(hd:o.data=.set es g t)(D:t.fits es.size=true)(H:s.heap.get? T=some d)(dT:d.data=.seq ps p)(hp:ps[i]?=none)(q:∀ h',(∀ b o,b≠I->s.heap.get? b=some o->h'.get? b=some o)->Q none { s with heap:=h' }):R1 (R4 prog w) A (Tg (.ref I)) Q E s:=by have ty:s.TypeIs (.ref I) "set_iterator":=⟨_,x.it,rfl⟩;unfold Tg;refine RZ (VX (UZ (name:=Sa "__next__") ty Dy (T1 Dy ty Ik ?_ (Il _))));show R1 _ _ (Vv (.ref I) >>= _) _ _ s;unfold Vv;refine RZ (RZ (V6 x.it (Sb ?_)));show R1 _ _ (WW a >>= _) _ _ s;refine RZ (GP x.st hd D ?_);rw [if_neg (by simp)];show R1 _ _ (XC (.ref T) >>= _) _ _ s;refine RZ (WY H dT ?_);dsimp only;rw [show (i:Int).toNat=i from T8 i,hp];dsimp only;refine RZ (Vw x.it rfl (by simp) ?_);have g1:=Vn (U0 (·.setIfInBounds 0 (Tc 0))) x.it rfl;refine RZ (Vw (s:={ s with heap:=s.heap.update I (U0 (·.setIfInBounds 0 (Tc 0))) }) g1 rfl (by simp) ?_);refine Oy (A:=A.in1) (s:={ s with heap:=(s.heap.update I (U0 (·.setIfInBounds 0 (Tc 0)))).update I (U0 (·.setIfInBounds 2 SW)) }) (by simpa using B) λh' e k J=>?_;refine RZ (WX (T:="StopIteration") (b:=true) J XB ?_);exact Sb (q h' λb o hb e=>k b o (by rw [UQ _ _ (S3 hb),UQ _ _ (S3 hb)];exact e))
theorem OA {a:Addr}{o:Obj}{es:Array (Int×Value)}{d f i:Nat}{t:Tx}{Q:Option (Value×Nat)->RY->Prop}(g:s.heap.get? a=some o)(hd:o.data=.set es d t)(p:t.fits es.size=true)(hb:BS w=true)(q:Q (((Vt (w.params.setOrder a d) es)[i]?).map λe=>(e.2,f)) s):R1 (R4 prog w) A (Vu a f i d) Q E s:=by unfold Vu WU;refine RZ (Vo g hd p (RZ (RZ (Vr (Sb ?_)))));dsimp only;rw [show (R4 prog w).w.params.followText "set-order"=true from hb,if_pos rfl,if_neg (by simp)];unfold setWalk WU;refine RZ (RZ (Vo g hd p (RZ (RZ (Vr (Sb ?_))))));dsimp only;rw [show (R4 prog w).w.params.followText "set-order"=true from hb,if_pos rfl];refine RZ (Vr (Sb (Sb q)))
theorem OB {a:Addr}{o:Obj}{es:Array (Int×Value)}{d f i:Nat}{t:Tx}{Q:Option (Value×Nat)->RY->Prop}(g:s.heap.get? a=some o)(hd:o.data=.set es d t)(p:t.fits es.size=true)(hb:BS w=false)(led:t.led=true)(H:es.size<=1)(q:Q (match es[YU t.place f]?,t.place[YU t.place f]? with | some (_,x),some j=>some (x,j+1) | _,_=>none) s):R1 (R4 prog w) A (Vu a f i d) Q E s:=by
 unfold Vu WU;refine RZ (Vo g hd p (RZ (RZ (Vr (Sb ?_)))));dsimp only;rw [show (R4 prog w).w.params.followText "set-order"=false from hb,if_neg (by decide)];have B:(!t.plain && decide (es.size > 1))=false:=by rw [decide_eq_false (by omega),WH]
 show R1 _ _ (if (!t.plain && decide (es.size > 1))=true then _ else _) _ _ _;rw [B,if_neg (by decide)];have D:(!t.led && !es.isEmpty)=false:=by rw [led];rfl
 show R1 _ _ ((if (!t.led && !es.isEmpty)=true then unsupported "set:maker-not-led" else pure ()) >>= _) _ _ _;rw [D,if_neg (by decide)];exact RZ (Sb (Sb q))
end
theorem OC:Slot "set_iterator" "__iter__" "set_iterator.__iter__":=.of (owner:="set_iterator") (n:="__iter__") (by rw [Z1,Z2];kernel_rfl) (by decide +kernel) (by decide +kernel) (by decide +kernel) (by first | exact .inl (by decide +kernel) | exact .inr (by decide +kernel)) (by rw [Z3];kernel_rfl)
theorem Adt:entryFor table "set_iterator.__iter__"=some Builtin.«dict_keyiterator.__iter__»:=Z4 (id':="dict_keyiterator.__iter__") (by kernel_rfl) rfl (by decide +kernel) (by kernel_rfl)
theorem Adu (a:Value):argsOk "set_iterator.__iter__" ⟨[a],[]⟩:=by unfold argsOk;kernel_rfl
theorem KA {ts:List Str}{i:Nat}{z:Str}(h:ts[i]?=some z):ts.getD i Sz=z:=by rw [Tf,h];rfl
section
variable {prog:R7}{w:R3}{A:Sj}{E:Value->RY->Prop}{s:RY}
theorem KC {I:Addr}{Q:Value->RY->Prop}(ty:s.TypeIs (.ref I) "set_iterator")(h:Q (.ref I) s):R1 (R4 prog w) A (VD (.ref I)) Q E s:=by refine Z6 ty OC (T1 OC ty Adt ?_ (Adu _));show R1 _ _ (ret (.ref I)) _ _ s;exact Sb ⟨_,rfl,"set_iterator",_,ty,Dy.lookup,h⟩
def OD (prog:R7)(w:R3)(A:Sj)(zs:List Str)(I a n0:Addr)(s:RY):Prop:=∃(fp:List Addr)(ts:List Str)(St:Nat->Heap->Prop),ts.Perm zs/\Walks prog w A I fp [I] zs.length (λi v=>∃ tk,v=S2 (ts.getD i Sz) tk) St/\St 0 s.heap/\(∀ b∈fp,b<s.heap.objs.size/\(b=a\/n0<=b))/\I∈fp
theorem KD {h h':Heap}{I a:Addr}{o:Obj}{first:Value}{i n d:Nat}(x:Dp h I a o first i n d)(k:∀ b∈[I,a],∀ o,h.get? b=some o->h'.get? b=some o):Dp h' I a o first i n d:=⟨k I (by simp) _ x.it,k a (by simp) _ x.st⟩
theorem Adv {a:Addr}{zs:List Str}{Q:Value->RY->Prop}(hh:A.handled=none)(x:Cu w s.heap a zs)(q:∀ h' d I,(∀ b o,s.heap.get? b=some o->h'.get? b=some o)->s.heap.objs.size<=I->I<h'.objs.size->(∀ tk,WT ⟨h',s.gens,d,tk,s.os⟩ (.ref I) "set_iterator")->OD prog w A zs I a s.heap.objs.size { s with heap:=h',drawn:=d }->Q (.ref I) { s with heap:=h',drawn:=d }):R1 (R4 prog w) A (VD (.ref a)) Q E s:=by
 obtain ⟨o,g,O,t,V,hex,hd,rfl,d6,nd,aD,D,led,pl⟩:=ES (id x);have ty:s.TypeIs (.ref a) "set":=⟨o,V,hex.1⟩;have lt:a<s.heap.objs.size:=So V;have sz:(g.toList.map B1).length=g.size:=by rw [R5,TC]
 refine Z6 ty Z7 (T1 Z7 ty Adn ?_ (F.args_set_iter_1 _));unfold Builtin.«frozenset.__iter__» Builtin.Frozenset.slot0 Z0;show R1 _ _ (Z8 a >>= _) _ _ s;unfold Z8;refine RZ (RZ (GP V hd D (Sb ?_)));show R1 _ _ (setDrawn a >>= _) _ _ s;unfold setDrawn WU;refine RZ (RZ (Vo V hd D (RZ (RZ (Vr (Sb (Sb ?_)))))));show R1 _ _ (if (!BS w && (!t.plain && decide (g.size > 1)))=true then _ else _) _ _ _;by_cases dr:(!BS w && (!t.plain && decide (g.size > 1)))=true
 .rw [if_pos dr];refine RZ (Ov g.size (Uk g.size) s (by simp) λys d hp=>?_);refine RZ (YI (s:={ s with drawn:=d }) ?_ (by rw [R5,hp.length_eq,WM,R8];omega));have hoT:(s.heap.push (SQ "tuple" (ys.map λ(i:Nat)=>Tc i).toArray 0)).get? a=some o:=Sq _ V;refine RZ ?_;unfold setEpoch;refine RZ (Vo (s:={ s with heap:=s.heap.push (SQ "tuple" (ys.map λ(i:Nat)=>Tc i).toArray 0),drawn:=d }) hoT hd D (Sb ?_));refine RZ (UT (Sb ⟨_,rfl,"set_iterator",_,⟨_,SO _ rfl,rfl⟩,Dy.lookup,?_⟩));dsimp only;have zT:(s.heap.push (SQ "tuple" (ys.map λ(i:Nat)=>Tc i).toArray 0)).objs.size=s.heap.objs.size+1:=Tb ..;rw [zT];have gT:∀ L:Obj,((s.heap.push (SQ "tuple" (ys.map λ(i:Nat)=>Tc i).toArray 0)).push L).get? s.heap.objs.size=some (SQ "tuple" (ys.map λ(i:Nat)=>Tc i).toArray 0):=λL=>Sq _ (SO _ rfl);have gI:∀ L:Obj,L.isFreed=false->((s.heap.push (SQ "tuple" (ys.map λ(i:Nat)=>Tc i).toArray 0)).push L).get? (s.heap.objs.size+1)=some L:=λL gB=>by rw [<- zT];exact SO _ gB
  have mem:∀ p∈ys,p<g.size:=λp m=>Uv.mp (hp.mem_iff.mp m);have ly:ys.length=g.size:=by rw [hp.length_eq,WM]
  refine q _ d (s.heap.objs.size+1) (λb o e=>Sq _ (Sq _ e)) (Tr _) (by rw [Tb,zT];exact Uq _) (λtk=>⟨_,gI _ rfl,rfl⟩) ?_;refine ⟨[s.heap.objs.size+1,a,s.heap.objs.size],ys.map λp=>((g.toList.map B1).getD p Sz),λi h=>Dp h (s.heap.objs.size+1) a o (.ref s.heap.objs.size) i g.size O/\h.get? s.heap.objs.size=some (SQ "tuple" (ys.map λ(i:Nat)=>Tc i).toArray 0),?_,?_,⟨⟨gI _ rfl,Sq _ (Sq _ V)⟩,gT _⟩,?_,by simp⟩
  .refine (hp.map _).trans (YL ?_);refine Xv (by simp) λi h1 h2=>?_;have hi:i<g.size:=by simpa using h2
   simp [Tf,Ur hi]
  .refine ⟨λb hb=>by simp at hb;simp [hb],λi h h' st k=>⟨KD st.1 λb hb=>k b (by simp at hb ⊢;rcases hb with e | e<;>simp [e]),k _ (by simp) _ st.2⟩,λi H Y E1 hi st B=>?_,λH Y E1 st B=>?_,λi H Y E1 st B=>KC ⟨_,st.1.it,rfl⟩ B⟩
   .rw [sz] at hi;have il:i<ys.length:=by omega
    have pm:ys[i]<g.size:=mem _ (UX il);refine Adq (pl:=ys[i]) (e0:=g[ys[i]]) st.1 (T6 (Ut lt)) hd D st.2 rfl (by simp [il,Tc]) (Ur pm) λh' aH sb=>?_;refine B _ h' H.toks ?_ ⟨aH,(sb.2 _ (Sw (Uq _))).trans st.2⟩ λb o hb e=>(sb.2 b (λz=>hb (by simp [z]))).trans e;obtain ⟨tk,et⟩:=Kv (d6 _ (YF pm));refine ⟨tk,?_⟩;rw [KA (z:=B1 g[ys[i]]) (by rw [SK,SH il];simp [Tf,pm])];rw [et];rfl
   .have J:(ys.map λ(i:Nat)=>Tc i).toArray[(g.toList.map B1).length]?=none:=by simp [ly]
    exact Ads hh st.1 hd D st.2 rfl J λh' k=>B h' H.toks λb o hb e=>k b o (λz=>hb (by simp [z])) e
  .intro b hb;rw [Tb,zT];simp only [Si,Tz,or_false] at hb;rcases hb with e | e | e
   .rw [e];exact ⟨Uq _,.inr (Tr _)⟩
   .rw [e];exact ⟨Ut (Ut lt),.inl rfl⟩
   .rw [e];exact ⟨Ut (Uq _),.inr (Sh _)⟩
 .rw [if_neg dr];refine RZ (Sb ?_);refine RZ ?_;unfold setEpoch;refine RZ (Vo V hd D (Sb ?_));refine RZ (UT (Sb ⟨_,rfl,"set_iterator",_,⟨_,SO _ rfl,rfl⟩,Dy.lookup,?_⟩));dsimp only;have gI:∀ L:Obj,L.isFreed=false->(s.heap.push L).get? s.heap.objs.size=some L:=λL gB=>SO _ gB;have key:OD prog w A (g.toList.map B1) s.heap.objs.size a s.heap.objs.size { s with heap:=s.heap.push { cls:=.type "set_iterator",data:=.fields #[.int 0 0,.int 0 0,.ref a,.int g.size 0,.int O 0] } }:=by
   cases hb:BS w with
   | true =>
    have pk:=Adp (w.params.setOrder a O) g;have pz:(Vt (w.params.setOrder a O) g).size=g.size:=by have:=pk.length_eq;simpa using this
    refine ⟨[s.heap.objs.size,a],(Vt (w.params.setOrder a O) g).toList.map B1,λi h=>Dp h s.heap.objs.size a o (.int (0:Nat) 0) i g.size O,pk.map _,?_,⟨gI _ rfl,Sq _ V⟩,?_,by simp⟩
    .refine ⟨λb hb=>by simp at hb;simp [hb],λi h h' st k=>KD st k,λi H Y E1 hi st B=>?_,λH Y E1 st B=>?_,λi H Y E1 st B=>KC ⟨_,st.it,rfl⟩ B⟩
     .rw [sz] at hi;have il:i<(Vt (w.params.setOrder a O) g).size:=by omega
      refine Ox (f:=0) (f':=0) (v:=(Vt (w.params.setOrder a O) g)[i].2) st (T6 lt) hd D (λ{A' E' Q'} hq=>OA st.st hd D hb (by rw [Ur il];exact hq)) λh' aH sb=>?_;refine B _ h' H.toks ?_ aH λb o hb e=>(sb.2 b (λz=>hb (by simp [z]))).trans e;obtain ⟨tk,et⟩:=Kv (d6 _ (pk.mem_iff.mp (YF il)));refine ⟨tk,?_⟩;rw [KA (z:=B1 (Vt (w.params.setOrder a O) g)[i]) (by simp [il])];rw [et];rfl
     .exact Oz (f:=0) hh st hd D (λ{A' E' Q'} hq=>OA st.st hd D hb (by rw [Zz (by rw [sz];omega)];exact hq)) λh' k=>B h' H.toks λb o hb e=>k b o (λz=>hb (by simp [z])) e
    .intro b hb;rw [Tb];simp only [Si,Tz,or_false] at hb;rcases hb with e | e
     .rw [e];exact ⟨Uq _,.inr (Sh _)⟩
     .rw [e];exact ⟨Ut lt,.inl rfl⟩
   | false =>
    have one:g.size<=1:=by
     by_cases z:g.size<=1
     .exact z
     .exfalso
      have pf:t.plain=false:=pl (λe=>by have:=congrArg Xf e;rw [sz,YB] at this;omega);rw [hb,pf,decide_eq_true (by omega)] at dr;exact dr rfl
    have om:t.led=true:=by rw [led,hb];rfl
    have pz:t.place.size=g.size:=by have:=D;simp only [SetTable.fits,Ug,beq_iff_eq] at this;exact this.1
    refine ⟨[s.heap.objs.size,a],g.toList.map B1,λi h=>Dp h s.heap.objs.size a o (.int ((if i=0 then 0 else t.place.getD 0 0+1:Nat):Nat) 0) i g.size O,WR _,?_,⟨gI _ rfl,Sq _ V⟩,?_,by simp⟩
    .refine ⟨λb hb=>by simp at hb;simp [hb],λi h h' st k=>KD st k,λi H Y E1 hi st B=>?_,λH Y E1 st B=>?_,λi H Y E1 st B=>KC ⟨_,st.it,rfl⟩ B⟩
     .rw [sz] at hi;have i0:i=0:=by omega
      subst i0;have e1:g.size=1:=by omega
      obtain ⟨J,ee⟩:∃ J,g=#[J]:=by
       match g,e1 with
       | ⟨[J]⟩,_=>exact ⟨J,rfl⟩
      obtain ⟨j,ej⟩:∃ j,t.place=#[j]:=by
       rw [e1] at pz;generalize t.place=pp at pz;match pp,pz with
       | ⟨[j]⟩,_=>exact ⟨j,rfl⟩
      refine Ox (f:=0) (f':=j+1) (v:=J.2) st (T6 lt) hd D (λ{A' E' Q'} hq=>OB st.st hd D hb om one (by rw [ee,ej];exact hq)) λh' aH sb=>?_;refine B _ h' H.toks ?_ (by rw [ej];exact aH) λb o hb e=>(sb.2 b (λz=>hb (by simp [z]))).trans e;obtain ⟨tk,et⟩:=Kv (d6 J (by rw [ee];simp));refine ⟨tk,?_⟩;rw [ee];rw [et];rfl
     .rw [sz] at st;have st:Dp H.heap s.heap.objs.size a o (.int ((if g.size=0 then 0 else t.place.getD 0 0+1:Nat):Nat) 0) g.size g.size O:=st;refine Oz (f:=(if g.size=0 then 0 else t.place.getD 0 0+1)) hh st hd D (λ{A' E' Q'} hq=>OB st.st hd D hb om one ?_) λh' k=>B h' H.toks λb o hb e=>k b o (λz=>hb (by simp [z])) e;by_cases z:g.size=0
      .have ee:g=#[]:=Z9 z;have ej:t.place=#[]:=Z9 (by omega);rw [ee,ej];exact hq
      .have e1:g.size=1:=by omega
       obtain ⟨J,ee⟩:∃ J,g=#[J]:=by
        match g,e1 with
        | ⟨[J]⟩,_=>exact ⟨J,rfl⟩
       obtain ⟨j,ej⟩:∃ j,t.place=#[j]:=by
        rw [e1] at pz;generalize t.place=pp at pz;match pp,pz with
        | ⟨[j]⟩,_=>exact ⟨j,rfl⟩
       rw [if_neg z,ee,ej];have eb:YU #[j] (#[j].getD 0 0+1)=1:=by show YV #[j] (j+1) 1 0 1=1;unfold YV;simp [YV]
       rw [eb];exact hq
    .intro b hb;rw [Tb];simp only [Si,Tz,or_false] at hb;rcases hb with e | e
     .rw [e];exact ⟨Uq _,.inr (Sh _)⟩
     .rw [e];exact ⟨Ut lt,.inl rfl⟩
  exact q _ s.drawn s.heap.objs.size (λb o e=>Sq _ e) (Sh _) (by rw [Tb];exact Uq _) (λtk=>⟨_,gI _ rfl,rfl⟩) key
end
section
variable {prog:R7}{w:R3}{A:Sj}{E:Value->RY->Prop}{s:RY}
theorem Adw {a:Addr}{Q:Bool->RY->Prop}(ty:s.TypeIs (.ref a) "set")(q:Q false s):R1 (R4 prog w) A (rZ (.ref a)) Q E s:=by
 unfold rZ;refine RZ (ZF ty F.slot_set_len.lookup ?_);have d:splitId "set.__len__"=some ("set","__len__"):=by kernel_rfl
 dsimp only;rw [d];dsimp only;refine RZ (WX ty sub_set_self ?_);simp only [Bool.not_true,VS,if_false];rw [if_pos (by decide +kernel)];exact RZ (wpAny_typeOf ty (Sb q))
theorem Adx {a:Addr}{zs:List Str}{Q:List Value->RY->Prop}(hh:A.handled=none)(x:Cu w s.heap a zs)(q:∀ h' d tk vs ts,(∀ b o,s.heap.get? b=some o->h'.get? b=some o)->s.heap.objs.size<h'.objs.size->UU vs ts->ts.Perm zs->Q vs { s with heap:=h',drawn:=d,toks:=tk }):R1 (R4 prog w) A (collect (.ref a)) Q E s:=by
 obtain ⟨o,es,ep,t,D,hex,_,_,_,_,aD,_⟩:=ES (id x);have lt:a<s.heap.objs.size:=So D;unfold collect;refine RZ (ZY (VQ F.entry_proto_collect ?_));rw [WS F.plain_proto_collect _];show R1 _ A.in1 (newList [] >>= λl=>again (.builtin "list.__iadd__" ⟨[l,.ref a],[]⟩)) _ _ s;refine RZ (UT (Sb ⟨Xx se _,VQ F.entry_list_iadd ?_⟩));rw [WS se _];show R1 _ A.in1 (sf (.ref s.heap.objs.size) (.ref a) (.ref s.heap.objs.size)) _ _ _;have B:∀ b o,s.heap.get? b=some o->(s.heap.push { cls:=.type "list",data:=.seq ([]:List Value).toArray }).get? b=some o:=λb o e=>Sq _ e;have atS:(s.heap.push { cls:=.type "list",data:=.seq ([]:List Value).toArray }).get? s.heap.objs.size=some { cls:=.type "list",data:=.seq ([]:List Value).toArray }:=SO _ rfl;have H:(s.heap.push { cls:=.type "list",data:=.seq ([]:List Value).toArray }).objs.size=s.heap.objs.size+1:=Tb ..;generalize s.heap.push { cls:=.type "list",data:=.seq ([]:List Value).toArray }=J at B atS H ⊢;have x1:Cu w J a zs:=x.at λo e=>B a o e;have L:WT { s with heap:=J } (.ref a) "set":=⟨o,B _ _ D,hex.1⟩;unfold sf;refine RZ (wpAny_typeOf L ?_);have h1:sh (.ref s.heap.objs.size) (.ref a)=false:=by simp [sh,T6 lt]
 have h2:(UG "set" == UG "list")=false:=by decide
 have h3:(UG "set" == UG "tuple")=false:=by decide
 simp only [h1,h2,h3,Bool.or_false,VS,if_false];refine RZ (Adv (A:=A.in1) (s:={ s with heap:=J }) (by simpa using hh) x1 λh' d I k O ltI tyI gv=>?_);dsimp only at k O;obtain ⟨fp,ts,St,pt,W,st,bA,hI⟩:=Em gv;have V:WT { s with heap:=h',drawn:=d } (.ref a) "set":=⟨o,k _ _ (B _ _ D),hex.1⟩;refine RZ (UB (Adw (s:={ s with heap:=h',drawn:=d }) V ?_));rw [if_pos (by decide +kernel)];refine RZ (Vp ?_);have gS:h'.get? s.heap.objs.size=some { cls:=.type "list",data:=.seq ([]:List Value).toArray }:=k _ _ atS;have nS:s.heap.objs.size ∉ fp:=λm=>by
  rcases (bA _ m).2 with e | e
  .exact absurd e (T6 lt)
  .dsimp only at e;rw [H] at e;exact absurd e (Nat.not_succ_le_self _)
 refine RZ ?_;show R1 _ A.in1 (updateSeq s.heap.objs.size (·.push .none) >>= λ_=>updateSeq s.heap.objs.size (·.pop)) _ _ _;refine RZ (si (s:={ s with heap:=h',drawn:=d }) gS rfl ?_);have g2:=Vn (Ti (·.push SW)) gS rfl;refine si (s:={ s with heap:=h'.update s.heap.objs.size (Ti (·.push SW)),drawn:=d }) g2 rfl ?_;have g3:=Vn (Ti (·.pop)) g2 rfl;have eZ:∀ b o,b≠s.heap.objs.size->h'.get? b=some o->((h'.update s.heap.objs.size (Ti (·.push SW))).update s.heap.objs.size (Ti (·.pop))).get? b=some o:=λb o hb e =>
  (UQ _ _ (S3 hb)).trans ((UQ _ _ (S3 hb)).trans e)
 refine Sb ⟨Xx F.plain_extend_loop _,codeAny_extend_loopS (A:=A) W.toS (by rw [R8];omega) _ nS _ zs.length 0 _ _ _ rfl (S7 _) (W.frame 0 h' _ st λb hb o e=>eZ b o (λz=>nS (z▸hb)) e) g3 (ItemsOf.nil _) λs' oo c' m oq ot=>?_⟩;show R1 _ A (load s.heap.objs.size >>= _) _ _ s';refine RZ (V6 oq (Sb ?_));obtain ⟨hp,gp,dp,tp,op⟩:=s';have eg:gp=s.gens:=m.gens;have ed:dp=d:=m.drawn;have eo:op=s.os:=m.os;subst eg ed eo;refine q hp _ tp oo.toList ts (λb o e=>?_) (So oq) ?_ pt
 .have bl:b<s.heap.objs.size:=So e;refine m.heap b o (λz=>?_) (eZ b o (Sw bl) (k _ _ (B _ _ e)));rcases Si.mp z with z | z
  .exact Sw bl z
  .rw [SA.mp z] at bl;rw [H] at O;exact absurd (SN bl (Nat.le_of_succ_le O)) (TK _)
 .have hl:oo.toList.length=ts.length:=by rw [TC,ot.1,pt.length_eq]
  have Y:∀(vs:List Value)(p:List Str),vs.length=p.length->(∀ i v,vs[i]?=some v->∃ tk,v=S2 (p.getD i Sz) tk)->UU vs p:=λvs=>by
   induction vs with
   | nil=>intro p h _;cases p with | nil=>exact .nil | cons _ _=>simp at h
   | cons v vs ih =>
    intro p h g;cases p with
    | nil=>simp at h
    | cons u p =>
     obtain ⟨tk,e⟩:=g 0 v rfl;have e:v=S2 u tk:=e;subst e;exact .cons u tk (ih p (by simpa using h) λi v hv=>g (i+1) v (by simpa using hv))
  exact Y _ _ hl λi v hv=>ot.2 i v (by simpa using hv)
end
section
variable {X:Cx}
theorem Ad.aaN {pins:List (Addr×Obj)}{σ:St}{H:Hp}{s:RY}(I:Ad X pins σ H s)(d:Drawn):Ad X pins σ H { s with drawn:=d } :=
 I.step (g':=s.gens) (t':=s.toks) (d':=d) (h':=s.heap) (ch:=[]) (λ_ z=>nomatch z) (λ_ _ _ _ _ e _=>e) (λ_ o _ _ _ e _=>⟨o.slots,e⟩) (λ_ _ _ _ n=>n) (λ_ o _ e=>⟨o,e⟩) (λ_ _ e=>e) (λ_ _ _ e=>e) (λ_ ps e=>⟨#[],by rw [e];simp⟩) (λ_ h=>h) I.aa I.bare
theorem KG {vs:List Value}{ts:List Str}(r:UU vs ts){i:Nat}(hi:i<ts.length):∃ tk,vs.getD i SW=S2 ts[i] tk:=by obtain ⟨u,e,tk,rfl⟩:=(Ea r).get (i:=i) (x:=.str ts[i]) (by rw [SK,SH hi];rfl);exact ⟨tk,by rw [Tf,e];rfl⟩
theorem Ady {prog:R7}{w:R3}{A:Sj}{vs:List Value}{ts:List Str}{s:RY}(r:UU vs ts)(p:ts.Nodup)(two:2<=vs.length):GK prog w A (λi=>(ts.getD i Sz).cps.toList) vs s:=by
 have L:ts.length=vs.length:=by have:=(Ea r).length;rwa [R5] at this
 have B:keyKind' vs.toArray=pure oneType':=by
  match vs,two,r with
  | v1 :: v2 :: rest,_,r=>exact keyKind_strs r
 unfold GK;rw [B];refine Sb ⟨rfl,⟨λi j D H ne e=>?_,λi j C D H hq=>?_⟩⟩
 .have d:i<ts.length:=by omega
  have g:j<ts.length:=by omega
  rw [Tf,Tf,SH d,SH g] at e;exact ne ((Wx p).mp (Oi e))
 .have d:i<ts.length:=by omega
  have g:j<ts.length:=by omega
  obtain ⟨O,I⟩:=KG r d;obtain ⟨V,J⟩:=KG r g;show R1 _ A (keyLt' oneType' (vs.getD i SW) (vs.getD j SW)) C _ _;rw [I,J];rw [Tf,Tf,SH d,SH g] at hq;exact PySem.W.kas_lt_str hq
theorem OE {w:R3}(hw:X.w=w)(hc:X.calm=true):Bq X (.builtin "sorted") (λxs H Q=>∃(p:Addr)(zs:List Str),xs=[.ref p]/\H p=some (Bo w p zs)/\zs.length<64/\∀(l:Addr)(ts:List Str),H l=none->ts.Nodup->(∀ z,z∈ts↔z∈zs)->ts.Pairwise BQ->Q (.ref l) (upd H l (.lst (ts.map V.str)))):=by
 subst hw;intro pins s σ H xs us Q I r h;replace h:=Bc h;obtain ⟨p,zs,rfl,hp,aD,q⟩:=h
 obtain ⟨u,rfl,rx⟩:=Am (CL r);cases rx;obtain ⟨⟨zs',x,m⟩,_⟩:=(show A4 X.prog X.w H s.heap p (Bo X.w p zs) from I.aa p _ hp);have D:zs'.Nodup:=by obtain ⟨_,_,_,_,_,_,_,_,_,D,_⟩:=ES (id x);exact D
 have le:zs'.length<=zs.length:=Ij D λz hz=>(m z).mp hz;refine ZO kind_sorted plain_sorted entry_sorted (args_sorted1 _) ?_;unfold Builtin.«sorted»;refine RZ (m:=checkCount "sorted" 1 1 _) (Sb (RZ (Adx (by simpa using I.ok.hd hc) x λB d O vs ts k hsz r pt=>?_)));have el:ts.length=vs.length:=by have:=(Ea r).length;rwa [R5] at this
 have lz:=pt.length_eq;refine RZ (YJ ?_ (by rw [R8];omega));have Y:(B.push (SQ "list" vs.toArray 0)).get? B.objs.size=some (SQ "list" vs.toArray 0):=SO _ rfl;refine RZ (UB (T1 ZP ⟨_,Y,rfl⟩ ZQ (Oh (key:=λi=>(ts.getD i Sz).cps.toList) Y (by omega) (λtwo h' J=>Ady r (pt.nodup_iff.mpr D) two) λg L up=>⟨_,rfl,?_⟩) (ZR _)));refine Sb ⟨_,rfl,?_⟩;have I1:Ad X pins σ H { s with heap:=B,drawn:=d,toks:=O }:=(I.kept (t':=O) k).aaN d;obtain ⟨c,ho⟩:=sortedHeap_at (out:=Dm g vs) Y;have fr:H B.objs.size=none:=I1.fresh;have sz:g.size=ts.length:=by rw [L.size,el]
 have j8:∀ i∈g.toList,i<ts.length:=λi hm=>by have:=Uv.mp (L.pm.mem_iff.mp hm);omega
 have sa:∀ l:List Nat,(∀ i∈l,i<ts.length)->UU (l.map λi=>vs.getD i SW) (l.map λi=>ts.getD i Sz):=λl hl=>by
  induction l with
  | nil=>exact .nil
  | cons i l ih =>
   have hi:=hl i SS;obtain ⟨t1,e1⟩:=KG r hi;have e2:ts.getD i Sz=ts[i]:=KA (SH hi);rw [Th,Th,e1,e2];exact .cons _ _ (ih λj hm=>hl j (SI _ hm))
 have perm:(g.toList.map λi=>ts.getD i Sz).Perm ts:=by have bH:=L.pm;rw [<- el] at bH;refine (bH.map λi=>ts.getD i Sz).trans (YL ?_);refine Xv (by simp) λi g1 g2=>?_;simp [Tf,SH g2]
 have J:∀ b o,B.get? b=some o->(sortedHeap (B.push (SQ "list" vs.toArray 0)) B.objs.size vs (Dm g vs)).get? b=some o:=λb o e=>by
  have bl:=So e;rw [sortedHeap_old (Sw bl) (by rw [Tb];exact Ut bl)];exact Sq _ e
 refine ⟨.ref B.objs.size,_,I1.laid (t':=O) J (Sh _) (show A4 X.prog X.w _ _ _ (.lst ((g.toList.map λi=>ts.getD i Sz).map V.str)) from ⟨?_,(g.toList.map λi=>vs.getD i SW),c,Ea (sa _ j8),ho⟩),rfl,q _ _ fr (perm.nodup_iff.mpr (pt.nodup_iff.mpr D)) (λz=>?_) ?_⟩
 .rw [R5,R5,TC,sz,R8];omega
 .rw [perm.mem_iff,pt.mem_iff];exact m z
 .rw [Wg,ZS];intro i j g1 g2 j9;have k1:i<g.size:=by simpa using g1
  have k2:j<g.size:=by simpa using g2
  have u:=up i j j9 (by rw [<- L.size];exact k2);rw [C1,C1,Ur k1,Ur k2] at u;have u':(ts.getD g.toList[i] Sz).cps.toList<(ts.getD g.toList[j] Sz).cps.toList:=by simpa using u
  exact List.le_of_lt u'
end
section
variable {K:R0}{D:Addr}{z:Str}{g:TG}{tt:TT}{te:TE}{σ0:St}{H:Hp}{Q:Hp->Prop}
theorem KH (Pv:Nat->St->Hp->Prop)(V:Pv 0 σ0 (upd H D (.lst [])))(hs:∀ i c σ d,z.cps.toList[i]?=some c->Pv i σ d->g (.str ⟨#[c]⟩) σ d (Kj D tt te (Pv (i+1))))(hd:∀ σ d,Pv z.cps.toList.length σ d->Q d) :
  ∃ W:Nat->Nat->St->Hp->Prop,(∃ m,W 0 m σ0 (upd H D (.lst [])))/\∀ i m σ' d,W i m σ' d ->
   ((FL z).stop i d/\Q d)\/((FL z).go i d/\∃ N:St->Hp->Prop,(∀ σ2 B,N σ2 B->∃ I,I<m/\W (i+1) I σ2 B)/\∀ x B,(FL z).bL i d x B->g x σ' B λσ3 Y=>tt σ3 Y λb J =>
    if b=true then te σ3 J λv L=>∃ ys,L D=some (.lst ys)/\ys.length<sizeLine/\N σ3 (upd L D (.lst (ys++[v]))) else N σ3 J):=by
 have hl:z.cps.toList.length=z.cps.size:=by simp
 rw [hl] at hd;refine ⟨λi m σ H=>m=z.cps.size - i/\i<=z.cps.size/\Pv i σ H,⟨_,rfl,S7 _,V⟩,?_⟩;rintro i m σ H1 ⟨rfl,hi,p⟩;by_cases O:i<z.cps.size
 .refine .inr ⟨O,Pv (i+1),λσ' d p'=>⟨z.cps.size - (i+1),by omega,rfl,O,p'⟩,λx d y=>?_⟩;obtain ⟨e,c,hc,e2⟩:=y;subst e e2;exact hs i c σ _ hc p
 .have e:i=z.cps.size:=by omega
  subst e;exact .inl ⟨Sh _,hd σ H1 p⟩
theorem Adz {w:R3}{a:Addr}{xs:List V}(Pv:Nat->St->Hp->Prop)(h0:Pv 0 σ0 (upd H D (Bo w D [])))(hl:∀ i σ H,i<=xs.length->Pv i σ H->AZ K H a xs)(hs:∀ i x σ d,xs[i]?=some x->Pv i σ d->g x σ d λσ3 L=>tt σ3 L λb B=>if b=true then te σ3 B λv I=>∃ zs z,v=.str z/\I D=some (Bo w D zs)/\zs.length<2000/\Pv (i+1) σ3 (upd I D (Bo w D (zs++[z]))) else Pv (i+1) σ3 B)(hd:∀ σ d,Pv xs.length σ d->Q d) :
  ∃ W:Nat->Nat->St->Hp->Prop,(∃ m,W 0 m σ0 (upd H D (Bo w D [])))/\∀ i m σ' d,W i m σ' d ->
   ((Dv K a).stop i d/\Q d)\/((Dv K a).go i d/\∃ N:St->Hp->Prop,(∀ σ2 J,N σ2 J->∃ O,O<m/\W (i+1) O σ2 J)/\∀ x J,(Dv K a).bL i d x J->g x σ' J λσ3 L=>tt σ3 L λb B =>
    if b=true then te σ3 B λv I=>∃ zs z,v=.str z/\I D=some (Bo w D zs)/\zs.length<2000/\N σ3 (upd I D (Bo w D (zs++[z]))) else N σ3 B):=by
 refine ⟨λi m σ H=>m=xs.length - i/\i<=xs.length/\Pv i σ H,⟨xs.length,by simp,S7 _,h0⟩,?_⟩;rintro i m σ Y ⟨rfl,hi,p⟩;have q:=hl i σ Y hi p;by_cases ai:i<xs.length
 .refine .inr ⟨⟨xs,xs[i],q,by simp [ai]⟩,Pv (i+1),λσ' d p'=>⟨xs.length - (i+1),by omega,rfl,ai,p'⟩,λx d y=>?_⟩;obtain ⟨rfl,hy⟩:=y;exact hs i x σ _ (hy xs q) p
 .have e:i=xs.length:=by omega
  subst e;exact .inl ⟨⟨xs,q,Sh _⟩,hd σ Y p⟩
end
section
variable {X:Cx}{CX:BA}{k:Nat}{f C:Addr}{fd:Sr}{ps:List Str}{sp:Sp}{x:Str}{p pos:Pos}{e:R6}{es:List R6}{t:TA}{W:St->XK}
def AdA (C:Addr)(sp:Sp)(W:St->XK)(t:TA):TE:=λσ H Q=>t σ H λvs H1=>∀ x dx,H1 x=none->H1 dx=none->dx≠x->sp (.ref x :: vs) (upd (upd H1 dx (.own x)) x (.ins C dx [])) (λv H2=>v=.ae/\Q (.ref x) H2) (W σ)
theorem AdB (D:Dk X.prog X.w X.K X.mg X.base CX k C x ps sp)(g:Gm X.env.scope x)(O:Bb (k+1) X.A)(hx:E9 CX X W)(Y:PA X (e :: es) t)(he:Se (e :: es) X.env=(false,Sf e X.env) :: Se es X.env:=by rfl)(az:(SJ pos (Se es X.env)).any (·.1)=false:=by rfl):PE X (.Call (.Name x p) (e :: es) [] pos) (AdA C sp W t):=by
 obtain ⟨f,fd,hm,M,hb,F⟩:=Bc D;intro pins s0 σ H0 Q L h;refine VI (ET L g.gl hm ?_ g.db);refine Vb (h₀:=X.base) L.ok.mod.bS M.kp (Al (Y pos pins s0 σ H0 _ L h) λd s zz=>Az zz λvs H I r h=>⟨I.aw,?_⟩) he az;have hq:=h (s.heap.objs.size+1) s.heap.objs.size (I.aa.fresh (Tr _)) (I.aa.fresh (Sh _)) (Sw (Uq _));have J:=Ad.made (C:=C) I;have r2:Ar (V.ref (s.heap.objs.size+1) :: vs) (Sg (s.heap.objs.size+1) :: d):=.cons rfl r;have hl:(Sg (s.heap.objs.size+1) :: d++[]).length=ps.length:=by have e:=r2.length;rw [F.len _ _ _ _ hq] at e;simpa using e.symm
 refine V7 (Nd (f:=f) I.aw M.makes M.init (beq_iff_eq.mp M.fn) (UM (F.run _ X.stack _ _ ⟨Sg (s.heap.objs.size+1) :: d,[]⟩ (Sg (s.heap.objs.size+1) :: d) _ _ (W σ) (O.make C d [])
  (J.gm.make C d []) (by simpa using hb _ (Sg (s.heap.objs.size+1) :: d) J.aw hl) r2 hq) λr s' B=>?_))
 cases r with
 | error e=>exact hx pins σ _ _ e s' J B
 | ok fl =>
  cases fl with
  | ret u =>
   obtain ⟨v,H',I3,rv,ev,q3⟩:=Bc (J.after B);subst ev;exact ⟨rv,⟨V.ref (s.heap.objs.size+1),H',I3,rfl,q3⟩⟩
  | next=>exact Tn B
  | brk=>exact Tn B
  | cont=>exact Tn B
theorem AdC {B a b:R6}{d:TA}(g:Gm X.env.scope "range")(D:X.mg "range"=none)(H:PA X [a,b] d)(hs:Se [a,b] X.env=[(false,Sf a X.env),(false,Sf b X.env)]:=by rfl)(I:Se [b] X.env=[(false,Sf b X.env)]:=by rfl):PI X B (.Call (.Name "range" p) [a,b] [] pos) (MW d):=AaF g.gl D H hs I
theorem FU {i:Int}(g:Gm X.env.scope x)(d:∃ t,X.mg x=some (Tu i t)):PE X (.Name x pos) (tC (.int i)):=by obtain ⟨t,h⟩:=d;exact BK g h ⟨t,rfl⟩
theorem KI {z:Str}(g:Gm X.env.scope x)(d:∃ t,X.mg x=some (S2 z t)):PE X (.Name x pos) (tC (.str z)):=by obtain ⟨t,h⟩:=d;exact BK g h ⟨t,rfl⟩
end
section
variable {X:Cx}
end
section
variable {prog:R7}{w:R3}{A:Sj}{R:VF->RY->Prop}{E:Value->RY->Prop}{s:RY}
theorem AdD {J L H iter:R6}{d:List R6}{sc:Scope}{pos:Pos}{it:Value}{D:Addr}{env:Env}(I:Nat->RY->Prop)(g:∀ n s,I n s->R1 (R4 prog w) A (Tg it) (λr O=>match r with
   | none=>R (.ok .next) O
   | some v=>R1 (R4 prog w) A (VC H it v) (λ_ Y=>R1 (R4 prog w) A (T5 H env v) (λ_ s₃=>R1 (R4 prog w) A (GG d env) (λok V =>
     if ok=true then R1 (R4 prog w) A (Sf J env) (λx s₅=>R1 (R4 prog w) A (Sf L env) (λy s₆=>R1 (R4 prog w) A (dictSet D x y) (λ_ s₇=>∃ m,m<n/\I m s₇) (λ_ _=>False) s₆) (λ_ _=>False) s₅) (λ_ _=>False) V
     else ∃ m,m<n/\I m V) (λ_ _=>False) s₃) (λ_ _=>False) Y) (λ_ _=>False) O) (λ_ _=>False) s)(n:Nat)(h:I n s):Tq (R4 prog w) A (.compLoop (.DictComp J L [⟨H,iter,d,0⟩] sc pos) 0 it (.ref D) env) R s:=by
 refine Yu rfl I (λn s hI=>?_) n h;show R1 _ A ((Xq (.DictComp J L [⟨H,iter,d,0⟩] sc pos) 0 it (.ref D) env).onRaise _) _ _ s;refine Yv ?_;rw [compTurn_dict];refine RZ (US (RZ (Cb (g n s hI) λr O p=>?_)));match r,p with
 | none,p=>exact Sb p
 | some v,p =>
  refine RZ (Cb p λ_ Y h₂=>RZ (Cb h₂ λ_ s₃ h₃=>RZ (Cb h₃ λok V B=>?_)));match ok,B with
  | false,B=>exact Sb ⟨rfl,B⟩
  | true,B=>exact RZ (RZ (Cb B λx s₅ h₅=>RZ (UB (Cb h₅ λy s₆ h₆=>RZ (US (UB (Cb h₆ λ_ s₇ h₇=>Sb ⟨rfl,h₇⟩)))))))
end
section
variable {X:Cx}{N':List Str}{sc:Scope}{aj:List (Option Nat)}{cl:List (Str×Addr)}{C:Addr}{fp:List Addr}{pins:List (Addr×Obj)}{s₂:RY}{H₂:Hp}{σ:St}
theorem AdE {s:RY}{H:Hp}{D:Addr}{kvs:List (Aq×V)}{k:Aq}{v:V}{x y:Value}{Q:Unit->RY->Prop}{E:Value->RY->Prop}(I:Ad X pins σ H s)(e:H D=some (.dK kvs))(aD:kvs.length<sizeLine)(B:AB (kV k) x)(J:AB v y)(q:∀ g,Ad X pins σ (upd H D (.dK (By kvs k v))) g->Q () g):R1 (R4 X.prog X.w) X.A (dictSet D x y) Q E s:=by
 obtain ⟨z,hd,vs,d,L⟩:=AJ (Kl I.aa e);have O:vs.length<=sizeLine:=by rw [<- d.length];exact z
 have Y:(By kvs k v).length<=sizeLine:=by have:=Ia kvs k v;omega
 refine wpAny_dictSet_pairs (hsz:=O) (FR B) L λh' p hs=>q _ ?_;have he:∃ q,h'.get? D=some q:=let ⟨q,_,_,hq,_⟩:=p;⟨q,hq⟩;exact Ic I (by rw [e];exact TY) hs he (Km Y hd (d.put k J) p)
theorem AdF {D:Addr}{h₁:Heap}{tk:Nat}{m:Str->Option Value}(S:A1 sc X.env.scope N' X.N aj)(I:Ad X pins σ H₂ s₂)(J:∀ x c,cl.lookup x=some c->X.env.cells.lookup x=some c)(Y:∀ y∈sc.names,y.2=.free->∃ c,cl.lookup y.1=some c)(bA:∀ b∈fp,CA X pins H₂ b)(aY:∀ b∈fp,∃ o,s₂.heap.get? b=some o)(hD:D=s₂.heap.objs.size)(hC:C=s₂.heap.objs.size+1)(hk:∀ b o,(s₂.heap.push { cls:=.type "dict",dict:=none,data:=.dict #[] }).get? b=some o->h₁.get? b=some o)(bh:h₁.Ns C m) :
  Ad (AF X N' sc cl C fp pins s₂ H₂) [] (D7 aj σ) (upd H₂ D (.dK [])) { s₂ with heap:=h₁,toks:=tk }:=by
 subst hD;have V:s₂.heap.objs.size<=C:=by rw [hC];exact Tr _
 have ok:=D8 S I J Y V bA aY;have I3:Ad X pins σ (upd H₂ s₂.heap.objs.size (.dK [])) { s₂ with heap:=s₂.heap.push { cls:=.type "dict",dict:=none,data:=.dict #[] },toks:=tk }:=I.laid (t':=tk) (λb o q=>Sq _ q) (Sh _) (N6 s₂.heap I.big);have I4:Ad X pins σ (upd H₂ s₂.heap.objs.size (.dK [])) { s₂ with heap:=h₁,toks:=tk }:=I3.kept (t':=tk) hk;have g:∀ b o,s₂.heap.get? b=some o->h₁.get? b=some o:=λb o e=>hk b o (Sq _ e);have gD:∀ b o,s₂.heap.get? b=some o->b≠s₂.heap.objs.size:=λb o e=>Sw (So e);have dZ:∀ x c,cl.lookup x=some c->∃ v o,s₂.heap.get? c=some o/\o.data=.cell v:=λx c e=>by
  obtain ⟨v,o,B,hd⟩:=Bi (I.cell x c (J x c e));exact ⟨v,o,B,hd⟩
 refine ⟨ok,rfl,I.bare,Un.laid g (Sh _) I.fresh,⟨m,bh,λi x v e1 e2 e3=>?_⟩,λx c e=>?_,?_,λx c e=>?_,λp hp=>?_,I4.aa,?_⟩
 .have H:(aj[i]?).map (λo=>o.bind λj=>(σ[j]?).join)=some (some v):=by
   have:=e2;unfold D7 at this;rwa [SK] at this
  cases q:aj[i]? with
  | none=>rw [q] at H;cases H
  | some oj =>
   rw [q,Vk] at H;cases oj with
   | none=>cases H
   | some j =>
    have L:(σ[j]?).join=some v:=by simpa using H
    have e5:σ[j]?=some (some v):=by
     cases z:σ[j]? with
     | none=>rw [z] at L;cases L
     | some w=>rw [z] at L;rw [<- L];rfl
    obtain ⟨x',n1,n2,n3,O⟩:=Ax (S.out i j q);have bz:N'[i]?=some x:=e1;rw [n1] at bz;cases bz;obtain ⟨m2,eW,hl⟩:=Am I.loc;have hv:FD X.env.scope x:=O.elim (λz=>.inr (.inl z)) λz=>.inr (.inr z);obtain ⟨u,r,l⟩:=Am (hl j x v n2 e5 hv);refine ⟨u,r,.inr ⟨HW n3,?_⟩⟩;rcases l with ⟨k,_⟩ | ⟨_,c,ec,z⟩
    .have k':X.env.scope.names.lookup x=some .local:=k;rcases O with z | z<;>rw [k'] at z<;>cases z
    .obtain ⟨c',d0⟩:=Y _ (UA n3) rfl;have:=J x c' d0;rw [ec] at this;cases this;obtain ⟨o,B,hd⟩:=Am z;exact ⟨c,d0,o,g c o B,hd⟩
 .obtain ⟨v,o,B,hd⟩:=Bi (dZ x c e);exact ⟨v,o,g c o B,hd⟩
 .show upd H₂ s₂.heap.objs.size (.dK []) C=none;rw [Ak (by rw [hC];exact Xs _)];exact I.aa.fresh V
 .obtain ⟨v,o,B,hd⟩:=Bi (dZ x c e);show upd H₂ s₂.heap.objs.size (.dK []) c=none;rw [Ak (gD c o B)];exact I.br x c (J x c e)
 .have bH:p∈X.pn++pins:=by simpa [AF] using hp
  obtain ⟨e,n,ne,nf,d⟩:=AJ (I.pin p bH);obtain ⟨_,O,_⟩:=AJ (I4.pin p bH);exact ⟨g _ _ e,O,Sw (SN (So e) V),λz=>(Si.mp (I.cC _ z)).elim ne nf,d⟩
 .show (aj.map _).length=N'.length;rw [R5];exact S.len
def KJ (aj:List (Option Nat))(wi:TI)(g:TG)(tt:TT)(tk tv:TE):TE:=λσ H Q=>wi σ H λJ H1=>∀ D,H1 D=none->∃ W:Nat->Nat->St->Hp->Prop,(∃ m,W 0 m (D7 aj σ) (upd H1 D (.dK [])))/\∀ i m σ' H',W i m σ' H' ->
 (J.stop i H'/\Q (.ref D) H')\/(J.go i H'/\∃ N:St->Hp->Prop,(∀ σ2 H2,N σ2 H2->∃ m',m'<m/\W (i+1) m' σ2 H2)/\∀ x H2,J.bL i H' x H2->g x σ' H2 λσ3 H3=>tt σ3 H3 λb H4 =>
  if b=true then tk σ3 H4 λk H5=>tv σ3 H5 λv H6=>∃ kvs kk,k=kV kk/\H6 D=some (.dK kvs)/\kvs.length<sizeLine/\N σ3 (upd H6 D (.dK (By kvs kk v))) else N σ3 H4)
theorem OF {kx vx tg iter:R6}{V:List R6}{sc:Scope}{aj:List (Option Nat)}{N':List Str}{pos:Pos}{wi:TI}{g:TG}{tt:TT}{te tv:TE}{s:RY}{H:Hp}{use:Option (Value->Sem Unit)}{Qv:Value->RY->Prop}{Q:VK}(hc:X.calm=true)(S:A1 sc X.env.scope N' X.N aj)(hi:PI X tg iter wi)(hg:∀ cl C fp pins s₂ H₂,PG (AF X N' sc cl C fp pins s₂ H₂) tg g)(ht:∀ cl C fp pins s₂ H₂,DQ (AF X N' sc cl C fp pins s₂ H₂) V tt)(he:∀ cl C fp pins s₂ H₂,PE (AF X N' sc cl C fp pins s₂ H₂) kx te)(hv:∀ cl C fp pins s₂ H₂,PE (AF X N' sc cl C fp pins s₂ H₂) vx tv)(hs:∀ x,UJ iter X.env x=pure x)(I:Ad X pins σ H s)(h:KJ aj wi g tt te tv σ H Q)(post:∀ D C B s' m,(∀ h',S4 C s'.heap h'->Ad X pins σ B { s' with heap:=h' })->Ad X pins σ B s'->s'.heap.Ns C m->(∀ x c,X.env.cells.lookup x=some c->c≠C)->X.env.locals≠C->B C=none ->
   (∀ σ' Y h',Ad X pins σ' B Y->S4 C Y.heap h'->Ad X pins σ' B { Y with heap:=h' })->Q (.ref D) B->Wd (R4 X.prog X.w) X.A X.xe use Qv (.ref D) C (.ok .next) s') :
  R1 (R4 X.prog X.w) X.A (WO (.DictComp kx vx [⟨tg,iter,V,0⟩] sc pos) sc X.env (Yw [⟨tg,iter,V,0⟩] pos) newDict false (Sf iter X.env) use) Qv X.xe s:=by
 obtain ⟨cl,gE,aI,aX⟩:=Kd (env:=X.env) (sc:=sc) λy hy hf=>I.ok.has y.1 (S.frees y hy hf);refine Yx rfl hs gE S.kind S.one (Al (hi pins s σ H _ I h) λxv s₁ h₁=>Al h₁ λgj s₂ h₂=>?_);obtain ⟨it,fp,tn,J,H₂,e,O,T,d2,f₂,rd⟩:=Gh h₂;subst e;refine UT (Yy S.iS (by intro y hy;simp at hy) (λh₁ bh b8=>?_) S.kind);dsimp only at bh b8 ⊢;have aY:∀ b∈fp,∃ o,s₂.heap.get? b=some o:=λb hb=>let ⟨o,e,_⟩:=T.obj _ _ d2 b hb;⟨o,e⟩;have bT:(s₂.heap.push { cls:=.type "dict",dict:=none,data:=.dict #[] }).objs.size=s₂.heap.objs.size+1:=Tb ..;have hk:∀ b o,(s₂.heap.push { cls:=.type "dict",dict:=none,data:=.dict #[] }).get? b=some o->h₁.get? b=some o:=λb o e=>b8.extBut b o (Sw (So e)) (Sq _ e);have IB:=AdF (tk:=s₂.toks+([]:List (Str×Value)).length) S O aI aX f₂ aY rfl bT hk bh;generalize (s₂.heap.push { cls:=.type "dict",dict:=none,data:=.dict #[] }).objs.size=C at bT bh b8 IB ⊢;generalize hD:s₂.heap.objs.size=D at IB bT ⊢;have aC:s₂.heap.objs.size<=C:=by rw [hD,bT];exact Tr _
 obtain ⟨W,⟨m0,w0⟩,turn⟩:=Am (rd D (by rw [<- hD];exact O.fresh));have cJ:∀{B:Hp},(∀ b∈fp,B b=none)->∀ b∈fp,CA (AF X N' sc cl C fp pins s₂ H₂) [] B b:=λhn b hb=>by
  obtain ⟨z1,z2⟩:=(D8 S O aI aX aC f₂ aY).cW b hb;exact ⟨hn b hb,z1,(D8 S O aI aX aC f₂ aY).cq b hb,.inl hb,z2,λp hp=>(f₂ b hb).2.2.2.2.2 p (by simpa [AF] using hp)⟩
 have gF:∀ b∈fp,(upd H₂ D (.dK [])) b=none:=λb hb=>by
  obtain ⟨o,ho⟩:=aY b hb;rw [Ak (by rw [<- hD];exact Sw (So ho))];exact (f₂ b hb).1
 have bj:tn 0 h₁:=T.keep _ _ _ d2 λb hb o e=>hk b o (Sq _ e);have loop:Tq (R4 X.prog X.w) X.A (.compLoop (.DictComp kx vx [⟨tg,iter,V,0⟩] sc pos) 0 (.ref it) (.ref D) (Xr sc cl C X.env)) (Wd (R4 X.prog X.w) X.A X.xe use Qv (.ref D) C) { s₂ with heap:=h₁,toks:=s₂.toks+([]:List (Str×Value)).length }:=by
  refine AdD (λn s'=>∃ i σ' B,Ad (AF X N' sc cl C fp pins s₂ H₂) [] σ' B s'/\tn i s'.heap/\(∀ b∈fp,B b=none)/\W i n σ' B) ?_ m0 ⟨0,_,_,IB,bj,gF,w0⟩;rintro n s3 ⟨i,σ3,H3,I3,cG,cH,w3⟩;rcases turn i n σ3 H3 w3 with ⟨stop,qn⟩ | ⟨go,N,hN,step⟩
  .refine Al (T.done (AF X N' sc cl C fp pins s₂ H₂) rfl rfl rfl hc i [] s3 σ3 H3 _ I3 (cJ cH) cG stop) λr s4 ⟨hr,I4⟩=>?_;subst hr;have JX:=Ke O f₂ I4;obtain ⟨m,hn,_⟩:=Am I4.loc;have cn:∀ x c,X.env.cells.lookup x=some c->c≠C:=λx c e z=>by
    obtain ⟨v,q⟩:=O.cell x c e;exact absurd (SN q.lt (by rw [z];exact aC)) (TK _)
   have gone:∀ σ' Y h',Ad X pins σ' H3 Y->S4 C Y.heap h'->Ad X pins σ' H3 { Y with heap:=h' }:=λσ' Y h' K3 gG =>
    K3.turned (t':=Y.toks) (it:=C) (λb o hb e=>(gG.2 b hb).trans e) I4.free (T6 (SN O.lt aC)) (.inr (Sy O.sz aC)) cn λp hp z=>by
     exact absurd (SN (So (O.pin p hp).1) (by rw [z];exact aC)) (TK _)
   exact post D C H3 s4 m (λh' bO=>gone σ s4 h' JX bO) JX hn cn (Sw (SN O.lt aC)) I4.free gone qn
  .refine Al (T.item (AF X N' sc cl C fp pins s₂ H₂) rfl rfl rfl hc i [] s3 σ3 H3 _ I3 (cJ cH) cG go) λr s4 L=>Cp L λu hr h4=>?_;subst hr;refine Al h4 λ_ s5 L=>Az L λx H5 I5 r5 ⟨y5,bM,eT⟩=>?_;have eU:=I5.pinned (cJ eT) (T.obj _ _ bM);refine Al (hg cl C fp pins s₂ H₂ _ s5 σ3 H5 x u _ eU r5 (step x H5 y5)) λ_ s6 L=>Gg L λσ6 H6 I6 q6=>?_;refine Al (ht cl C fp pins s₂ H₂ _ s6 σ6 H6 _ I6 q6) λok s7 L=>Cp L λH7 I7 q7=>?_;have again:∀{H8:Hp}{s8:RY},Ad (AF X N' sc cl C fp pins s₂ H₂) ([]++EW fp s5.heap) σ6 H8 s8->N σ6 H8->∃ m,m<n/\∃ i σ' B,Ad (AF X N' sc cl C fp pins s₂ H₂) [] σ' B s8/\tn i s8.heap/\(∀ b∈fp,B b=none)/\W i m σ' B:=λ{H8 s8} I8 n8=>by
    obtain ⟨m',hm,w8⟩:=Am (hN σ6 H8 n8);refine ⟨m',hm,i+1,σ6,H8,I8.eR,T.keep _ _ _ bM λb hb o e=>(I8.pin (b,o) (S6 _ (S6 _ (Ep hb e)))).1,λb hb=>?_,w8⟩;obtain ⟨o,e,d⟩:=Am (T.obj _ _ bM b hb);exact (I8.pin (b,o) (S6 _ (S6 _ (Ep hb e)))).2.1
   cases ok with
   | false=>exact again I7 q7
   | true =>
    refine Al (he cl C fp pins s₂ H₂ _ s7 σ6 H7 _ I7 q7) λy s8 L=>Az L λv H8 I8 r8 q8=>?_;refine Al (hv cl C fp pins s₂ H₂ _ s8 σ6 H8 _ I8 q8) λy' s9 L=>Az L λv' H9 I9 r9 q9=>?_;replace q9:=Bc q9;obtain ⟨kvs,kk,rfl,hy,aD,n9⟩:=q9
    exact AdE (X:=AF X N' sc cl C fp pins s₂ H₂) I9 hy aD r8 r9 λs10 I10=>again I10 n9
 exact codeAny_compStart_dict loop (T.self _ 0 _ _ _ bj loop)
theorem OG {B L p iter:R6}{d:List R6}{sc:Scope}{aj:List (Option Nat)}{N':List Str}{pos:Pos}{O:TI}{g:TG}{V:TT}{Y tv:TE}(hc:X.calm=true)(S:A1 sc X.env.scope N' X.N aj)(hi:PI X p iter O)(hg:∀ cl C fp pins s₂ H₂,PG (AF X N' sc cl C fp pins s₂ H₂) p g)(ht:∀ cl C fp pins s₂ H₂,DQ (AF X N' sc cl C fp pins s₂ H₂) d V)(he:∀ cl C fp pins s₂ H₂,PE (AF X N' sc cl C fp pins s₂ H₂) B Y)(hv:∀ cl C fp pins s₂ H₂,PE (AF X N' sc cl C fp pins s₂ H₂) L tv)(hs:∀ x,UJ iter X.env x=pure x:=by intro _;rfl):PE X (.DictComp B L [⟨p,iter,d,0⟩] sc pos) (KJ aj O g V Y tv):=by intro pins s σ H Q I h;rw [arm_eval_DictComp];refine OF (use:=none) (Q:=Q) hc S hi hg ht he hv hs I h λD C H' s' m g1 J hn cn ln fr g2 q=>?_;exact ⟨m,hn,λh' bO=>⟨.ref D,H',g1 h' bO,rfl,q⟩⟩
theorem AdG {O V B iter:R6}{p:List R6}{sc:Scope}{aj:List (Option Nat)}{N':List Str}{pos gH d:Pos}{wi:TI}{g:TG}{tt:TT}{te tv:TE}{j:Nat}{y:Str}(hc:X.calm=true)(nd:X.N.Nodup)(hj:X.N[j]?=some y)(hy:FE X.env.scope y)(S:A1 sc X.env.scope N' X.N aj)(hi:PI X B iter wi)(hg:∀ cl C fp pins s₂ H₂,PG (AF X N' sc cl C fp pins s₂ H₂) B g)(ht:∀ cl C fp pins s₂ H₂,DQ (AF X N' sc cl C fp pins s₂ H₂) p tt)(he:∀ cl C fp pins s₂ H₂,PE (AF X N' sc cl C fp pins s₂ H₂) O te)(hv:∀ cl C fp pins s₂ H₂,PE (AF X N' sc cl C fp pins s₂ H₂) V tv)(j3:U7 (.DictComp O V [⟨B,iter,p,0⟩] sc pos) (some (.Name y d)) gH.line X.env=pure true)(hs:∀ x,UJ iter X.env x=pure x:=by intro _;rfl)(hf:X.fn y=true\/X.env.scope.names.lookup y=some .local:=by first | exact .inl rfl | exact .inr rfl | assumption) :
  PS X (.Assign [.Name y d] (.DictComp O V [⟨B,iter,p,0⟩] sc pos) gH) (EV (KJ aj wi g tt te tv) (Ba j)):=by
 intro pins s σ H D I h;rw [ZC _ _ _ _ j3];refine RZ (US (RZ ?_));show R1 _ X.A (do let _ <- WO (.DictComp O V [⟨B,iter,p,0⟩] sc pos) sc X.env _ newDict false (Sf iter X.env) (some (T5 (.Name y d) X.env))) _ _ s;refine RZ (Al (OF (use:=some (T5 (.Name y d) X.env)) (Qv:=λ_ Y=>SP X pins D .next Y) hc S hi hg ht he hv hs I h λL C H' Y m g1 J hn cn ln fr g2 q=>?_) λ_ Y hq=>Sb (Sb hq));show R1 _ X.A (T5 (.Name y d) X.env (.ref L)) _ _ _;refine X5 (JI J nd hj hy (v:=.ref L) rfl (λaB K j5=>?_) hf);obtain ⟨a,j6,ha⟩:=Am j5;have gJ:C≠a:=by
  rcases ha with z | z
  .rw [z];exact S3 ln
  .exact S3 (cn y a z)
 exact ⟨m,hn.sameBut j6 gJ,λh' bO=>⟨_,H',g2 _ aB h' K bO,q⟩⟩
end
structure EB (P:R7)(w:R3)(K:R0)(a:Addr)(kvs:List (Aq×V)):Prop where
 lo:(a == Tv)=false
 sz:kvs.length<=sizeLine
 ki:∃ o vs ep,K.lookup a=some o/\KV kvs vs/\∀ h:Heap,h.get? a=some o->h.DictAt (Bp P w) a vs ep
def GQ (P:R7)(w:R3)(K:R0)(H:Hp)(a:Addr)(kvs:List (Aq×V)):Prop:=Rd H a (.dK kvs)\/EB P w K a kvs
theorem GQ.of {P:R7}{w:R3}{K:R0}{H:Hp}{a:Addr}{kvs:List (Aq×V)}(h:H a=some (.dK kvs)):GQ P w K H a kvs:=.inl (.inl h)
theorem AdH {P:R7}{w:R3}{k:Aq}{u:Value}(h:(Bp P w).is k u=true):AB (kV k) u:=by
 rw [Aaf] at h;cases k with
 | inl i =>
  show ∃ t,u=Tu i t;cases u<;>simp [DE,XU] at h;rename_i j t
  exact ⟨t,by rw [h]⟩
 | inr x =>
  show ∃ t,u=S2 x t;cases u<;>simp [DE,W6] at h;rename_i j t
  exact ⟨t,by rw [h]⟩
section
variable {X:Cx}{pins:List (Addr×Obj)}{σ:St}{H:Hp}{s:RY}{a:Addr}{kvs:List (Aq×V)}{P:R7}{w:R3}{K:R0}
theorem OH (I:Ad X pins σ H s)(e:GQ X.prog X.w X.K H a kvs):kvs.length<=sizeLine/\(a == Tv)=false/\∃ vs,KV kvs vs/\s.heap.DictOf (Bp X.prog X.w) a vs:=by
 rcases e with e | e
 .exact N3 I.aa e
 .obtain ⟨o,vs,g,l,r,d⟩:=Cq e.ki;exact ⟨e.sz,e.lo,vs,r,(d _ (I.bk _ _ (I.mod.bS _ _ l))).dictOf⟩
def AdI (P:R7)(w:R3)(K:R0)(neg:Bool):R2:=λx y H Q=>∃ a kvs k,y=.ref a/\x=kV k/\GQ P w K H a kvs/\Q (.bl (if neg then !(Bk kvs k).isSome else (Bk kvs k).isSome)) H
theorem KL (g:X.prog=P:=by rfl)(hw:X.w=w:=by rfl)(p:X.K=K:=by rfl):AU X (S1 .NotIn) (AdI P w K true):=by
 subst g hw p;intro pins s σ H x y v u Q I B D h;replace h:=Cq h;obtain ⟨a,kvs,k,rfl,rfl,e,q⟩:=h
 cases (show u=Sg a from D);obtain ⟨z,hd,vs,d,J⟩:=AJ (OH I e);refine wpAny_notIn_of (FR B) hd J.mapOf ?_;rw [<- (d.val k).nR];exact ⟨.bl (!(Bk kvs k).isSome),H,I.tok _,rfl,q⟩
def OI (P:R7)(w:R3)(K:R0)(td ty:TE):TE:=λσ H Q=>td σ H λx H1=>ty σ H1 λy H2=>∃ a kvs k v,x=.ref a/\y=kV k/\GQ P w K H2 a kvs/\Bk kvs k=some v/\Q v H2
theorem AdJ {o i:R6}{pos:Pos}{B ty:TE}(L:PE X o B)(hi:PE X i ty)(hs:Kn i)(O:X.prog=P:=by rfl)(hw:X.w=w:=by rfl)(Y:X.K=K:=by rfl):PE X (.Subscript o i pos) (OI P w K B ty):=by subst O hw Y;intro pins s σ H Q I h;refine AcM PySem.F.slot_dict_getitem.lookup hs (Al (L pins s σ H _ I h) λu s1 d=>Az d λx H1 I1 rx q1=>Al (hi pins s1 σ H1 _ I1 q1) λiv s2 d=>Az d λy H2 D ry ⟨a,kvs,k,v,ex,ey,g,l,q2⟩=>?_);subst ex ey;obtain rfl:u=Sg a:=rx;obtain ⟨z,hd,vs,p,J⟩:=AJ (OH D g);obtain ⟨w',hw,cv⟩:=Am (CJ.some_of (v:=v) (o:=VT vs k) (by rw [<- l];exact p.val k));exact ⟨J.typeIs,wpAny_getItem_of (FR ry) J.mapOf hw ⟨v,H2,D.tok _,cv,q2⟩⟩
def FV (kvs:List (Aq×V)):It:=⟨λi _=>i<kvs.length,λi H x H'=>H'=H/\∃ p,kvs[i]?=some p/\x=kV p.1,λi _=>kvs.length<=i⟩
theorem Ck (P:R7)(w:R3)(K:R0){X:Cx}{o i:R6}{pos:Pos}{d ty:TE}(g:PE X o d)(hi:PE X i ty)(hs:Kn i:=by exact λ_ _=>rfl)(p:X.prog=P:=by rfl)(hw:X.w=w:=by rfl)(B:X.K=K:=by rfl):PE X (.Subscript o i pos) (OI P w K d ty):=AdJ g hi hs p hw B
theorem AdK {tg:R6}{it:Addr}{o:Obj}{vs:List (Aq×Value)}{ep:Nat}(l:K.lookup a=some o)(r:KV kvs vs)(d:∀ h:Heap,h.get? a=some o->h.DictAt (Bp P w) a vs ep) :
  Eo P w K tg (FV kvs) [it] it (λi h=>h.IsKeyIter it a i vs.length ep) where
 mem:=by simp
 obj:=λi h st b hb=>by
  have e:b=it:=by simpa using hb
  subst e;obtain ⟨o,e,c,d⟩:=Ax st;exact ⟨o,e,λv z=>by rw [d] at z;cases z⟩
 keep:=λi h p st k=>st.at λo e=>k it (by simp) o e
 item:=by
  intro X D hw J hc i pins s σ H E I B st g;subst D hw J;obtain ⟨L,f1,f2,O,Y,f5⟩:=AJ (B it (by simp));have dd:=d _ (I.bk _ _ (I.mod.bS _ _ l));have hl:=r.length;have hi:i<vs.length:=by rw [<- hl];exact g
  have hx:vs[i]?=some vs[i]:=SH hi;have hk:kvs[i]?=some kvs[i]:=SH g;have ke:kvs[i].1=vs[i].1:=by
   have:=r.keys;have e1:(kvs.map (·.1))[i]?=(vs.map (·.1))[i]?:=by rw [this]
   rw [SK,SK,hx,hk] at e1;exact TU e1
  refine wpAny_pyNext_dict_item (k:=vs[i].1) (v:=vs[i].2) st dd hx λkey p jS aH sb=>?_;have I1:Ad X pins σ H { s with heap:=p }:=I.turned (t':=s.toks) (λb o hb e=>(sb.2 b hb).trans e) L f1 O Y f5;obtain ⟨o,e,c,d⟩:=Ax (id aH);exact ⟨_,rfl,Gp (s:={ s with heap:=p }) e c d (by decide) ⟨kV vs[i].1,H,I1,AdH jS,⟨rfl,kvs[i],hk,by rw [ke]⟩,aH,λb hb=>(B b hb).1⟩⟩
 done:=by intro X D hw J hc i pins s σ H E I B st g;subst D hw J;obtain ⟨L,f1,f2,O,Y,f5⟩:=AJ (B it (by simp));have dd:=d _ (I.bk _ _ (I.mod.bS _ _ l));have hl:=r.length;have g:kvs.length<=i:=g;exact wpAny_pyNext_dict_end (I.ok.hd hc) st dd (Zt (by omega)) λp eb=>⟨rfl,I.turned (t':=s.toks) (λb o hb e=>eb b o hb e) L f1 O Y f5⟩
 self:=λ_ _ _ _ _ st h=>wpAny_pyIter_keyiter st h
def iKd (P:R7)(w:R3)(K:R0)(tl:TE):TI:=λσ H R=>tl σ H λx H1=>∃ a kvs,x=.ref a/\EB P w K a kvs/\R (FV kvs) H1
theorem AdL {J l:R6}{tl:TE}(L:PE X l tl)(O:X.prog=P:=by rfl)(hw:X.w=w:=by rfl)(Y:X.K=K:=by rfl):PI X J l (iKd P w K tl):=by
 subst O hw Y;intro pins s σ H R I h;refine Al (L pins s σ H _ I h) λv g zz=>Az zz λx D p r1 B=>?_;replace B:=Bc B;obtain ⟨a,kvs,rfl,kd,q⟩:=B
 cases (show v=Sg a from r1);obtain ⟨o,vs,ep,lk,r,d⟩:=Cq kd.ki;have dd:=d _ (p.bk _ _ (p.mod.bS _ _ lk));refine wpAny_pyIter_dict kd.lo dd ?_;have I2:Ad X pins σ D { g with heap:=g.heap.push { cls:=.type "dict_keyiterator",data:=.fields #[.ref a,.int 0 0,.int vs.length 0,.int ep 0] } }:=p.kept (t':=g.toks) λb ob q=>Sq _ q;exact ⟨_,[g.heap.objs.size],_,FV kvs,D,rfl,I2,AdK lk r d,⟨_,SO _ rfl,rfl,rfl⟩,λb hb=>by
  have e:b=g.heap.objs.size:=by simpa using hb
  subst e;exact p.dY (Sh _) (p.aa.fresh (Sh _)),q⟩
end
section
variable {K:R0}{D:Addr}{kvs:List (Aq×V)}{g:TG}{tt:TT}{tk tv:TE}{σ0:St}{H:Hp}{Q:Hp->Prop}{a:Addr}{xs:List V}
abbrev KN (D:Addr)(tt:TT)(tk tv:TE)(N:St->Hp->Prop):St->Hp->Prop:=λσ3 H3=>tt σ3 H3 λb H4 =>
 if b=true then tk σ3 H4 λk H5=>tv σ3 H5 λv H6=>∃ kvs kk,k=kV kk/\H6 D=some (.dK kvs)/\kvs.length<sizeLine/\N σ3 (upd H6 D (.dK (By kvs kk v))) else N σ3 H4
theorem AdM (Pv:Nat->St->Hp->Prop)(h0:Pv 0 σ0 (upd H D (.dK [])))(hs:∀ i p σ d,kvs[i]?=some p->Pv i σ d->g (kV p.1) σ d (KN D tt tk tv (Pv (i+1))))(hd:∀ σ d,Pv kvs.length σ d->Q d) :
  ∃ W:Nat->Nat->St->Hp->Prop,(∃ m,W 0 m σ0 (upd H D (.dK [])))/\∀ i m σ' d,W i m σ' d ->
   ((FV kvs).stop i d/\Q d)\/((FV kvs).go i d/\∃ N:St->Hp->Prop,(∀ σ2 B,N σ2 B->∃ I,I<m/\W (i+1) I σ2 B)/\∀ x B,(FV kvs).bL i d x B->g x σ' B λσ3 H3=>tt σ3 H3 λb J =>
    if b=true then tk σ3 J λk H5=>tv σ3 H5 λv L=>∃ kvs O,k=kV O/\L D=some (.dK kvs)/\kvs.length<sizeLine/\N σ3 (upd L D (.dK (By kvs O v))) else N σ3 J):=by
 refine ⟨λi m σ H=>m=kvs.length - i/\i<=kvs.length/\Pv i σ H,⟨_,rfl,S7 _,h0⟩,?_⟩;rintro i m σ H1 ⟨rfl,hi,p⟩;by_cases Y:i<kvs.length
 .refine .inr ⟨Y,Pv (i+1),λσ' d p'=>⟨kvs.length - (i+1),by omega,rfl,Y,p'⟩,λx d y=>?_⟩;obtain ⟨e,c,hc,e2⟩:=y;subst e e2;exact hs i c σ _ hc p
 .have e:i=kvs.length:=by omega
  subst e;exact .inl ⟨Sh _,hd σ H1 p⟩
end
end L2
set_option maxHeartbeats 4000000
namespace L2
open PySem PySem.Spec PyProof.Rows Builtin Builtin.Str
theorem AdN {x:Str}{c i:Nat}:subAt x ⟨#[c]⟩ i=true↔x.cps.toList[i]?=some c:=by
 unfold subAt;show (x.cps.extract i (i+1) == #[c])=true↔_;rw [beq_iff_eq,<- sj,Array.toList_extract,List.extract_eq_take_drop];have e:i+1 - i=1:=by omega
 rw [e];rw [<- List.head?_drop];cases x.cps.toList.drop i with
 | nil=>simp
 | cons a r=>simp
theorem KO {x:Str}{c hi limit:Nat}:∀(n lo:Nat)(d:Array Nat)(free:Nat),d.size+n<=limit->free<=lo->(forIn (We lo n) (d,free) (XD x ⟨#[c]⟩ hi limit)).run.fst.toList=d.toList++(We lo n).filter λi=>decide (i+1<=hi) && subAt x ⟨#[c]⟩ i
 | 0,lo,d,free,_,_=>by simp
 | n+1,lo,d,free,B,p=>by
  rw [ZD,Yt,XE];unfold XD;have g:(⟨#[c]⟩:Str).length=1:=rfl;by_cases hc:lo+1<=hi/\subAt x ⟨#[c]⟩ lo=true
  .rw [if_pos ⟨⟨⟨by show d.size<limit;omega,p⟩,by rw [g];exact hc.1⟩,hc.2⟩,if_pos (by rw [Ug,decide_eq_true_eq];exact hc)];have:=KO (x:=x) (c:=c) (hi:=hi) (limit:=limit) n (lo+1) (d.push lo) (lo+1) (by rw [Array.size_push];omega) (Sh _);show (forIn (We (lo+1) n) (d.push lo,lo+1) (XD x ⟨#[c]⟩ hi limit)).run.fst.toList=_;rw [this,YN,To];rfl
  .rw [if_neg (λz=>hc ⟨by have:=z.1.2;rw [g] at this;exact this,z.2⟩),if_neg (by rw [Ug,decide_eq_true_eq];exact hc)];have:=KO (x:=x) (c:=c) (hi:=hi) (limit:=limit) n (lo+1) d free (by omega) (by omega);show (forIn (We (lo+1) n) (d,free) (XD x ⟨#[c]⟩ hi limit)).run.fst.toList=_;exact this
theorem OJ {x:Str}{c:Nat}:occurrences x ⟨#[c]⟩ 0 x.length (x.length+1)=(We 0 (x.length+1)).filter λi=>decide (i+1<=x.length) && subAt x ⟨#[c]⟩ i:=by rw [StrLaws.occ_eq,KO _ _ _ _ (by simp) (Sh _)];rfl
theorem OK {x:Str}{c i:Nat}:i∈occurrences x ⟨#[c]⟩ 0 x.length (x.length+1)↔x.cps.toList[i]?=some c:=by
 rw [OJ,Ul,Ug,decide_eq_true_eq,AdN,List.mem_range'_1];constructor
 .exact λh=>h.2.2
 .intro h;have d:i<x.cps.toList.length:=(TL.mp h).1;have e:x.cps.toList.length=x.length:=rfl;exact ⟨⟨S7 _,by omega⟩,by omega,h⟩
theorem AdO {x:Str}{c:Nat}:(occurrences x ⟨#[c]⟩ 0 x.length (x.length+1)).Pairwise (· < ·):=by rw [OJ];exact sr _ List.pairwise_lt_range'
theorem OL {x:Str}{c:Nat}:∀(B:List Nat)(a:Nat),B.Pairwise (· < ·)->(∀ i∈B,a<=i)->(∀ i,a<=i->x.cps.toList[i]?=some c->i∈B)->∀ p∈StrLaws.partsFrom x 1 a B,c ∉ p.cps.toList
 | [],a,_,_,h,p,hp=>by
  have e:p=strSub x a x.length:=SA.mp hp;rw [e,sv];intro m;obtain ⟨j,g⟩:=YW.mp (UC m);rw [sy] at g;exact absurd (h (a+j) (by omega) g) (by simp)
 | d :: r,a,up,lo,h,p,hp=>by
  have ld:=lo d SS;have D:=YE.mp up;rcases Si.mp hp with e | hp
  .rw [e,sv];intro m;obtain ⟨j,g⟩:=YW.mp m;rw [List.getElem?_take] at g;by_cases H:j<d - a
   .rw [if_pos H,sy] at g;rcases Si.mp (h (a+j) (by omega) g) with z | z
    .omega
    .have:=D.1 _ z;omega
   .rw [if_neg H] at g;cases g
  .refine OL r (d+1) D.2 (λi I=>D.1 i I) (λi I hx=>?_) p hp;rcases Si.mp (h i (by omega) hx) with z | z
   .omega
   .exact z
theorem AdP {x:Str}{c:Nat}(hc:c<256):∀ p∈Txt.split x ⟨#[c]⟩,c ∉ p.cps.toList:=by
 unfold Txt.split;split
 .rename_i h
  intro p hp;rw [SA.mp hp];rw [Bool.or_eq_true,decide_eq_true_eq,decide_eq_true_eq] at h;rcases h with h | h
  .have h:x.length<1:=h;have e:x.cps.toList=[]:=by
    have:x.cps.toList.length=x.length:=rfl;exact VR.mp (by omega)
   rw [e];simp
  .exfalso
   have e:WZ (⟨#[c]⟩:Str)=1:=by unfold WZ;rw [if_pos (by simp [hc])]
   rw [e] at h;unfold WZ at h;split at h
   .omega
   .split at h<;>omega
 .split
  .rename_i h
   intro p hp;rw [SA.mp hp];intro m;obtain ⟨j,d⟩:=YW.mp m;have:=OK.mpr d;rw [List.isEmpty_iff.mp h] at this;simp at this
  .rw [StrLaws.partsBetween_eq];exact OL _ 0 AdO (λ_ _=>S7 _) λi _ h=>OK.mpr h
theorem GR (x y:Str):(x++y).cps.toList=x.cps.toList++y.cps.toList:=by show (x.cps++y.cps).toList=_;exact Array.toList_append
theorem OM {x y:Str}(h:x.cps.toList=y.cps.toList):x=y:=by cases x;cases y;exact congrArg Str.mk (sj.mp h)
theorem ON {c:Nat}:∀{x y r s:List Nat},c ∉ x->c ∉ y->x++c :: r=y++c :: s->x=y/\r=s
 | [],[],r,s,_,_,e=>⟨rfl,(Vx e).2⟩
 | [],b :: y,r,s,_,hy,e=>absurd (by rw [(Vx e).1];exact SS) hy
 | a :: x,[],r,s,hx,_,e=>absurd (by rw [<- (Vx e).1];exact SS) hx
 | a :: x,b :: y,r,s,hx,hy,e=>by
  obtain ⟨d,g⟩:=Vx e;obtain ⟨p,B⟩:=ON (λm=>hx (SI _ m)) (λm=>hy (SI _ m)) g;exact ⟨by rw [d,p],B⟩
theorem OO {c:Nat}:∀{ps qs:List Str},ps≠[]->qs≠[]->(∀ p∈ps,c ∉ p.cps.toList)->(∀ q∈qs,c ∉ q.cps.toList)->S9 ⟨#[c]⟩ ps=S9 ⟨#[c]⟩ qs->ps=qs
 | [],_,h,_,_,_,_=>absurd rfl h
 | _,[],_,h,_,_,_=>absurd rfl h
 | [p],[q],_,_,_,_,e=>by rw [show p=q from e]
 | [p],q :: q' :: qs,_,_,hp,hq,e=>by
  exfalso
  have d:p=q++⟨#[c]⟩++S9 ⟨#[c]⟩ (q' :: qs):=e;refine hp p SS ?_;rw [d,GR,GR];simp
 | p :: p' :: ps,[q],_,_,hp,hq,e=>by
  exfalso
  have d:p++⟨#[c]⟩++S9 ⟨#[c]⟩ (p' :: ps)=q:=e;refine hq q SS ?_;rw [<- d,GR,GR];simp
 | p :: p' :: ps,q :: q' :: qs,_,_,hp,hq,e=>by
  have d:p++⟨#[c]⟩++S9 ⟨#[c]⟩ (p' :: ps)=q++⟨#[c]⟩++S9 ⟨#[c]⟩ (q' :: qs):=e;have g:=congrArg (λz:Str=>z.cps.toList) d;simp only [GR] at g;have B:p.cps.toList++c :: (S9 ⟨#[c]⟩ (p' :: ps)).cps.toList=q.cps.toList++c :: (S9 ⟨#[c]⟩ (q' :: qs)).cps.toList:=by simpa using g
  obtain ⟨D,H⟩:=ON (hp p SS) (hq q SS) B;have:=OO (ps:=p' :: ps) (qs:=q' :: qs) (by simp) (by simp) (λz m=>hp z (SI _ m)) (λz m=>hq z (SI _ m)) (OM H);rw [OM D,this]
theorem AdQ {c:Nat}{rows:List Str}(hc:c<256)(d:rows≠[])(h:∀ r∈rows,c ∉ r.cps.toList):Txt.split (S9 ⟨#[c]⟩ rows) ⟨#[c]⟩=rows:=by refine OO (c:=c) ?_ d (AdP hc) h (YX _ _);intro z;have:=split_pos (S9 ⟨#[c]⟩ rows) ⟨#[c]⟩;rw [z] at this;simp at this
theorem OP:∀{vs:List Value}{zs:List Str},UU vs zs->∃ l:List (Str×Tok),strValues l=vs/\l.map (·.1)=zs
 | _,_,.nil=>⟨[],rfl,rfl⟩
 | _,_,.cons x t h=>by
  obtain ⟨l,d,g⟩:=Am (OP h);exact ⟨(x,t) :: l,by rw [<- d];rfl,by rw [<- g];rfl⟩
section
variable {X:Cx}
theorem FW:JZ X "str.join" (λx vs H Q=>∃(sep:Str)(p:Addr)(zs:List Str),x=.str sep/\vs=[.ref p]/\AZ X.K H p (zs.map V.str)/\(zs.map (·.length)).sum+zs.length<=1000000/\sep.length<=16/\Q (.str (S9 sep zs)) H):=by
 intro pins s σ H x xs v us Q I d r h;replace h:=Em h;obtain ⟨sep,p,zs,rfl,rfl,hp,hz,g,q⟩:=h
 obtain ⟨t,rfl⟩:=d;obtain ⟨u,rfl,B⟩:=Am (Ar.one r);cases (show u=Sg p from B);obtain ⟨its,D,pl,_⟩:=Ax (I.list hp);have J:=Ih D;obtain ⟨l,L,O⟩:=Am (OP J);refine SC.join (l:=l) (texts:=zs) (by rw [L];exact pl.isList) O (joinOk_of_weight (by omega) g) λY k=>?_;refine ⟨.str (S9 sep zs),H,I.tok _,⟨Y,?_⟩,q⟩;rw [<- StrLaws.glued_eq_join];rfl
theorem FX:JZ X "str.split" (λx vs H Q=>∃ z sep:Str,x=.str z/\vs=[.str sep]/\(sep.length == 0)=false/\z.length<=1000000/\∀ l,H l=none->Q (.ref l) (upd H l (.lst ((Txt.split z sep).map V.str)))):=by
 intro pins s σ H x O v Y Q I J r h;replace h:=FA h;obtain ⟨z,sep,rfl,rfl,D,hz,q⟩:=h
 obtain ⟨t,rfl⟩:=J;obtain ⟨u,rfl,L⟩:=Am (Ar.one r);obtain ⟨g,rfl⟩:=L;have p:z.length+2<=sizeLine:=by rw [R8];omega
 have B:((Txt.split z sep).map V.str).length<=sizeLine:=by rw [R5];exact Sy (split_le z sep) p
 have d:∀(l:List (Str×Tok))(k:Nat),l.map (·.1)=Txt.split z sep->EP X pins σ Q (.ref s.heap.objs.size) { s with heap:=s.heap.push { cls:=.type "list",data:=.seq (strValues l).toArray },toks:=k }:=λl k e =>
  ⟨.ref s.heap.objs.size,_,I.iO (t':=k) (by rw [<- e];exact Ea (strsAre_of_values l)) B,rfl,q _ I.fresh⟩
 have hn:(partsBetween z (occurrences z sep 0 z.length (z.length+1)) sep.length).length<=sizeLine:=by have e1:=StrLaws.occ_length_le z sep 0 z.length (z.length+1);rw [length_partsBetween];omega
 cases h1:(decide (z.length<sep.length) || decide (WZ z<WZ sep))
 .cases hf:(occurrences z sep 0 z.length (z.length+1)).isEmpty
  .refine VO YY (VM _ _ _) YZ (Y0 _ _) (meets_str_split_sep z sep t g h1 D hf (by omega) hn) ?_;show wants _ _ _ { s with toks:=_,heap:=s.heap.push { cls:=.type "list",data:=.seq (strsFrom s.toks (partsBetween z (occurrences z sep 0 z.length (z.length+1)) sep.length)).toArray } };rw [strsFrom_eq];exact d (numbered s.toks _) _ ((numbered_texts _ _).trans ((if_neg (ne_true_of_eq_false h1)).trans (if_neg (ne_true_of_eq_false hf))).symm)
  .exact VO YY (VM _ _ _) YZ (Y0 _ _) (meets_str_split_not_found z sep t g h1 D hf)
    (d [(z,t)] s.toks ((if_neg (ne_true_of_eq_false h1)).trans (if_pos hf)).symm)
 .exact VO YY (VM _ _ _) YZ (Y0 _ _) (meets_str_split_cannot_occur z sep t g h1)
   (d [(z,t)] s.toks (if_pos h1).symm)
end
end L2
namespace L2
open PySem PySem.Spec PyProof.Rows
section
variable {K:R0}{a D:Addr}{xs:List V}{g:TG}{tt:TT}{te:TE}{σ0:St}{H:Hp}{Q:Hp->Prop}
end
section
variable {prog:R7}{w:R3}{A:Sj}{E:Value->RY->Prop}{s:RY}
theorem AdR {j t:Addr}{i:Nat}{its:Array Value}{x:Value}{Q:Value->RY->Prop}(B:s.heap.IsTupleIter j t i)(D:s.heap.IsTuple t its)(hx:its[i]?=some x)(q:∀ g,g.IsTupleIter j t (i+1)->S4 j s.heap g->Q x { s with heap:=g }):R1 (R4 prog w) A (W0 (.ref j)) Q E s:=by obtain ⟨o,p,H,d⟩:=Ax (id B);obtain ⟨u,f1,_,n,I⟩:=Ax D;unfold W0;refine RZ (UZ (name:=Sa "__next__") B.typeIs XF (T1 XF B.typeIs sH ?_ (sI _)));show R1 _ _ (UD (.ref j) 0 >>= _) _ _ s;refine RZ (T2 p d (x:=.ref t) rfl ?_);show R1 _ _ (if (Sg t == SW)=true then _ else _) _ _ s;rw [if_neg (show ¬ ((Sg t == SW)=true) from S8)];show R1 _ _ (UD (.ref j) 1 >>= _) _ _ s;refine RZ (T2 p d (x:=.int i 0) rfl ?_);show R1 _ _ (XC (.ref t) >>= _) _ _ s;refine RZ (WY f1 I ?_);simp only [T8,hx];refine RZ (Vw p d (by simp) (Sb ⟨x,rfl,Sb (q _ ⟨_,Vn _ p (Obj.isFreed_of_fields (sJ d _)),(Obj.cls_mapFields ..).trans H,?_⟩ (VW ..))⟩));rw [sJ d];simp [Tc]
theorem OQ {j t:Addr}{i:Nat}{its:Array Value}{Q:Value->RY->Prop}(D:A.handled=none)(d:s.heap.IsTupleIter j t i)(H:s.heap.IsTuple t its)(hx:its[i]?=none)(q:∀ g e,Heap.ExtBut j s.heap g->(∃ o,g.get? e=some o/\o.cls=.type "StopIteration")->E (.ref e) { s with heap:=g }):R1 (R4 prog w) A (W0 (.ref j)) Q E s:=by
 obtain ⟨o,p,J,B⟩:=Ax (id d);obtain ⟨u,f1,_,n,I⟩:=Ax H;unfold W0;refine RZ (UZ (name:=Sa "__next__") d.typeIs XF (T1 XF d.typeIs sH ?_ (sI _)));show R1 _ _ (UD (.ref j) 0 >>= _) _ _ s;refine RZ (T2 p B (x:=.ref t) rfl ?_);show R1 _ _ (if (Sg t == SW)=true then _ else _) _ _ s;rw [if_neg (show ¬ ((Sg t == SW)=true) from S8)];show R1 _ _ (UD (.ref j) 1 >>= _) _ _ s;refine RZ (T2 p B (x:=.int i 0) rfl ?_);show R1 _ _ (XC (.ref t) >>= _) _ _ s;refine RZ (WY f1 I ?_);simp only [T8,hx];refine RZ (Vp (RZ (Vw p B (by simp) ?_)));show R1 _ _ (newExc (.type "StopIteration") [] >>= _) _ _ _;refine RZ ?_;simp only [newExc,newTuple];refine RZ (UT ?_ (by size_fits));refine RZ (m:=XA _ _) (YR (a:=SW) (by first | rfl | (simp only [XA];rfl)) ?_);refine UT ?_ (by size_fits);simp only [raiseNew];refine RZ (wpAny_handled ?_);first | rw [show A.in1.handled=none from D] | rw [D]
 refine RZ (Sb (wpAny_throw ?_));exact q _ _ (((VW ..).extBut.push _).push _) ⟨_,SO _ rfl,rfl⟩
theorem AdS {e j t:Addr}{i:Nat}{its:Array Value}{x d:Value}{Q:Value->RY->Prop}(he:Uu s.heap e j i d)(hj:s.heap.IsTupleIter j t i)(ht:s.heap.IsTuple t its)(hx:its[i]?=some x)(ne:e≠j)(q:∀ g,XG g e j ((i:Int)+1) x s.heap.objs.size->g.IsTupleIter j t (i+1)->g.get? s.heap.objs.size=some { cls:=.type "tuple",data:=.seq #[.int i s.toks,x] }->g.objs.size=s.heap.objs.size+1 ->
   (∀ b o,b≠e->b≠j->s.heap.get? b=some o->g.get? b=some o)->Q (.ref s.heap.objs.size) { s with heap:=g,toks:=s.toks+1 }) :
  R1 (R4 prog w) A (Builtin.«enumerate.__next__» ⟨[.ref e],[]⟩) (λfin s'=>∃ v,fin=.done (.ret v)/\Q v s') E s:=by
 obtain ⟨hp,B,D,p,os⟩:=s;show R1 _ _ (UD (.ref e) 2 >>= _) _ _ _;refine RZ (T2 he rfl (x:=.ref j) rfl (RZ (AdR hj ht hx λH j1 L=>?_)));replace L:S4 j hp H:=L
 have E1:Uu H e j i d:=(L.2 e ne).trans he;show R1 _ _ (UD (.ref e) 3 >>= _) _ _ ⟨H,B,D,p,os⟩;refine RZ (T2 E1 rfl (x:=Tc i) rfl ?_);show R1 _ _ (UD (.ref e) 4 >>= _) _ _ ⟨H,B,D,p,os⟩;refine RZ (T2 E1 rfl (x:=.none) rfl ?_);show R1 _ _ (mkInt i >>= _) _ _ ⟨H,B,D,p,os⟩;refine RZ (wpAny_mkInt ?_);show R1 _ _ (setField (.ref e) 3 (Tc ((i:Int)+1)) >>= _) _ _ ⟨H,B,D,p+1,os⟩;refine RZ (VY E1 (by simp) λa2 E2 O=>?_);replace O:S4 e H a2:=O
 replace E2:Uu a2 e j ((i:Int)+1) d:=E2
 show R1 _ _ (setField (.ref e) 4 .none >>= _) _ _ ⟨a2,B,D,p+1,os⟩;refine RZ (VY E2 (by simp) λI E3 V=>?_);replace V:S4 e a2 I:=V
 replace E3:Uu I e j ((i:Int)+1) d:=E3
 show R1 _ _ (newTuple [.int i p,x] >>= _) _ _ ⟨I,B,D,p+1,os⟩;refine RZ (YI ?_);have E4:Uu (I.push { cls:=.type "tuple",data:=.seq #[.int i p,x] }) e j ((i:Int)+1) d:=Sq _ E3;generalize e4:I.push { cls:=.type "tuple",data:=.seq #[.int i p,x] }=Y at E4;have z3:I.objs.size=hp.objs.size:=by rw [V.1,O.1,L.1]
 have le:e<hp.objs.size:=So he;have T4:Y.get? hp.objs.size=some { cls:=.type "tuple",data:=.seq #[.int i p,x] }:=by rw [<- e4,<- z3];exact SO _ rfl
 have z4:Y.objs.size=hp.objs.size+1:=by rw [<- e4,Tb,z3]
 have k4:∀ b o,b≠e->b≠j->hp.get? b=some o->Y.get? b=some o:=λb o J n2 hb=>by
  rw [<- e4];exact Sq _ (V.extBut b o J (O.extBut b o J (L.extBut b o n2 hb)))
 have j4:Y.IsTupleIter j t (i+1):=by rw [<- e4];obtain ⟨o,ho,r⟩:=Am ((j1.extBut O.extBut (S3 ne)).extBut V.extBut (S3 ne));exact ⟨o,Sq _ ho,r⟩
 show R1 _ _ (XH (.ref e) >>= _) _ _ ⟨Y,B,D,p+1,os⟩;rw [z3];clear e4 E3 V E2 O E1 L j1 z3 I a2 H
 refine RZ ?_;unfold XH;refine RZ (T2 E4 rfl (x:=.none) rfl (Sb ?_));simp only [if_true];refine RZ (Vp (RZ (T2 E4 rfl (x:=d) rfl (RZ (VY E4 (by simp) λa5 E5 s5=>?_)))));replace s5:S4 e Y a5:=s5
 replace E5:Uu a5 e j ((i:Int)+1) x:=E5
 show R1 _ _ (sL (.ref e) (.ref hp.objs.size) >>= _) _ _ ⟨a5,B,D,p+1,os⟩;refine RZ ?_;unfold sL;refine RZ (VY E5 (by simp) λa6 E6 s6=>?_);replace s6:S4 e a5 a6:=s6
 replace E6:XG a6 e j ((i:Int)+1) x hp.objs.size:=E6
 refine VY E6 (by simp) λa7 E7 s7=>?_;replace s7:S4 e a6 a7:=s7
 replace E7:XG a7 e j ((i:Int)+1) x hp.objs.size:=E7
 refine RZ (wpAny_letGo (Sb ⟨_,rfl,q a7 E7 ?_ ?_ ?_ ?_⟩))
 .exact ((j4.extBut s5.extBut (S3 ne)).extBut s6.extBut (S3 ne)).extBut s7.extBut (S3 ne)
 .exact s7.extBut _ _ (T6 le) (s6.extBut _ _ (T6 le) (s5.extBut _ _ (T6 le) T4))
 .rw [s7.1,s6.1,s5.1,z4]
 .exact λb o J n2 hb=>s7.extBut b o J (s6.extBut b o J (s5.extBut b o J (k4 b o J n2 hb)))
theorem AdT {e j t:Addr}{i:Nat}{its:Array Value}{x p:Value}{Q:Option Value->RY->Prop}(B:Uu s.heap e j i p)(D:s.heap.IsTupleIter j t i)(H:s.heap.IsTuple t its)(hx:its[i]?=some x)(ne:e≠j)(q:∀ g,XG g e j ((i:Int)+1) x s.heap.objs.size->g.IsTupleIter j t (i+1)->g.get? s.heap.objs.size=some { cls:=.type "tuple",data:=.seq #[.int i s.toks,x] }->g.objs.size=s.heap.objs.size+1 ->
   (∀ b o,b≠e->b≠j->s.heap.get? b=some o->g.get? b=some o)->Q (some (.ref s.heap.objs.size)) { s with heap:=g,toks:=s.toks+1 }):R1 (R4 prog w) A (Tg (.ref e)) Q E s:=by
 have ty:s.TypeIs (.ref e) "enumerate":=⟨_,B,rfl⟩;unfold Tg;exact RZ (VX (UZ (name:=Sa "__next__") ty XI (T1 XI ty sM (AdS B D H hx ne λg a b c d k=>Sb (q g a b c d k)) (sN _))))
theorem AdU {e j t:Addr}{i:Nat}{its:Array Value}{d:Value}{Q:Option Value->RY->Prop}(B:A.handled=none)(p:Uu s.heap e j i d)(D:s.heap.IsTupleIter j t i)(H:s.heap.IsTuple t its)(hx:its[i]?=none)(q:∀ g,Heap.ExtBut j s.heap g->Q none { s with heap:=g }):R1 (R4 prog w) A (Tg (.ref e)) Q E s:=by have ty:s.TypeIs (.ref e) "enumerate":=⟨_,p,rfl⟩;unfold Tg;refine RZ (VX (UZ (name:=Sa "__next__") ty XI (T1 XI ty sM ?_ (sN _))));show R1 _ _ (UD (.ref e) 2 >>= _) _ _ _;refine RZ (T2 p rfl (x:=.ref j) rfl (RZ (OQ B D H hx λg y I J=>Cp J λo L hc=>?_)));exact RZ (WX (T:="StopIteration") (b:=true) ⟨o,L,hc⟩ XB (Sb (q _ I)))
end
theorem AdV (t:Addr)(its:Array Value)(o:Obj)(hc:o.cls=.type "tuple")(n:Nat)(hd:o.data=.seq its n) :
  Meets (Builtin.«enumerate.__new__» ⟨[.type "enumerate",.ref t],[]⟩) (λ_ R s=>s.heap.get? t=some o /\
   R (.ok (.ret (.ref (s.heap.push { cls:=.type "tuple_iterator",data:=.fields #[.ref t,.int 0 0] }).objs.size)))
    { s with heap:=(s.heap.push { cls:=.type "tuple_iterator",data:=.fields #[.ref t,.int 0 0] }).push { cls:=.type "enumerate",data:=.fields #[.none,.bool false,.ref s.heap.objs.size,Tc 0,.none,.none] } }) :=
 .of_wp λprog w A R s h=>by
  obtain ⟨c,J,p,L⟩:=o;replace hc:c=.type "tuple":=hc
  replace hd:p=.seq its n:=hd
  subst hc hd;obtain ⟨hp,B,D,H,os⟩:=s;obtain ⟨d,h⟩:=h;have I:=sub_enumerate;have g:Heap.IsTuple (Y1 ⟨hp,B,D,H,os⟩) t its:=⟨_,d,rfl,n,rfl⟩;wp_walk using Y2 d
  refine wpAny_stack_any λst=>Sb ?_;split
  .rename_i c _ _ _ _ _
   cases (c == UG "enumerate")<;>(wp_walk using Y2 d,Xa g;exact ⟨_,rfl,h⟩)
  .wp_walk using Y2 d,Xa g
   exact ⟨_,rfl,h⟩
section
variable {prog:R7}{w:R3}{A:Sj}{E:Value->RY->Prop}{s:RY}
theorem AdW {t:Addr}{its:Array Value}{Q:Value->RY->Prop}(B:s.heap.IsTuple t its)(h:∀ g,Uu g (s.heap.objs.size+1) s.heap.objs.size 0 .none->g.IsTupleIter s.heap.objs.size t 0->g.objs.size=s.heap.objs.size+2->(∀ b o,s.heap.get? b=some o->g.get? b=some o)->Q (.ref (s.heap.objs.size+1)) { s with heap:=g }) :
  R1 (R4 prog w) A (call (.type "enumerate") [.ref t]) Q E s:=by
 obtain ⟨o,D,hc,n,hd⟩:=Ax B;refine callType_new F.called_enumerate (by decide) (F.typeCall_enumerate_1 _) (F.newCall_enumerate_1 _) (λobj=>F.args_object_init_2 obj _) F.entry_enumerate_new (AdV t its o hc n hd) ⟨D,?_⟩;have d:(s.heap.push { cls:=.type "tuple_iterator",data:=.fields #[.ref t,.int 0 0] }).objs.size=s.heap.objs.size+1:=Tb ..;show _/\_;rw [d];have p:Uu ((s.heap.push { cls:=.type "tuple_iterator",data:=.fields #[.ref t,.int 0 0] }).push { cls:=.type "enumerate",data:=.fields #[.none,.bool false,.ref s.heap.objs.size,Tc 0,.none,.none] }) (s.heap.objs.size+1) s.heap.objs.size 0 .none:=by have:=SO (s.heap.push { cls:=.type "tuple_iterator",data:=.fields #[.ref t,.int 0 0] }) (o:={ cls:=.type "enumerate",data:=.fields #[.none,.bool false,.ref s.heap.objs.size,Tc 0,.none,.none] }) rfl;rw [d] at this;exact this
 exact ⟨⟨_,p,rfl⟩,h _ p ⟨_,Sq _ (SO _ rfl),rfl,rfl⟩ (by rw [Tb,d]) λb o x=>Sq _ (Sq _ x)⟩
end
section
variable {X:Cx}{pins:List (Addr×Obj)}{σ:St}{H:Hp}{s:RY}{h':Heap}
noncomputable def GS (K:R0)(a:Addr):It :=
 ⟨λi H=>∃ xs x,A5 K H a xs/\xs[i]?=some x,λi H x H'=>∃ t y,x=.ref t/\H t=none/\H'=upd H t (.tup [.int i,y])/\∀ xs,A5 K H a xs->xs[i]?=some y,λi H=>∃ xs,A5 K H a xs/\xs.length<=i⟩
theorem AdX {P:R7}{w:R3}{K:R0}{J:List R6}{kk:Nat}{pos:Pos}(a e it:Addr)(ou:e≠it):Eo P w K (.Tuple J kk pos) (GS K a) [e,it] e (λi h=>(∃ g,Uu h e it i g)/\h.IsTupleIter it a i) where
 mem:=by simp
 obj:=λi h st b hb=>by
  obtain ⟨⟨g,B⟩,⟨o,O,c,d⟩⟩:=st;rcases Si.mp hb with z | z
  .subst z;exact ⟨_,B,λv z=>by cases z⟩
  .have z:b=it:=by simpa using z
   subst z;exact ⟨o,O,λv z=>by rw [d] at z;cases z⟩
 keep:=λi h h' st k=>by
  obtain ⟨⟨g,B⟩,hi⟩:=st;exact ⟨⟨g,k e (by simp) _ B⟩,hi.at λo q=>k it (by simp) o q⟩
 item:=by
  intro X V hw Y hc i pins s σ H E I L st hg;subst V hw Y;obtain ⟨xs,x,hq,hx⟩:=Bi hg;obtain ⟨its,rv,p,hz⟩:=Ax (I.tuple hq);obtain ⟨u,hu,ru⟩:=Am (rv.get hx);obtain ⟨⟨g,B⟩,D⟩:=st;refine AdT B D p (x:=u) (by simpa using hu) ou λh' O aaP hT hsz hk=>⟨_,rfl,?_⟩;have I1:Ad X pins σ (upd H s.heap.objs.size (.tup [.int i,x])) { s with heap:=h',toks:=s.toks+1 } :=
   I.aaF (ch:=[e,it]) (us:=[.int i s.toks,u]) L (λb o hb q=>hk b o (λz=>hb (by simp [z])) (λz=>hb (by simp [z])) q) (Sh _)
    (λb hb=>by
     rcases Si.mp hb with z | z
     .subst z;exact ⟨_,B⟩
     .have z:b=it:=by simpa using z
      subst z;obtain ⟨o,q,_⟩:=Am D;exact ⟨o,q⟩) hT (.cons ⟨_,rfl⟩ (.cons ru .nil)) AA
  have fr:∀ b∈[e,it],(upd H s.heap.objs.size (.tup [.int i,x])) b=none:=λb hb=>by
   have ai:b<s.heap.objs.size:=by
    rcases Si.mp hb with z | z
    .subst z;exact So B
    .have z:b=it:=by simpa using z
     subst z;obtain ⟨o,q,_⟩:=Am D;exact So q
   rw [Ak (Sw ai)];exact (L b hb).1
  refine wpAny_letOwnedTupleGo_enum O λh2 he2 c5=>?_;obtain ⟨f0,f1,f2,f3,f4,f5⟩:=AJ (L e (by simp));have I2:Ad X pins σ (upd H s.heap.objs.size (.tup [.int i,x])) { s with heap:=h2,toks:=s.toks+1 }:=I1.turned (t':=s.toks+1) (λb o hb q=>(c5.2 b hb).trans q) (fr e (by simp)) f1 f3 f4 f5;refine ⟨.ref s.heap.objs.size,_,I2,rfl,⟨_,x,rfl,I.fresh,rfl,λys hy=>by rw [I.m6 hy hq];exact hx⟩,⟨⟨u,he2⟩,?_⟩,fr⟩;exact aaP.at λo q=>(c5.2 it ou.symm).trans q
 done:=by intro X V hw Y hc i pins s σ H E I L st hg;subst V hw Y;obtain ⟨xs,hq,hx⟩:=Am hg;obtain ⟨its,rv,p,hz⟩:=Ax (I.tuple hq);obtain ⟨⟨g,B⟩,D⟩:=st;obtain ⟨f0,f1,f2,f3,f4,f5⟩:=AJ (L it (by simp));have hl:=rv.length;exact AdU (I.ok.hd hc) B D p (by simp;omega) λh' eb=>⟨rfl,I.turned (t':=s.toks) (λb o hb q=>eb b o hb q) f0 f1 f3 f4 f5⟩
 self:=λ_ _ _ _ _ st h=>by
  obtain ⟨⟨g,B⟩,_⟩:=st;exact sO B h
def AdY (K:R0)(ta:TA):TI:=λσ H R=>ta σ H λvs H1=>∃ a xs,vs=[.ref a]/\A5 K H1 a xs/\R (GS K a) H1
theorem AdZ {x:R6}{O:TA}{p pos tp:Pos}{D:List R6}{kk:Nat}(g:Gm X.env.scope "enumerate")(hm:X.mg "enumerate"=none)(ha:PA X [x] O)(hs:Se [x] X.env=[(false,Sf x X.env)]:=by rfl) :
  PI X (.Tuple D kk tp) (.Call (.Name "enumerate" p) [x] [] pos) (AdY X.K O):=by
 intro pins s σ H R I h;refine Call_ (EU I g.gl hm Acv (WA (Al (ha pos pins s σ H _ I h) λus d zz=>Az zz λvs V B r1 q1=>?_) hs rfl));obtain ⟨a,xs,e,hq,q⟩:=Bc q1;subst e;cases r1 with
 | cons r rr =>
  cases rr;cases r;obtain ⟨its,rv,pl,hz⟩:=Ax (B.tuple hq);refine AdW pl λh' Y J hsz hk=>?_;refine sO Y ?_;have L:V (d.heap.objs.size+1)=none:=B.aa.fresh (Tr _);refine ⟨d.heap.objs.size+1,[d.heap.objs.size+1,d.heap.objs.size],_,_,V,rfl,B.kept (t':=d.toks) hk,AdX a _ _ (Xs _),⟨⟨_,Y⟩,J⟩,λb hb=>?_,q⟩;rcases Si.mp hb with z | z
  .subst z;exact B.dY (Tr _) L
  .have z:b=d.heap.objs.size:=by simpa using z
   subst z;exact B.dY (Sh _) B.fresh
end
section
variable {K:R0}{a D:Addr}{xs:List V}{g:TG}{tt:TT}{tk tv:TE}{σ0:St}{H:Hp}{Q:Hp->Prop}
theorem Ad0 (Pv:Nat->St->Hp->Prop)(h0:Pv 0 σ0 (upd H D (.dK [])))(hl:∀ i σ H,i<=xs.length->Pv i σ H->A5 K H a xs)(hs:∀ i x t σ d,xs[i]?=some x->Pv i σ d->d t=none->g (.ref t) σ (upd d t (.tup [.int i,x])) (KN D tt tk tv (Pv (i+1))))(hd:∀ σ d,Pv xs.length σ d->Q d) :
  ∃ W:Nat->Nat->St->Hp->Prop,(∃ m,W 0 m σ0 (upd H D (.dK [])))/\∀ i m σ' d,W i m σ' d ->
   ((GS K a).stop i d/\Q d)\/((GS K a).go i d/\∃ N:St->Hp->Prop,(∀ σ2 B,N σ2 B->∃ J,J<m/\W (i+1) J σ2 B)/\∀ x B,(GS K a).bL i d x B->g x σ' B λσ3 H3=>tt σ3 H3 λb L =>
    if b=true then tk σ3 L λk H5=>tv σ3 H5 λv O=>∃ kvs Y,k=kV Y/\O D=some (.dK kvs)/\kvs.length<sizeLine/\N σ3 (upd O D (.dK (By kvs Y v))) else N σ3 L):=by
 refine ⟨λi m σ H=>m=xs.length - i/\i<=xs.length/\Pv i σ H,⟨xs.length,by simp,S7 _,h0⟩,?_⟩;rintro i m σ I ⟨rfl,hi,p⟩;have q:=hl i σ I hi p;by_cases ai:i<xs.length
 .refine .inr ⟨⟨xs,xs[i],q,by simp [ai]⟩,Pv (i+1),λσ' d p'=>⟨xs.length - (i+1),by omega,rfl,ai,p'⟩,λx d y=>?_⟩;replace y:=Bc y;obtain ⟨t,y,rfl,ht,rfl,hy⟩:=y
  exact hs i y t σ I (hy xs q) p ht
 .have e:i=xs.length:=by omega
  subst e;exact .inl ⟨⟨xs,q,Sh _⟩,hd σ I p⟩
theorem Ad1 (Pv:Nat->St->Hp->Prop)(h0:Pv 0 σ0 (upd H D (.dK [])))(hl:∀ i σ H,i<=xs.length->Pv i σ H->A5 K H a xs)(hs:∀ i x σ d,xs[i]?=some x->Pv i σ d->g x σ d (KN D tt tk tv (Pv (i+1))))(hd:∀ σ d,Pv xs.length σ d->Q d) :
  ∃ W:Nat->Nat->St->Hp->Prop,(∃ m,W 0 m σ0 (upd H D (.dK [])))/\∀ i m σ' d,W i m σ' d ->
   ((Gq K a).stop i d/\Q d)\/((Gq K a).go i d/\∃ N:St->Hp->Prop,(∀ σ2 B,N σ2 B->∃ I,I<m/\W (i+1) I σ2 B)/\∀ x B,(Gq K a).bL i d x B->g x σ' B λσ3 H3=>tt σ3 H3 λb J =>
    if b=true then tk σ3 J λk H5=>tv σ3 H5 λv L=>∃ kvs O,k=kV O/\L D=some (.dK kvs)/\kvs.length<sizeLine/\N σ3 (upd L D (.dK (By kvs O v))) else N σ3 J):=by
 refine ⟨λi m σ H=>m=xs.length - i/\i<=xs.length/\Pv i σ H,⟨xs.length,by simp,S7 _,h0⟩,?_⟩;rintro i m σ Y ⟨rfl,hi,p⟩;have q:=hl i σ Y hi p;by_cases ai:i<xs.length
 .refine .inr ⟨⟨xs,xs[i],q,by simp [ai]⟩,Pv (i+1),λσ' d p'=>⟨xs.length - (i+1),by omega,rfl,ai,p'⟩,λx d y=>?_⟩;obtain ⟨rfl,hy⟩:=y;exact hs i x σ _ (hy xs q) p
 .have e:i=xs.length:=by omega
  subst e;exact .inl ⟨⟨xs,q,Sh _⟩,hd σ Y p⟩
end
section
variable {X:Cx}{CX:BA}{k:Nat}{cs:List Addr}{ps:List Str}{sp:Sp}{E:XK}{m:Str}{pos apos:Pos}{e o:R6}{es:List R6}{ta:TE}{t:TA}
end
def Fm (P:WI):List WK->List (Str×V)->Prop
 | [],[]=>True
 | e :: r,p :: kvs=>(∃ t,e.key=.str p.1 t)/\e.hash=PyData.keyHash P p.1/\AB p.2 e.val/\Fm P r kvs
 | _,_=>False
theorem OR {P:R7}{w:R3}:∀{es:List WK}{kvs:List (Str×V)},Fm w.params es kvs->∃ vs:List (Aq×Value),KV (kvs.map λp=>(SM p.1,p.2)) vs/\Pairs (Bp P w) es vs/\∀ e∈es,∃ k,(Bp P w).is k e.key=true/\e.hash=(Bp P w).hash k
 | [],[],_=>⟨[],.nil,.nil,λe m=>absurd m (by simp)⟩
 | [],_ :: _,h=>h.elim
 | _ :: _,[],h=>h.elim
 | e :: es,p :: kvs,h=>by
  obtain ⟨⟨t,g⟩,B,D,H⟩:=AJ h;obtain ⟨vs,r,q,m⟩:=Ax (OR (P:=P) H);have d:(Bp P w).is (.inr p.1) e.key=true:=by rw [g];exact FC P w p.1 t
  refine ⟨(.inr p.1,e.val) :: vs,.cons ⟨rfl,D⟩ r,.cons d rfl q,λx hx=>?_⟩;rcases Si.mp hx with z | z
  .exact ⟨.inr p.1,by rw [z];exact d,by rw [z];exact B⟩
  .exact m x z
theorem Im {P:R7}{w:R3}{K:R0}{a:Addr}{es:Array WK}{n:Nat}{kvs:List (Str×V)}(lo:(a == Tv)=false)(l:K.lookup a=some ⟨.type "dict",none,.dict es n,#[]⟩)(h:Fm w.params es.toList kvs)(d:(kvs.map (·.1)).Nodup)(sz:kvs.length<=1000) :
  EB P w K a (kvs.map λp=>(SM p.1,p.2)):=by
 obtain ⟨vs,r,q,m⟩:=Ax (OR (P:=P) h);refine ⟨lo,by rw [R5,R8];omega,_,vs,n,l,r,λhp g=>⟨_,es,g,⟨rfl,rfl,rfl⟩,rfl,λe B=>m e (Ze.mpr B),q,?_⟩⟩;rw [<- r.keys,Tt];have:(kvs.map ((·.1)∘λp:Str×V=>((SM p.1:Aq),p.2)))=(kvs.map (·.1)).map (SM:Str->Aq):=by rw [Tt];rfl
 rw [this];exact Wg.mpr (d.imp λh z=>h (Ub z))
section
variable {X:Cx}
end
section
variable {X:Cx}
def Ad2 (K:R0)(ta tb:TE):TE:=λσ H Q=>ta σ H λx H1=>∃ c,JR K x H1 c/\if c=true then Q x H1 else tb σ H1 Q
theorem Ad3 {a b:R6}{rest:List R6}{pos:Pos}{p B:TE}(O:PE X a p)(hb:PE X (.BoolOp .Or (b :: rest) pos) B):PE X (.BoolOp .Or (a :: b :: rest) pos) (Ad2 X.K p B):=by
 intro pins s σ H Q I h;refine BoolOp_or (Al (O pins s σ H _ I h) λv V Y=>Az Y λx D I1 J d=>?_);replace d:=Am d;obtain ⟨c,hc,d⟩:=d
 refine Al (Nb pins V σ D x v (λk g=>k=c/\g=D) I1 J ⟨c,hc,rfl,rfl⟩) λk s2 e=>?_;replace e:=Ax e;obtain ⟨g,L,rfl,rfl⟩:=e
 cases k with
 | false=>exact hb pins s2 σ g Q L d
 | true=>exact ⟨x,g,L,J,d⟩
end
section
variable {prog:R7}{w:R3}{A:Sj}{E:Value->RY->Prop}{s:RY}
theorem Ad4 {z u v i j t:Addr}{its:Array Value}{k:Nat}{Q:Fin->RY->Prop}(V:A.handled=none)(d:VZ s.heap z u v .none)(hu:V0 s.heap u (.ref i) (.ref j))(hi:s.heap.IsTupleIter i t k)(Y:s.heap.IsTuple t its)(hx:its[k]?=none)(H:i≠z)(nt:t≠z)(q:∀ g e,(∀ c o,c≠z->c≠i->s.heap.get? c=some o->g.get? c=some o)->(∃ o,g.get? e=some o/\o.cls=.type "StopIteration")->E (.ref e) { s with heap:=g }):R1 (R4 prog w) A (Builtin.«zip.__next__» ⟨[.ref z],[]⟩) Q E s:=by
 refine RZ (m:=UD (.ref z) 2) (T2 d rfl (x:=.bool false) rfl ?_);refine RZ (m:=UD (.ref z) 3) (T2 d rfl (x:=.ref u) rfl (RZ (WY hu rfl ?_)));refine RZ (m:=XH (.ref z)) ?_;unfold XH;refine RZ (T2 d rfl (x:=.none) rfl (Sb ?_));simp only [if_true];refine RZ (Vp (RZ (T2 d rfl (x:=.ref v) rfl (RZ (VY d (by simp) λg1 p B=>?_)))));have p:VZ g1 z u v .ellipsis:=p;refine RZ ?_;simp only [List.zipIdx_cons,List.zipIdx_nil,Yt,List.forIn_nil];refine RZ (RZ (wpAny_onRaise (RZ (m:=W0 (.ref i)) ?_)));refine OQ V (hi.extBut B.extBut H) (Y.extBut B.extBut nt) hx λg2 e I zz=>Cp zz λoe D J=>?_;have z2:VZ g2 z u v .ellipsis:=I _ _ H.symm p;have ne:e≠z:=λy=>by rw [y,z2] at D;cases D;simp at J
 exact VY z2 (by simp) λg3 _ L=>q g3 e (λc o O c2 y=>L.extBut _ _ O (I _ _ c2 (B.extBut _ _ O y))) ⟨oe,L.extBut _ _ ne D,J⟩
theorem Ad5 {z u v i j t:Addr}{its:Array Value}{k:Nat}{Q:Option Value->RY->Prop}(p:A.handled=none)(d:VZ s.heap z u v .none)(hu:V0 s.heap u (.ref i) (.ref j))(hi:s.heap.IsTupleIter i t k)(B:s.heap.IsTuple t its)(hx:its[k]?=none)(D:i≠z)(H:t≠z)(q:∀ g,(∀ c o,c≠z->c≠i->s.heap.get? c=some o->g.get? c=some o)->Q none { s with heap:=g }):R1 (R4 prog w) A (Tg (.ref z)) Q E s:=by have ty:s.TypeIs (.ref z) "zip":=⟨_,d,rfl⟩;unfold Tg;refine RZ (VX (UZ (name:=Sa "__next__") ty sP (T1 sP ty F.entry_zip_next (Ad4 p d hu hi B hx D H λg e k I=>Cp I λo J L=>?_) (F.args_zip_next_1 _))));exact RZ (WX (T:="StopIteration") (b:=true) ⟨o,J,L⟩ XB (Sb (q _ k)))
def zA (h:Heap)(t:Addr):Heap:=h.push { cls:=.type "tuple_iterator",data:=.fields #[.ref t,.int 0 0] }
def zB (h:Heap)(t l:Addr):Heap:=(zA h t).push { cls:=.type "list_iterator",data:=.fields #[.ref l,.int 0 0] }
def zC (h:Heap)(t l:Addr):Heap:=(zB h t l).push { cls:=.type "tuple",data:=.seq #[.ref h.objs.size,.ref (zA h t).objs.size] }
def zD (h:Heap)(t l:Addr):Heap:=(zC h t l).push { cls:=.type "tuple",data:=.seq #[.none,.none] }
def zE (h:Heap)(t l:Addr):Heap:=(zD h t l).push { cls:=.type "zip",data:=.fields #[.none,.bool false,.bool false,.ref (zB h t l).objs.size,.ref (zC h t l).objs.size] }
theorem Ad6 (t l:Addr)(xs ys:Array Value):Meets (Builtin.«zip.__new__» ⟨[.type "zip",.ref t,.ref l],[]⟩) (λ_ R s=>s.heap.IsTuple t xs/\s.heap.IsList l ys /\
  ∀ g,VZ g (s.heap.objs.size+4) (s.heap.objs.size+2) (s.heap.objs.size+3) .none->V0 g (s.heap.objs.size+2) (.ref s.heap.objs.size) (.ref (s.heap.objs.size+1))->V0 g (s.heap.objs.size+3) .none .none->g.IsTupleIter s.heap.objs.size t 0->g.IsListIter (s.heap.objs.size+1) l 0->g.objs.size=s.heap.objs.size+5->(∀ c o,s.heap.get? c=some o->g.get? c=some o)->R (.ok (.ret (.ref (s.heap.objs.size+4)))) { s with heap:=g }) :=
 .of_wp λprog w A R s h=>by
  obtain ⟨hp,g,d,p,os⟩:=s;obtain ⟨Y,hl,h⟩:=h;have aaO:=sub_zip;have h1:Heap.IsTuple (Y1 ⟨hp,g,d,p,os⟩) t xs:=Y;have h2:Heap.IsList (Y1 ⟨hp.push { cls:=.type "tuple_iterator",data:=.fields #[.ref t,.int 0 0] },g,d,p,os⟩) l ys:=Heap.IsList.push hl _;wp_walk using Xa h1,W9 h2
  have B:(zA hp t).objs.size=hp.objs.size+1:=Tb ..;have D:(zB hp t l).objs.size=hp.objs.size+2:=(Tb ..).trans (congrArg XJ B);have H:(zC hp t l).objs.size=hp.objs.size+3:=(Tb ..).trans (congrArg XJ D);have I:(zD hp t l).objs.size=hp.objs.size+4:=(Tb ..).trans (congrArg XJ H);have eE:(zE hp t l).objs.size=hp.objs.size+5:=(Tb ..).trans (congrArg XJ I);have up:∀{a:Heap}{o:Obj}{c:Addr}{y:Obj},a.get? c=some y->(a.push o).get? c=some y:=λ{a o c y} h=>Sq _ h;refine ⟨_,rfl,?_⟩;show R (.ok (.ret (.ref (zD hp t l).objs.size))) ⟨zE hp t l,g,d,p,os⟩;have J:(zE hp t l).get? (zD hp t l).objs.size=some _:=SO _ rfl;have L:(zE hp t l).get? (zC hp t l).objs.size=some _:=up (SO _ rfl);have O:(zE hp t l).get? (zB hp t l).objs.size=some _:=up (up (SO _ rfl));have V:(zE hp t l).get? (zA hp t).objs.size=some _:=up (up (up (SO _ rfl)));have k1:(zE hp t l).get? hp.objs.size=some _:=up (up (up (up (SO _ rfl))));rw [D,H,I] at J;rw [H] at L;rw [B,D] at O;rw [B] at V;rw [I];exact h _ J O L ⟨_,k1,rfl,rfl⟩ ⟨_,V,rfl,rfl⟩ eE λc o y=>up (up (up (up (up y))))
theorem Ad7 {t l:Addr}{xs ys:Array Value}{Q:Value->RY->Prop}(p:s.heap.IsTuple t xs)(B:s.heap.IsList l ys)(q:∀ g,VZ g (s.heap.objs.size+4) (s.heap.objs.size+2) (s.heap.objs.size+3) .none->V0 g (s.heap.objs.size+2) (.ref s.heap.objs.size) (.ref (s.heap.objs.size+1))->V0 g (s.heap.objs.size+3) .none .none->g.IsTupleIter s.heap.objs.size t 0->g.IsListIter (s.heap.objs.size+1) l 0->g.objs.size=s.heap.objs.size+5->(∀ c o,s.heap.get? c=some o->g.get? c=some o)->Q (.ref (s.heap.objs.size+4)) { s with heap:=g }) :
  R1 (R4 prog w) A (call (.type "zip") [.ref t,.ref l]) Q E s:=by
 refine callType_new F.called_zip (by decide) (F.typeCall_zip_2 _ _) (F.newCall_zip_2 _ _) (λobj=>F.args_object_init_3 obj _ _) F.entry_zip_new (Ad6 t l xs ys) ⟨p,B,λg d D H I J L O=>?_⟩;exact ⟨⟨_,d,rfl⟩,q g d D H I J L O⟩
end
section
variable {X:Cx}
theorem Ad.aaR {pins:List (Addr×Obj)}{σ:St}{H:Hp}{s:RY}{h':Heap}{t':Nat}{ch:List Addr}(I:Ad X pins σ H s)(d:∀ b∈ch,CA X pins H b)(k:∀ b o,b ∉ ch->s.heap.get? b=some o->h'.get? b=some o):Ad X pins σ H { s with heap:=h',toks:=t' }:=by
 have g:∀ b u,H b=some u->b ∉ ch:=λb u e z=>by rw [(d b z).1] at e;cases e
 refine I.step (g':=s.gens) (d':=s.drawn) (ch:=ch) (λb hb=>⟨(d b hb).2.2.2.1,(d b hb).2.1,(d b hb).2.2.2.2.1,(d b hb).2.2.2.2.2⟩) (λb o _ _ hc e _=>k b o hc e) (λb o _ _ hc e _=>⟨o.slots,k b o hc e⟩) (λ_ _ _ _ n=>n) (λb o hc e=>⟨o,k b o hc e⟩) (λ_ _ e=>e) (λ_ _ _ e=>e) (λb ps e=>⟨#[],by rw [e];simp⟩) (λm p=>?_) (λb u e=>?_) I.bare
 .obtain ⟨o,B,D,J,r⟩:=Cq p;exact ⟨o,B,D,k _ o (λz=>(d _ z).2.1 rfl) J,r⟩
 .refine (I.aa b u e).cU (λc v hc q=>k c v ?_ q) (λc q=>q) λc ys q=>q;rcases hc with z | z
  .rw [z];exact g b u e
  .exact g c _ z
def GU (K:R0)(t:Addr):It:=⟨λ_ _=>False,λ_ _ _ _=>False,λ_ H=>A5 K H t []⟩
theorem Ad8 {P:R7}{w:R3}{K:R0}{B:List R6}{kk:Nat}{pos:Pos}(t z u v i j:Addr)(ni:i≠z):Eo P w K (.Tuple B kk pos) (GU K t) [z,u,i] z (λ_ h=>VZ h z u v .none/\V0 h u (.ref i) (.ref j)/\h.IsTupleIter i t 0) where
 mem:=by simp
 obj:=λn h st b hb=>by
  obtain ⟨d,D,o,J,_,L⟩:=st;simp only [Si,Tz,or_false] at hb;rcases hb with rfl | rfl | rfl
  .exact ⟨_,d,λv z=>by cases z⟩
  .exact ⟨_,D,λv z=>by cases z⟩
  .exact ⟨o,J,λv z=>by rw [L] at z;cases z⟩
 keep:=λn h h' st k=>by
  obtain ⟨d,D,o,J,L⟩:=st;exact ⟨k z (by simp) _ d,k u (by simp) _ D,o,k i (by simp) _ J,L⟩
 item:=λ_ _ _ _ _ _ _ _ _ _ _ _ _ _ O=>O.elim
 done:=by
  intro X hP hw hK hc n pins s σ H E I V st O;subst hP hw hK;obtain ⟨d,D,J⟩:=st;obtain ⟨its,rv,p,_⟩:=I.tuple O;cases rv;obtain ⟨f0,f1,f2,f3,f4,f5⟩:=V z (by simp);have nt:t≠z:=λe=>by
   obtain ⟨o,Y,e2,_⟩:=p;rw [e,d] at Y;cases Y;simp at e2
  refine Ad5 (I.ok.hd hc) d D J p (by simp) ni nt λg kg=>⟨rfl,?_⟩;refine I.aaR (t':=s.toks) (ch:=[z,i]) (λb hb=>V b ?_) λb o hb e=>kg b o (λy=>hb (by simp [y])) (λy=>hb (by simp [y])) e;simp only [Si,Tz,or_false] at hb;rcases hb with rfl | rfl<;>simp
 self:=λ_ _ _ _ _ st h=>sQ st.1 h
theorem Ad9:Ta "zip"=some (.type "zip"):=by decide +kernel
def iZ0 (K:R0)(ta:TA):TI:=λσ H R=>ta σ H λvs H1=>∃ t l ys,vs=[.ref t,.ref l]/\A5 K H1 t []/\AZ K H1 l ys/\R (GU K t) H1
theorem Aea {x y:R6}{L:TA}{p pos Y:Pos}{B:List R6}{kk:Nat}(g:Gm X.env.scope "zip")(hm:X.mg "zip"=none)(ha:PA X [x,y] L)(hs:Se [x,y] X.env=(false,Sf x X.env) :: Se [y] X.env:=by rfl)(az:(SJ pos (Se [y] X.env)).any (·.1)=false:=by rfl) :
  PI X (.Tuple B kk Y) (.Call (.Name "zip" p) [x,y] [] pos) (iZ0 X.K L):=by
 intro pins s σ H R I h;refine Call_ (EU I g.gl hm Ad9 (WA (Al (ha pos pins s σ H _ I h) λus d zz=>Az zz λvs H1 D r1 q1=>?_) hs az));obtain ⟨t,l,ys,e,ht,hl,q⟩:=q1;subst e;cases r1 with
 | cons r J =>
  cases J with
  | cons r' J =>
   cases J;cases r;cases r';obtain ⟨its,rv,pt,_⟩:=D.tuple ht;obtain ⟨jts,rw_,pl,_⟩:=D.list hl;refine Ad7 pt pl.isList λg O k2 k3 k4 k5 k6 k7=>?_;refine sQ O ?_;have ni:d.heap.objs.size≠d.heap.objs.size+4:=by omega
   refine ⟨d.heap.objs.size+4,[d.heap.objs.size+4,d.heap.objs.size+2,d.heap.objs.size],_,_,H1,rfl,D.kept (t':=d.toks) k7,Ad8 t _ _ _ _ _ ni,⟨O,k2,k4⟩,λb hb=>?_,q⟩;have V:d.heap.objs.size<=b:=by simp only [Si,Tz,or_false] at hb;rcases hb with rfl | rfl | rfl<;>omega
   exact D.dY V (D.aa.fresh V)
theorem Aeb {K:R0}{t:Addr}{g:TG}{B:TS}{D:DF}{σ:St}{H:Hp}(I:A5 K H t [])(hd:D.nx σ H) :
  ∃ W:Nat->Nat->St->Hp->Prop,(∃ m,W 0 m σ H)/\∀ i m σ H,W i m σ H ->
   ((GU K t).stop i H/\D.nx σ H)\/((GU K t).go i H/\∃ N:St->Hp->Prop,(∀ σ' d,N σ' d->∃ p,p<m/\W (i+1) p σ' d)/\∀ x d,(GU K t).bL i H x d->g x σ d λσ2 J=>B { D with nx:=N,ct:=N,bk:=D.nx } σ2 J) :=
 ⟨λ_ _ σ' d=>A5 K d t []/\D.nx σ' d,⟨0,I,hd⟩,λ_ _ _ _ h=>.inl h⟩
def Aec (i:Nat)(f:Addr)(sp:Sp)(E:XK)(t:TA):TE:=λσ H Q=>FF i σ H λv H1=>v=.ref f/\t σ H1 λvs H2=>sp (vs++[]) H2 Q E
theorem Aed {CX:BA}{k:Nat}{f:Addr}{g:Sr}{ps:List Str}{sp:Sp}{E:XK}{x:Str}{p pos:Pos}{e:R6}{es:List R6}{t:TA}{i:Nat}(F:AE X.prog X.w X.K X.mg X.base CX k f g ps sp)(hk:Td X.K (.ref f)=true)(hb:Ct X.K g ps [])(J:Bb k X.A)(hx:CM CX X E)(hn:PE X (.Name x p) (FF i))(L:PA X (e :: es) t)(O:Se (e :: es) X.env=(false,Sf e X.env) :: Se es X.env:=by rfl)(V:(SJ pos (Se es X.env)).any (·.1)=false:=by rfl):PE X (.Call (.Name x p) (e :: es) [] pos) (Aec i f sp E t):=by intro pins s σ H Q I h;refine VI (Al (hn pins s σ H _ I h) λv Y d=>Fz d λy H1 B r1 e1 q1=>?_);subst e1;cases (show v=Sg f from r1);refine Vb (h₀:=X.base) B.ok.mod.bS hk (Al (L pos pins Y σ H1 _ B q1) λus s2 d=>Az d λvs H2 D r q=>⟨D.aw,?_⟩) O V;exact Gx F J hb .nil hx D r q
end
end L2
set_option maxHeartbeats 4000000
namespace Lw
open PySem L2
local macro_rules | `(tactic| walk_at"")=>`(tactic| repeat (first
 | with_reducible refine AbR λ_ _=>?_
 | with_reducible refine Lk.asg (by assumption) ?_
 | refine Lk.use (by assumption) ?_
 | refine w1 rfl ?_
 | refine w2 rfl rfl ?_
 | refine w3 rfl ?_
 | refine Sd (w2 rfl rfl ?_)
 | refine Sd ⟨rfl,?_⟩
 | refine ⟨rfl,?_⟩
 | refine Sd ⟨_,_,_,_,rfl,rfl,.of (by assumption),rfl,?_⟩
 | (refine Y3 (show Gs _ _ from ?_) ?_;(first | exact R9 ⟨by omega,by omega⟩ | exact Sd ⟨by omega,by omega⟩))
 | (refine Y3 (show MY _ _ from ?_) ?_;exact ⟨by omega,by omega⟩)
 | (refine Y3 (show (0:Int)<_ from ?_) ?_;first | decide | omega)))
local macro_rules | `(tactic| walk_at "m")=>`(tactic| exact ⟨rfl,rfl,rfl,by decide +kernel,rfl,by decide +kernel,by decide +kernel⟩)
local macro_rules | `(tactic| walk_at "k")=>`(tactic| exact ⟨by decide +kernel,by decide +kernel,by decide +kernel⟩)
def top (i:Nat):Stmt:=PySem.Challenge.pw_stephall_k04_plan_texts_spoilt.main.body.getD i (.Pass ⟨0,0,0,0⟩)
structure An where
 (d7 av aK aL aM aN aO ax bU dD d8 Keeper aV Plan aZ fe aU Line ak gL iX:Addr)
noncomputable def An.aaS (a:An):List Addr:=[a.aZ,a.aU]
structure Txt (K:R0)(mg:Str->Option Value)(a:An):Prop where
 n_len:mg "len"=none
 cK:mg "isinstance"=none
 ow:mg "bool"=none
 iY:mg "int"=none
 d9:mg "range"=none
noncomputable def Dz (ns:List Int)(k:Int):Int :=
 if k<ns.length then ns.getD k.toNat 0 else if ns.length=0 then 7919 * k+101 else ns.getD (k % ns.length).toNat 0 % 1000003+7919 * k
def OS (K:R0):Sp:=λvs H Q _=>∃(p:Addr)(ns:List Int)(k:Int),vs=[.ref p,.int k]/\AZ K H p (ns.map V.int)/\0<=k/\k<1000/\ns.length<=63/\Q (.int (Dz ns k)) H
section
variable {P:R7}{w:R3}{K:R0}{mg:Str->Option Value}{base:Heap}{a:An}{f:Addr}{fd:Sr}
theorem OT:A8 ["script","k"] ["script","k"] (Ab (top 93)):=.of
theorem GV:Nm (Ab (top 93)) "script":=.of
theorem GW:Nm (Ab (top 93)) "k":=.of
theorem KP:Gm (Ab (top 93)) "len":=.of
theorem Aee (F:AW K "_law_cell" "_law_cell" (top 93) f fd)(T:Txt K mg a):AE P w K mg base AI 1 f fd ["script","k"] (OS K):=by
 refine F.ok OT λJ A outer s H vs Q E B h=>?_
 .obtain ⟨p,d,k,rfl,hS,D,hk,L,q⟩:=h;have hu:=B.units;have O:=OT.nd;refine ⟨_,(@Ai _ _ _ _ _ (AR (AK M7 (Aa 1 GW) (AH Bl KP T.n_len Bg (Ac (Aa 0 GV) Af)) (AN _)) (Ap (AO (As Aw (Aa 0 GV) (Aa 1 GW) (λ_ _=>rfl)))) AQ)
    (Ai (AR (AK (B4 hu) (AH Bl KP T.n_len Bg (Ac (Aa 0 GV) Af)) Ag (AN _)) (Ap (AO (Aj AL (Aj BO Ag (Aa 1 GW)) Ag))) AQ)
    (Ap (AO (Aj AL (Aj A6 (As Aw (Aa 0 GV) (Aj A6 (Aa 1 GW) (AH Bl KP T.n_len Bg (Ac (Aa 0 GV) Af))) (λ_ _=>rfl)) Ag) (Aj BO Ag (Aa 1 GW))))))),?_⟩
  try dsimp only [aE,aF]
  walk_at"";refine R9 (AX _ _ rfl (.inl hS) ?_);walk_at"";rw [R5];refine HN (λh=>?_) (λh=>?_)
  .have h:=of_decide_eq_true h;walk_at"";refine Sd (BF hS (GD D h) ?_);have e:Dz d k=d.getD k.toNat 0:=by unfold Dz;rw [if_pos h]
   rw [e] at q;exact q
  .have h:¬ k<d.length:=by simpa using h
   walk_at"";refine R9 (AX _ _ rfl (.inl hS) ?_);walk_at"";rw [R5];refine HN (λg=>?_) (λg=>?_)
   .have g:d.length=0:=by simpa using g
    walk_at"";have e:Dz d k=7919 * k+101:=by unfold Dz;rw [if_neg h,if_pos g]
    rw [e] at q;exact q
   .have g:¬ d.length=0:=by simpa using g
    walk_at"";refine R9 (AX _ _ rfl (.inl hS) ?_);rw [R5];have hp:0<(d.length:Int):=by omega
    walk_at"";have I:0<=k % (d.length:Int):=U1 _ (by omega);have m1:k % (d.length:Int)<d.length:=U2 _ (by omega);refine Sd (BF hS (GD I m1) ?_);walk_at"";have e:Dz d k=d.getD (k % d.length).toNat 0 % 1000003+7919 * k:=by unfold Dz;rw [if_neg h,if_neg g]
    rw [e] at q;exact q
def KQ (K:R0):Sp:=λvs H Q _=>∃(p:Addr)(ns:List Int)(k many base:Int),vs=[.ref p,.int k,.int many,.int base]/\AZ K H p (ns.map V.int)/\0<=k/\k<1000/\ns.length<=63/\0<=many/\many<=100/\0<base/\base<1000000000 /\
 ∀(r:Addr)(row:List Int)(H':Hp),Ae H H'->H r=none->H' r=some (.lst (row.map V.int))->row.length=many.toNat->(∀ v∈row,0<=v/\v<base)->Q (.ref r) H'
theorem Aef {H:Hp}{r:Addr}{d:List Int}{v:Int}:upd H r (.lst (d.map V.int++[.int v])) r=some (.lst ((d++[v]).map V.int)):=by rw [Ah,Su];rfl
theorem Aeg {d:List Int}{v b:Int}(h:∀ u∈d,0<=u/\u<b)(g:0<=v/\v<b):∀ u∈d++[v],0<=u/\u<b:=by
 intro u hu;rcases SG.mp hu with z | z
 .exact h u z
 .rw [SA.mp z];exact g
noncomputable def GX:List Int:=[2147483647,2147483629,2147483587,2147483579,2147483563,2147483549,2147483543,2147483497]
theorem KR {i:Int}(g:0<=i)(B:i<8):∃ p:Int,BI (GX.map V.int) i=some (.int p)/\0<p/\p<2147483648:=by
 refine ⟨_,GD g B,?_⟩;have d:∀ m:Nat,m<8->0<GX.getD m 0/\GX.getD m 0<2147483648:=by decide
 exact d _ (by omega)
theorem OU:A8 ["script","k","many","base","primes","cell","rest","row","j","mash"] ["script","k","many","base"] (Ab (top 94)):=.of
theorem Aeh:Nm (Ab (top 94)) "script":=.of
theorem KS:Nm (Ab (top 94)) "k":=.of
theorem Aei:Nm (Ab (top 94)) "many":=.of
theorem OV:Nm (Ab (top 94)) "base":=.of
theorem Io:Nm (Ab (top 94)) "primes":=.of
theorem Ip:Nm (Ab (top 94)) "cell":=.of
theorem FY:Nm (Ab (top 94)) "rest":=.of
theorem KU:Nm (Ab (top 94)) "row":=.of
theorem EC:Nm (Ab (top 94)) "j":=.of
theorem DA:Nm (Ab (top 94)) "mash":=.of
theorem Aej:Gm (Ab (top 94)) "range":=.of
theorem Aek:Gm (Ab (top 94)) "_law_cell":=.of
theorem Ael (F:AW K "_law_draws" "_law_draws" (top 94) f fd)(T:Txt K mg a)(km:Bf P w K mg base AI 1 "_law_cell" ["script","k"] (OS K)) :
  AE P w K mg base AI 2 f fd ["script","k","many","base"] (KQ K):=by
 refine F.ok OU λaf A outer s H vs Q E I h=>?_
 .obtain ⟨p,O,k,J,bs,rfl,hS,k0,k1,hl,m0,m1,b0,b1,q⟩:=h;have hu:=I.units;have D:=OU.nd;refine ⟨_,(@Ai _ _ _ _ _ (AG 4 D Io (Dw (FO rfl)))
    (Ai (AG 5 D Ip (Bh km Aek I.d Bj (Ac (Aa 0 Aeh) (Ac (Aa 1 KS) Af))))
    (Ai (AG 6 D FY Ag)
    (Ai (AR (AK AaR (Aa 5 Ip) (Aj AaN Ag Ag) (AN _)) (Ap (AG 6 D FY (Aa 5 Ip))) AQ)
    (Ai (AG 7 D KU (A7 Af))
    (Ai (C6 U3 rfl (FN Aej T.d9 (Ac (Aa 2 Aei) Af)) (A9 8 D EC) (Ai (AG 9 D DA (Aj BO (Aj A6 (Aa 5 Ip) (As Aw (Aa 4 Io) (Aj A6 (Aa 8 EC) Ag) (λ_ _=>rfl))) (Aj AL Ag (Aj BO (Aj BO Ag (Aa 8 EC)) (Aa 8 EC)))))
     (Ai (AG 9 D DA (Aj AL (Aj AL (Aa 9 DA) (Aj BO (Aj BO Ag (Aj AL (Aa 8 EC) Ag)) (Aj AL (Aa 8 EC) Ag))) (Aj BO Ag (Aa 1 KS))))
     (Ai (AG 9 D DA (Aj A6 (Aa 9 DA) (As Aw (Aa 4 Io) (Aj A6 (Aj AL (Aj BO Ag (Aa 8 EC)) (Aa 1 KS)) Ag) (λ_ _=>rfl))))
     (Ai (AG 9 D DA (Aj A6 (Aj BO (Aj BO (Aa 9 DA) (Aa 9 DA)) (Aa 9 DA)) (As Aw (Aa 4 Io) (Aj A6 (Aj AL (Aa 8 EC) Ag) Ag) (λ_ _=>rfl))))
     (Ai (AR (AK Gu (Aa 6 FY) Ag (AN _)) (Ap (AG 9 D DA (Aa 6 FY))) AQ)
     (Ai (CK (B2 Vy V1 V2 Ey (Aa 7 KU) (Ac (Aj A6 (Aa 9 DA) (Aa 3 OV)) Af)))
     (Ap (AG 6 D FY (Aj D0 (Aa 6 FY) (Aa 3 OV)))))))))))
    (Ap (AO (Aa 7 KU))))))))),?_⟩
  try dsimp only [aE,aF]
  refine ⟨by decide,λpr hpr=>?_⟩;have s1:Ae H (upd H pr (.tup (GX.map V.int))):=(Ae.refl H).upd hpr;walk_at"";refine B3 p O k rfl ⟨s1.seq hS,k0,k1,hl,?_⟩;walk_at"";refine ⟨⟨by decide,by decide,by decide⟩,?_⟩;walk_at"";refine HN (λ_=>?_) (λ_=>?_) <;>
  .walk_at"";refine ⟨by decide,λr I=>?_⟩;have kn:r≠pr:=λe=>by rw [e,Ah] at I;cases I
   have ox:H r=none:=by rw [Ak kn] at I;exact I
   walk_at"";refine ⟨by omega,by omega,FH (n:=J.toNat) (λi σ L=>∃(g:List Int)(z:Int)(x y:Option V),σ=[some (.ref p),some (.int k),some (.int J),some (.int bs),some (.ref pr),some (.int (Dz O k)),some (.int z),some (.ref r),x,y] /\
    Ae H L/\L pr=some (.tup (GX.map V.int))/\L r=some (.lst (g.map V.int))/\g.length=i/\∀ v∈g,0<=v/\v<bs) ?_ ?_ ?_⟩
   .exact ⟨[],_,none,none,rfl,s1.upd I,(by rw [Ak kn.symm,Ah];rfl),Ah,rfl,λv hv=>absurd hv (by simp)⟩
   .intro i σ L hi zq;obtain ⟨g,z,x,y,rfl,sm,Y,hR,B,cL⟩:=zq;have dB:(i:Int)<100:=by omega
    simp only [W2];walk_at"";obtain ⟨p1,e1,a1,b1'⟩:=KR (i:=(i:Int) % 8) (by omega) (by omega);refine R9 (Sd (BF (.of Y) e1 ?_));walk_at"";have c1:=U1 (Dz O k) (show p1≠0 by omega);have c2:=U2 (Dz O k) a1;generalize Dz O k % p1=m1 at c1 c2 ⊢;walk_at"";obtain ⟨p2,e2,a2,b2'⟩:=KR (i:=(3 * (i:Int)+k) % 8) (by omega) (by omega);refine R9 (Sd (BF (.of Y) e2 ?_));walk_at"";generalize oA:(m1 * (48271+2 * (i:Int) * (i:Int))+7919 * ((i:Int)+1) * ((i:Int)+1)+104729 * k) % p2=m2;have c3:0<=m2:=by rw [<- oA];exact U1 _ (by omega)
    have c4:m2<p2:=by rw [<- oA];exact U2 _ a2
    walk_at"";obtain ⟨p3,e3,a3,b3'⟩:=KR (i:=((i:Int)+5) % 8) (by omega) (by omega);refine R9 (Sd (BF (.of Y) e3 ?_));walk_at"";refine HN (λ_=>?_) (λ_=>?_) <;>
    .walk_at"";refine ⟨.inl ⟨rfl,_,.of hR⟩,?_⟩;walk_at"";refine BZ r _ _ rfl rfl hR ?_ ?_
     .rw [R5,B,R8];omega
     walk_at"";exact ⟨g++[_],_,_,_,rfl,sm.bN ox,(by rw [Ak kn.symm];exact Y),Aef,(by rw [SF,B];rfl),Aeg cL ⟨U1 _ (by omega),U2 _ b0⟩⟩
   .intro σ L zq;obtain ⟨g,z,x,y,rfl,sm,Y,hR,B,cL⟩:=zq;walk_at"";exact q r g L sm ox hR B cL
theorem Aem (K:R0):TQ K (.type "int") (.type "bool")=some false:=by rfl
theorem Aen (K:R0):TQ K (.type "str") (.type "str")=some true:=by rfl
def AS (z:Str):Prop:=∀ c∈z.cps.toList,c<128
def Bs (z:Str):Prop:=∀ c∈z.cps.toList,48<=c/\c<=57
theorem Bs.asc {z:Str}(h:Bs z):AS z:=λc hc=>by have:=h c hc;omega
theorem Dc (x y:Str):(x++y).cps.toList=x.cps.toList++y.cps.toList:=by show (x.cps++y.cps).toList=_;simp
theorem C2 (x:Str):x.length=x.cps.toList.length:=by simp [VL]
theorem KW {x y:Str}(h:x.cps.toList=y.cps.toList):x=y:=by cases x with | mk a=>cases y with | mk b=>cases a;cases b;simp_all
def Iq:Sp:=λvs H Q _=>∃ n lo hi,vs=[.int n,.int lo,.int hi]/\Q (.bl (decide (lo<=n) && decide (n<=hi))) H
def OW:Sp:=λvs H Q _=>∃ d l:Int,vs=[.int d,.int l]/\-100<=l/\l<=100/\∀ z:Str,z.length=l.toNat->Bs z->Q (.str z) H
theorem OX:A8 ["number","least","most"] ["number","least","most"] (Ab (top 2)):=.of
theorem OY:Nm (Ab (top 2)) "number":=.of
theorem Aeo:Nm (Ab (top 2)) "least":=.of
theorem Aep:Nm (Ab (top 2)) "most":=.of
theorem Aeq:Gm (Ab (top 2)) "isinstance":=.of
theorem Aer:Gm (Ab (top 2)) "bool":=.of
theorem Aes (F:AW K "within" "within" (top 2) f fd)(T:Txt K mg a):AE P w K mg base AI 1 f fd ["number","least","most"] Iq:=by
 refine F.ok OX λp A outer s H vs Q E g h=>?_
 .obtain ⟨n,lo,B,rfl,q⟩:=h;have hu:=g.units;have D:=OX.nd;refine ⟨_,(@Ap _ _ _ (AO (JN (Aaq (AH DN Aeq T.cK DO (Ac (Aa 0 OY) (Ac (HU (v:=.ty "bool") Aer T.ow Acj rfl) Af)))) (Hw (AaT Di Di (Aa 1 Aeo) (Aa 0 OY) (Aa 2 Aep)))))),?_⟩;try dsimp only [aE,aF]
  walk_at"";refine Sd (B0 _ _ _ _ _ rfl ⟨.of (.int n),rfl,Aem K,?_⟩);walk_at"";by_cases d:lo<=n
  .refine CP (decide_eq_true d) ?_;walk_at"";rw [decide_eq_true d] at q;exact q
  .refine CQ (decide_eq_false d) ?_;rw [decide_eq_false d] at q;exact q
structure Ir (K:R0)(a:An)(C:Addr):Prop where
 mem:C∈a.aaS
 cls:B7 K C
 h:Bn K C "held_by"
 j:Bn K C "jammed"
 t:Bn K C "taken"
structure Fs (fs:List (Str×V))(ra rb rc:Addr):Prop where
 h:fs.lookup ("held_by":Str)=some (V.ref ra)
 j:fs.lookup ("jammed":Str)=some (V.ref rb)
 t:fs.lookup ("taken":Str)=some (V.ref rc)
 m:∀ x∈(["first_free","hold","free","stick","mend","check","holders","stuck","shares","take","paper"]:List Str),fs.lookup x=none
structure Aht (K:R0)(a:An)(H:Hp)(p C:Addr)(ra rb rc:Addr)(hs:List V)(js:List Bool)(ts:List Int):Prop where
 ins:∃ dx fs,H p=some (.ins C dx fs)/\Fs fs ra rb rc
 c:Ir K a C
 ha:H ra=some (.lst hs)
 hb:H rb=some (.lst (js.map V.bl))
 hc:H rc=some (.lst (ts.map V.int))
 ab:ra≠rb
 ac:ra≠rc
 bc:rb≠rc
 lj:js.length=hs.length
 lt:ts.length=hs.length
 z:hs.length<=1000
structure TxtS (K:R0)(mg:Str->Option Value)(a:An):Prop extends Txt K mg a where
 gM:mg "list"=none
 oC:mg "enumerate"=none
 fU:mg "tuple"=none
 gN:mg "NoSwitch"=some (.ref a.aK)
 aaT:Ts K a.aK [.type "ValueError",.type "Exception",.type "BaseException",.type "object"] "ValueError.__new__"=true
theorem AV (x y:Str):(x++y).length=x.length+y.length:=by rw [C2,C2,C2,Dc,SF]
def Cv (ws:List Addr)(H H':Hp):Prop:=∀ b o,b ∉ ws->H b=some o->H' b=some o
noncomputable def GY (ra rb rc:Addr):List (Str×V):=[("held_by",.ref ra),("jammed",.ref rb),("taken",.ref rc)]
def Iu (K:R0)(a:An):Sp:=λvs H Q _=>∃(p:Addr)(many:Int)(C dx:Addr),vs=[.ref p,.int many]/\H p=some (.ins C dx [])/\Ir K a C/\0<=many/\many<=1000 /\
 ∀ H' ra rb rc,Cv [p] H H'->H' p=some (.ins C dx (GY ra rb rc))->H ra=none->H rb=none->H rc=none->H' ra=some (.lst (Ss many.toNat .ae))->H' rb=some (.lst ((Ss many.toNat false).map V.bl))->H' rc=some (.lst ((Ss many.toNat (0:Int)).map V.int)) ->
  ra≠rb->ra≠rc->rb≠rc->Q .ae H'
theorem Iv {α:Type}(x:α):∀ n:Nat,(Ss n [x]).flatten=Ss n x
 | 0=>rfl
 | n+1=>by rw [Vf,V9,Iv x n];rfl
noncomputable def OZ:Option Int->V
 | some k=>.int k
 | none=>.ae
theorem Aet:A8 ["self","many"] ["self","many"] (Ab (Au (top 37) 0)):=.of
theorem KY:Nm (Ab (Au (top 37) 0)) "self":=.of
theorem KZ:Nm (Ab (Au (top 37) 0)) "many":=.of
theorem O0 (F:AW K "__init__" "Switches.__init__" (Au (top 37) 0) f fd)(T:TxtS K mg a):AE P w K mg base AI 1 f fd ["self","many"] (Iu K a):=by
 refine F.ok Aet λaf A outer s H vs Q E hr h=>?_
 .obtain ⟨p,d,C,I,rfl,hp,c,h0,h1,q⟩:=h;refine ⟨_,(@Ai _ _ _ _ _ (Bz (Aa 0 KY) (Aj BO (A7 (Ac Ci Af)) (Aa 1 KZ)) rfl)
    (Ai (Bz (Aa 0 KY) (Aj BO (A7 (Ac Du Af)) (Aa 1 KZ)) rfl)
    (Ap (Bz (Aa 0 KY) (Aj BO (A7 (Ac Ag Af)) (Aa 1 KZ)) rfl)))),?_⟩
  try dsimp only [aE,aF]
  walk_at"";refine ⟨AA,λl1 ko=>?_⟩;walk_at"";refine R9 (R9 (B3 l1 d [.ae] rfl ⟨rfl,Ah,by omega,by omega,(by rw [TR,R8];omega),λg Y=>?_⟩));generalize kq:upd H l1 (.lst [.ae])=gO at Y ⊢;have gP:Ae H gO:=kq▸(Ae.refl H).upd ko;generalize gQ:upd gO g (.lst (Ss d.toNat [.ae]).flatten)=fh;have gR:Ae H fh:=gQ▸gP.upd Y;have e1:fh g=some (.lst (Ss d.toNat [.ae]).flatten):=gQ▸Ah;have f1:H g=none:=gP.free Y;walk_at"";refine A0 p C I [] rfl (gR _ _ hp) c.cls c.h (by show 0<1000;decide) ?_;generalize fj:upd fh p (.ins C I (Ao "held_by" (.ref g) []))=J;have p1:J p=some (.ins C I [("held_by",.ref g)]):=fj▸Ah;have x1:Cv [p] H J:=λb o hb e=>by rw [<- fj,Ak (by simpa using hb)];exact gR b o e
  have dE:g≠p:=λz=>by rw [z,hp] at f1;cases f1
  have c1:J g=some (.lst (Ss d.toNat [.ae]).flatten):=by rw [<- fj,Ak dE];exact e1
  walk_at"";refine ⟨AA,λl3 fk=>?_⟩;walk_at"";refine R9 (R9 (B3 l3 d [.bl false] rfl ⟨rfl,Ah,by omega,by omega,(by rw [TR,R8];omega),λB fm=>?_⟩));generalize kr:upd J l3 (.lst [.bl false])=gU at fm ⊢;have gW:Ae J gU:=kr▸(Ae.refl J).upd fk;generalize gX:upd gU B (.lst (Ss d.toNat [.bl false]).flatten)=fo;have gY:Ae J fo:=gX▸gW.upd fm;have e2:fo B=some (.lst (Ss d.toNat [.bl false]).flatten):=gX▸Ah;have f2:J B=none:=gW.free fm;walk_at"";refine A0 p C I [("held_by",.ref g)] rfl (gY _ _ p1) c.cls c.j (by show 1<1000;decide) ?_;generalize fq:upd fo p (.ins C I (Ao "jammed" (.ref B) [("held_by",.ref g)]))=L;have p2:L p=some (.ins C I [("held_by",.ref g),("jammed",.ref B)]):=fq▸Ah;have x2:Cv [p] J L:=λb o hb e=>by rw [<- fq,Ak (by simpa using hb)];exact gY b o e
  have dF:B≠p:=λz=>by rw [z,p1] at f2;cases f2
  have c2:L B=some (.lst (Ss d.toNat [.bl false]).flatten):=by rw [<- fq,Ak dF];exact e2
  walk_at"";refine ⟨AA,λl5 iZ=>?_⟩;walk_at"";refine R9 (R9 (B3 l5 d [.int 0] rfl ⟨rfl,Ah,by omega,by omega,(by rw [TR,R8];omega),λD ku=>?_⟩));generalize hA3:upd L l5 (.lst [.int 0])=oE at ku ⊢;have oF:Ae L oE:=hA3▸(Ae.refl L).upd iZ;generalize oG:upd oE D (.lst (Ss d.toNat [.int 0]).flatten)=kz;have oH:Ae L kz:=oG▸oF.upd ku;have e3:kz D=some (.lst (Ss d.toNat [.int 0]).flatten):=oG▸Ah;have O:L D=none:=oF.free ku;walk_at"";refine A0 p C I [("held_by",.ref g),("jammed",.ref B)] rfl (oH _ _ p2) c.cls c.t (by show 2<1000;decide) ?_;generalize kA:upd kz p (.ins C I (Ao "taken" (.ref D) [("held_by",.ref g),("jammed",.ref B)]))=V;have p3:V p=some (.ins C I (GY g B D)):=kA▸Ah;have x3:Cv [p] L V:=λb o hb e=>by rw [<- kA,Ak (by simpa using hb)];exact oH b o e
  have kB:D≠p:=λz=>by rw [z,p2] at O;cases O
  have c3:V D=some (.lst (Ss d.toNat [.int 0]).flatten):=by rw [<- kA,Ak kB];exact e3
  have one:∀{b:Addr},b≠p->b ∉ [p]:=λh z=>h (by simpa using z);have oI:=x2 _ _ (one dE) c1;have oJ:=x3 _ _ (one dE) oI;have oK:=x3 _ _ (one dF) c2;have g4:H B=none:=by
   cases z:H B with
   | none=>rfl
   | some o=>have:=x1 _ _ (one dF) z;rw [this] at f2;cases f2
  have g6:H D=none:=by
   cases z:H D with
   | none=>rfl
   | some o=>have:=x2 _ _ (one kB) (x1 _ _ (one kB) z);rw [this] at O;cases O
  rw [Iv] at oJ oK c3;refine q V g B D (λb o hb e=>x3 _ _ hb (x2 _ _ hb (x1 _ _ hb e))) p3 f1 g4 g6 oJ (by rw [WN];exact oK) (by rw [WN];exact c3) ?_ ?_ ?_
  .exact λz=>by rw [<- z,c1] at f2;cases f2
  .exact λz=>by rw [<- z,oI] at O;cases O
  .exact λz=>by rw [<- z,c2] at O;cases O
theorem Aeu (i:Int)(ks:List Int):Ex (.int i) (ks.map V.int)=decide (i∈ks):=by
 unfold Ex;rw [List.any_map,U9,YC,decide_eq_true_eq];constructor
 .intro d;obtain ⟨k,hk,e⟩:=d;have g:(k == i)=true:=e;rw [<- beq_iff_eq.mp g];exact hk
 .exact λh=>⟨i,h,(beq_self_eq_true i:(i == i)=true)⟩
structure K0 (K:R0)(a:An)(C:Addr):Prop where
 c:Ir K a C
 p:Bn K C "places"
 s:Bn K C "stands"
 w:Bn K C "went"
 m:Bn K C "mark_at"
noncomputable def O1 (ra rb rc:Addr)(places:Int)(rs rw:Addr)(mark:Int):List (Str×V):=[("held_by",.ref ra),("jammed",.ref rb),("taken",.ref rc),("places",.int places),("stands",.ref rs),("went",.ref rw),("mark_at",.int mark)]
structure Sek (K:R0)(a:An)(H:Hp)(p C ra rb rc rs rw:Addr)(hs:List V)(js:List Bool)(ts:List Int)(places mark:Int)(st wt:List Int):Prop where
 ins:∃ dx,H p=some (.ins C dx (O1 ra rb rc places rs rw mark))
 cs:K0 K a C
 ha:H ra=some (.lst hs)
 hb:H rb=some (.lst (js.map V.bl))
 hc:H rc=some (.lst (ts.map V.int))
 hs_:H rs=some (.lst (st.map V.int))
 hw:H rw=some (.lst (wt.map V.int))
 ap:[ra,rb,rc,rs,rw].Nodup
 lj:js.length=hs.length
 lt:ts.length=hs.length
 ls:st.length=hs.length
 lw:wt.length=hs.length
 z:hs.length<=1000
def O2 (K:R0)(a:An):Sp:=λvs H Q _=>∃(p:Addr)(many places:Int)(C dx:Addr),vs=[.ref p,.int many,.int places]/\H p=some (.ins C dx [])/\K0 K a C/\0<=many/\many<=1000 /\
 ∀ H' ra rb rc rs rw,Cv [p] H H'->Sek K a H' p C ra rb rc rs rw (Ss many.toNat .ae) (Ss many.toNat false) (Ss many.toNat 0) places 0 (Ss many.toNat 0) (Ss many.toNat 0)->H ra=none->H rb=none->H rc=none->H rs=none->H rw=none->Q .ae H'
structure TxtK (K:R0)(mg:Str->Option Value)(a:An):Prop extends TxtS K mg a where
 i6:mg "Switches"=some (.ref a.fe)
theorem Aev:A8 ["self","many","places"] ["self","many","places"] (Ab (Au (top 44) 0)):=.of
theorem GZ:Nm (Ab (Au (top 44) 0)) "self":=.of
theorem K1:Nm (Ab (Au (top 44) 0)) "many":=.of
theorem Aew:Nm (Ab (Au (top 44) 0)) "places":=.of
theorem Aex:Gm (Ab (Au (top 44) 0)) "Switches":=.of
theorem Aey (F:AW K "__init__" "Seekers.__init__" (Au (top 44) 0) f fd)(T:TxtK K mg a){fi:Addr}{oM:Sr}(aaU:N9 K a.fe fi "__init__")(aaV:AE P w K mg base AI 1 fi oM ["self","many"] (Iu K a))(aaW:Ct K oM ["self","many"] []) :
  AE P w K mg base AI 2 f fd ["self","many","places"] (O2 K a):=by
 refine F.ok Aev λaf A outer s H vs Q E hr h=>?_
 .obtain ⟨p,B,g,C,D,rfl,hp,cs,h0,h1,q⟩:=h;refine ⟨_,(@Ai _ _ _ _ _ (CK (AcT aaU Aex T.i6 aaV aaW hr.d Bj (Ac (Aa 0 GZ) (Ac (Aa 1 K1) Af))))
    (Ai (Bz (Aa 0 GZ) (Aa 2 Aew) rfl)
    (Ai (Bz (Aa 0 GZ) (Aj BO (A7 (Ac Ag Af)) (Aa 1 K1)) rfl)
    (Ai (Bz (Aa 0 GZ) (Aj BO (A7 (Ac Ag Af)) (Aa 1 K1)) rfl)
    (Ap (Bz (Aa 0 GZ) Ag rfl)))))),?_⟩
  try dsimp only [aE,aF]
  walk_at"";refine A0 p B C D rfl hp cs.c h0 (by omega) (λH1 J L O x0 hp1 fa fb fc ha hb hc ab ac bc=>?_);walk_at"";refine A0 p C D _ rfl hp1 cs.c.cls cs.p (by show 3<1000;decide) ?_;generalize hP:upd H1 p (.ins C D (Ao "places" (.int g) (GY J L O)))=Y;have p0:Y p=some (.ins C D ([("held_by",.ref J),("jammed",.ref L),("taken",.ref O),("places",.int g)])):=hP▸Ah;have kC:Cv [p] H1 Y:=λb o hb e=>by rw [<- hP,Ak (by simpa using hb)];exact e
  walk_at"";refine ⟨AA,λl1 ko=>?_⟩;walk_at"";refine R9 (R9 (B3 l1 B [.int 0] rfl ⟨rfl,Ah,by omega,by omega,(by rw [TR,R8];omega),λI cy=>?_⟩));rw [Iv];generalize kq:upd Y l1 (.lst [.int 0])=gO at cy ⊢;have gP:Ae Y gO:=kq▸(Ae.refl Y).upd ko;generalize gQ:upd gO I (.lst (Ss B.toNat (V.int 0)))=fh;have gR:Ae Y fh:=gQ▸gP.upd cy;have e1:fh I=some (.lst (Ss B.toNat (V.int 0))):=gQ▸Ah;have f1:Y I=none:=gP.free cy;walk_at"";refine A0 p C D ([("held_by",.ref J),("jammed",.ref L),("taken",.ref O),("places",.int g)]) rfl (gR _ _ p0) cs.c.cls cs.s (by show 4<1000;decide) ?_;generalize fj:upd fh p (.ins C D (Ao "stands" (.ref I) ([("held_by",.ref J),("jammed",.ref L),("taken",.ref O),("places",.int g)])))=bo;have p1:bo p=some (.ins C D ([("held_by",.ref J),("jammed",.ref L),("taken",.ref O),("places",.int g),("stands",.ref I)])):=fj▸Ah;have x1:Cv [p] Y bo:=λb o hb e=>by rw [<- fj,Ak (by simpa using hb)];exact gR b o e
  have dE:I≠p:=λz=>by rw [z,p0] at f1;cases f1
  have c1:bo I=some (.lst (Ss B.toNat (V.int 0))):=by rw [<- fj,Ak dE];exact e1
  walk_at"";refine ⟨AA,λl3 fk=>?_⟩;walk_at"";refine R9 (R9 (B3 l3 B [.int 0] rfl ⟨rfl,Ah,by omega,by omega,(by rw [TR,R8];omega),λl4 fm=>?_⟩));rw [Iv];generalize kr:upd bo l3 (.lst [.int 0])=gU at fm ⊢;have gW:Ae bo gU:=kr▸(Ae.refl bo).upd fk;generalize gX:upd gU l4 (.lst (Ss B.toNat (V.int 0)))=fo;have gY:Ae bo fo:=gX▸gW.upd fm;have e2:fo l4=some (.lst (Ss B.toNat (V.int 0))):=gX▸Ah;have f2:bo l4=none:=gW.free fm;walk_at"";refine A0 p C D ([("held_by",.ref J),("jammed",.ref L),("taken",.ref O),("places",.int g),("stands",.ref I)]) rfl (gY _ _ p1) cs.c.cls cs.w (by show 5<1000;decide) ?_;generalize fq:upd fo p (.ins C D (Ao "went" (.ref l4) ([("held_by",.ref J),("jammed",.ref L),("taken",.ref O),("places",.int g),("stands",.ref I)])))=bI;have p2:bI p=some (.ins C D ([("held_by",.ref J),("jammed",.ref L),("taken",.ref O),("places",.int g),("stands",.ref I),("went",.ref l4)])):=fq▸Ah;have x2:Cv [p] bo bI:=λb o hb e=>by rw [<- fq,Ak (by simpa using hb)];exact gY b o e
  have dF:l4≠p:=λz=>by rw [z,p1] at f2;cases f2
  have c2:bI l4=some (.lst (Ss B.toNat (V.int 0))):=by rw [<- fq,Ak dF];exact e2
  walk_at"";refine A0 p C D _ rfl p2 cs.c.cls cs.m (by show 6<1000;decide) ?_;have one:∀{b:Addr},b≠p->b ∉ [p]:=λh z=>h (by simpa using z);have npa:J≠p:=λz=>by rw [z,hp] at fa;cases fa
  have npb:L≠p:=λz=>by rw [z,hp] at fb;cases fb
  have npc:O≠p:=λz=>by rw [z,hp] at fc;cases fc
  have up:Cv [p] bI (upd bI p (.ins C D (Ao "mark_at" (.int 0) ([("held_by",.ref J),("jammed",.ref L),("taken",.ref O),("places",.int g),("stands",.ref I),("went",.ref l4)])))):=λb o hb e=>by rw [Ak (by simpa using hb)];exact e
  have t1:∀ {b o},b≠p->H1 b=some o->(upd bI p (.ins C D (Ao "mark_at" (.int 0) ([("held_by",.ref J),("jammed",.ref L),("taken",.ref O),("places",.int g),("stands",.ref I),("went",.ref l4)])))) b=some o:=λh e=>up _ _ (one h) (x2 _ _ (one h) (x1 _ _ (one h) (kC _ _ (one h) e)));have back:∀ {b},b≠p->Y b=none->H1 b=none:=λ{b} h e=>by
   cases z:H1 b with
   | none=>rfl
   | some o=>rw [kC _ _ (one h) z] at e;cases e
  have oO:∀ {b},b≠p->H1 b=none->H b=none:=λ{b} h e=>by
   cases z:H b with
   | none=>rfl
   | some o=>rw [x0 _ _ (one h) z] at e;cases e
  have aaX:∀ {b},b≠p->bo b=none->Y b=none:=λ{b} h e=>by
   cases z:Y b with
   | none=>rfl
   | some o=>rw [x1 _ _ (one h) z] at e;cases e
  have g2:=back dE f1;have g4:=back dF (aaX dF f2);have z2:∀ {b o},H1 b=some o->b≠I:=λe=>Be e g2;have z4:∀ {b o},H1 b=some o->b≠l4:=λe=>Be e g4;refine q _ J L O I l4 (λb o hb e=>up _ _ hb (x2 _ _ hb (x1 _ _ hb (kC _ _ hb (x0 _ _ hb e))))) ⟨⟨D,Ah⟩,cs,t1 npa ha,t1 npb hb,t1 npc hc,?_,?_,?_,by rw [Ud,Ud],by rw [Ud,Ud],by rw [Ud,Ud],by rw [Ud,Ud],by rw [Ud];omega⟩ fa fb fc (oO dE g2) (oO dF g4)
  .rw [WN];exact up _ _ (one dE) (x2 _ _ (one dE) c1)
  .rw [WN];exact up _ _ (one dF) c2
  .simp only [Te,Si,Tz,or_false,not_or,not_false_eq_true,UY,and_true];exact ⟨⟨ab,ac,z2 ha,z4 ha⟩,⟨bc,z2 hb,z4 hb⟩,⟨z2 hc,z4 hc⟩,Be c1 f2⟩
structure TxtP (K:R0)(mg:Str->Option Value)(a:An):Prop extends Txt K mg a where
 oP:mg "all"=none
 gM:mg "list"=none
 fU:mg "tuple"=none
 cM:mg "sorted"=none
 i7:mg "set"=none
 oQ:mg "min"=none
 oR:∃ t,mg "SIGNS"=some (S2 "0123456789" t)
 oS:∃ t,mg "LEAST_LONG"=some (Tu 2 t)
 oU:∃ t,mg "MOST_LONG"=some (Tu 4 t)
 oX:∃ t,mg "MOST_LINES"=some (Tu 60 t)
 oY:∃ t,mg "MOST_SEEKERS"=some (Tu 60 t)
 oZ:∃ t,mg "MOST_GROUPS"=some (Tu 40 t)
 o3:∃ t,mg "MOST_SWITCHES"=some (Tu 10 t)
 bV:mg "BadPlan"=some (.ref a.av)
 dh:Ts K a.av [.type "ValueError",.type "Exception",.type "BaseException",.type "object"] "ValueError.__new__"=true
noncomputable def B5 (c:Nat):Bool:=decide (48<=c) && decide (c<=57)
theorem Eb {c:Nat}:B5 c=true↔48<=c/\c<=57:=by unfold B5;rw [Ug,decide_eq_true_eq,decide_eq_true_eq]
theorem K2:∀ c:Nat,c<128->D6 ⟨#[c]⟩ "0123456789"=B5 c:=by decide +kernel
theorem K4 {z:Str}(h:AS z):z.cps.all (·<128)=true:=by rw [<- sR,UW];intro c hc;exact decide_eq_true (h c hc)
def Iw:Sp:=λvs H Q _=>∃ z:Str,vs=[.str z]/\AS z/\z.length<=1000/\∀ b H',(b=true↔Bs z)->Ae H H'->Q (.bl b) H'
def O3 (a:An):Sp:=λvs H Q E=>∃ long ag:Int,vs=[.int long,.int ag]/\(2<=long/\long<=4/\1<=ag/\ag<=60->Q .ae H)/\(¬ (2<=long/\long<=4/\1<=ag/\ag<=60)->E (.ref a.av) none H)
theorem O4:A8 ["text"] ["text"] (Ab (top 3)):=.of
theorem Aez:Nm (Ab (top 3)) "text":=.of
theorem AeA:Gm (Ab (top 3)) "all":=.of
noncomputable def K5:Scope:={ kind:=.function,names:=[(".0",.local),("sign",.local),("SIGNS",.globalImplicit)],isGenerator:=false,isCoroutine:=false,more:=[] }
theorem O5:A1 K5 (Ab (top 3)) ["sign"] ["text"] [none]:=A1.mk' rfl (by decide +kernel) (by decide +kernel) (by decide +kernel) (by decide +kernel) rfl (by decide +kernel)
theorem O6:Nm K5 "sign":=.of
theorem AeB:Gm K5 "SIGNS":=.of
theorem AeC (F:AW K "are_figures" "are_figures" (top 3) f fd)(T:TxtP K mg a):AE P w K mg base AI 1 f fd ["text"] Iw:=by
 refine F.ok O4 λaf A outer s H vs Q E hr h=>?_
 .obtain ⟨z,rfl,J,hl,q⟩:=h;have nd:=O4.nd;refine ⟨_,(@Ap _ _ _ (AO (AH (AcW rfl) AeA T.oP Acm (Ac (EA rfl O5 (J6 (Aa 0 Aez)) (λg C L pins O Y=>(A9 0 O5.nd O6.comp)) (λg C L pins O Y=>D9) (λg C L pins O Y=>(Eu (AcI K rfl) (Aa 0 O6.comp) (KI AeB.comp T.oR) (by with_unfolding_all rfl)))) Af)))),?_⟩;try dsimp only [aE,aF]
  walk_at"";refine ⟨K4 J,λD hD=>?_⟩;have ll:z.cps.toList.length<=1000:=by rw [<- C2];exact hl
  refine KH (z:=z) (λi σ d=>∃ x,σ=[x]/\Ae H d/\d D=some (.lst (((z.cps.toList.take i).map B5).map V.bl))) ⟨none,rfl,(Ae.refl H).upd hD,Ah⟩ ?_ ?_
  .intro i c σ d hc B;obtain ⟨x,rfl,I,p⟩:=B;have g:c<128:=J c (SV hc);walk_at"";refine ⟨_,p,?_,_,rfl,I.bN hD,?_⟩
   .rw [R5,R5,SU,R8];omega
   .have e:V.bl (D6 ⟨#[c]⟩ "0123456789")=V.bl (B5 c):=by rw [K2 c g]
    rw [Ah,T9,hc,Su,Su];show some (HO.lst (_++[V.bl (D6 ⟨#[c]⟩ "0123456789")]))=_;rw [e];rfl
  .intro σ d B;obtain ⟨x,rfl,I,p⟩:=B;rw [TF] at p;refine CZ D _ rfl ⟨.of p,q _ d ?_ I⟩;rw [List.all_map,UW];exact ⟨λh c hc=>Eb.mp (h c hc),λh c hc=>Eb.mpr (h c hc)⟩
theorem AeD:A8 ["long","seekers"] ["long","seekers"] (Ab (top 24)):=.of
theorem AeE:Nm (Ab (top 24)) "long":=.of
theorem AeF:Nm (Ab (top 24)) "seekers":=.of
theorem O7:Gm (Ab (top 24)) "within":=.of
theorem AeG:Gm (Ab (top 24)) "MOST_SEEKERS":=.of
theorem O8:Gm (Ab (top 24)) "BadPlan":=.of
theorem AeH:Gm (Ab (top 24)) "MOST_LONG":=.of
theorem AeI:Gm (Ab (top 24)) "LEAST_LONG":=.of
theorem AeJ (F:AW K "check_counts" "check_counts" (top 24) f fd)(T:TxtP K mg a)(B:Bf P w K mg base AI 1 "within" ["number","least","most"] Iq):AE P w K mg base (Bd P w) 2 f fd ["long","seekers"] (O3 a):=by
 refine F.cw AeD λL A outer s H vs Q E D h=>?_
 .obtain ⟨l,k,rfl,J,I⟩:=h;refine ⟨_,(@Ai _ _ _ _ _ (AR (Cs (Dg (Bh B O7 D.d Bj (Ac (Aa 0 AeE) (Ac (FU AeI T.oS) (Ac (FU AeH T.oU) Af)))))) (Ap (CG CD O8 rfl T.dh T.bV (Ac Ay Af))) AQ)
    (Ap (AR (Cs (Dg (Bh B O7 D.d Bj (Ac (Aa 1 AeF) (Ac Ag (Ac (FU AeG T.oY) Af)))))) (Ap (CG CD O8 rfl T.dh T.bV (Ac Ay Af))) AQ))),?_⟩
  try dsimp only [aE,aF]
  walk_at"";refine B3 l 2 4 rfl ?_;walk_at"";by_cases g:2<=l/\l<=4
  .rw [decide_eq_true g.1,decide_eq_true g.2];refine Bv ?_;walk_at"";refine B3 k 1 60 rfl ?_;walk_at"";by_cases p:1<=k/\k<=60
   .rw [decide_eq_true p.1,decide_eq_true p.2];refine Bv ?_;exact J ⟨g.1,g.2,p.1,p.2⟩
   .have e:(decide (1<=k) && decide (k<=60))=false:=Wa.mpr λz=>p (by simpa using z);rw [e];refine Bt ?_;walk_at"";exact ⟨AA,I λz=>p z.2.2⟩
  .have e:(decide (2<=l) && decide (l<=4))=false:=Wa.mpr λz=>g (by simpa using z);rw [e];refine Bt ?_;walk_at"";exact ⟨AA,I λz=>g ⟨z.1,z.2.1⟩⟩
def Ok (z:Str):Prop:=AS z/\z.length<=20000
def Iy (long:Int)(zs:List Str):Prop:=(1<=zs.length/\zs.length<=60)/\(∀ z∈zs,(z.length:Int)=long/\Bs z)/\zs.Nodup
def O9 (a:An)(K:R0):Sp:=λvs H Q E=>∃(long:Int)(p:Addr)(zs:List Str),vs=[.int long,.ref p]/\0<=long/\long<=1000/\H p=some (.lst (zs.map V.str))/\(∀ z∈zs,Ok z)/\zs.length<2000/\(Iy long zs->∀ H',Ae H H'->Q .ae H')/\(¬ Iy long zs->∀ H',Ae H H'->E (.ref a.av) none H')
theorem Iz {z:Str}(h:Ok z):(Ys z).length<=1000000:=by
 have d:=StrLaws.reprText_len z λc hc=>by have:=h.1 c hc;omega
 have:=h.2;omega
theorem K6 {α:Type}{xs:List α}{i:Nat}{x:α}{R:α->Prop}(h:xs[i]?=some x)(d:∀ y∈xs.take i,R y)(hx:R x):∀ y∈xs.take (i+1),R y:=by
 rw [T9,h];intro y hy;rcases SG.mp hy with z | z
 .exact d y z
 .have:y=x:=by simpa using z
  rw [this];exact hx
theorem Pa:A8 ["long","lines","number"] ["long","lines"] (Ab (top 25)):=.of
theorem Pb:Nm (Ab (top 25)) "long":=.of
theorem IA:Nm (Ab (top 25)) "lines":=.of
theorem IC:Nm (Ab (top 25)) "number":=.of
theorem ID:Gm (Ab (top 25)) "len":=.of
theorem AeK:Gm (Ab (top 25)) "set":=.of
theorem K7:Gm (Ab (top 25)) "BadPlan":=.of
theorem AeL:Gm (Ab (top 25)) "are_figures":=.of
theorem AeM:Gm (Ab (top 25)) "within":=.of
theorem AeN:Gm (Ab (top 25)) "MOST_LINES":=.of
theorem AeO (F:AW K "check_lines" "check_lines" (top 25) f fd)(T:TxtP K mg a)(cN:Bf P w K mg base AI 1 "within" ["number","least","most"] Iq)(dG:Bf P w K mg base AI 1 "are_figures" ["text"] Iw) :
  AE P w K mg base (Bd P w) 2 f fd ["long","lines"] (O9 a K):=by
 refine F.cw Pa λaf A outer s H vs Q E hr h=>?_
 .obtain ⟨I,p,zs,rfl,l0,l1,hp,ok,aD,q1,q2⟩:=h;have hu:=hr.units;have nd:=Pa.nd;refine ⟨_,(@Ai _ _ _ _ _ (AR (Cs (Dg (Bh cN AeM hr.d Bj (Ac (AH Bl ID T.n_len Bg (Ac (Aa 1 IA) Af)) (Ac Ag (Ac (FU AeN T.oX) Af)))))) (Ap (CG CD K7 rfl T.dh T.bV (Ac Ay Af))) AQ)
    (Ai (C6 XM rfl (C5 (Aa 1 IA)) (A9 2 nd IC) (Ap (AR (PW.pt (Cz (AK (Ca hu) (AH Bl ID T.n_len Bg (Ac (Aa 2 IC) Af)) (Aa 0 Pb) (AN _)) (Dh (Cs (Dg (Bh dG AeL hr.d Bj (Ac (Aa 2 IC) Af))))))) (Ap (CG CD K7 rfl T.dh T.bV (Ac (Ff (BJ (Fd (Aa 2 IC)) (BJ Ay (BJ (HY (Aa 0 Pb)) (BJ Ay Fe))))) Af))) AQ)))
    (Ap (AR (AK (Ca hu) (AH (Ot (w:=w) rfl) ID T.n_len Bg (Ac (CF (Kx (w:=w) rfl rfl) AeK T.i7 Ka (Ac (Aa 1 IA) Af)) Af)) (AH Bl ID T.n_len Bg (Ac (Aa 1 IA) Af)) (AN _)) (Ap (CG CD K7 rfl T.dh T.bV (Ac Ay Af))) AQ)))),?_⟩
  try dsimp only [aE,aF]
  walk_at"";refine R9 (AX _ _ rfl (.inl (.of hp)) ?_);rw [R5];walk_at"";refine B3 _ 1 60 rfl ?_;walk_at"";by_cases h1:1<=zs.length/\zs.length<=60
  .have e1:(decide (1<=(zs.length:Int)) && decide ((zs.length:Int)<=60))=true:=by simp;omega
   rw [e1];refine Bv ?_;walk_at"";refine ⟨⟨_,.of hp⟩,FG (K:=K) (a:=p) (xs:=zs.map V.str) (λi σ L=>∃ x,σ=[some (.int I),some (.ref p),x]/\Ae H L/\∀ z∈zs.take i,(z.length:Int)=I/\Bs z) ⟨none,rfl,Ae.refl H,λz Y=>absurd Y (by simp)⟩ (λi σ L _ ⟨_,_,J,_⟩=>.of (J _ _ hp)) ?_ ?_⟩
   .intro i y σ L hi zq;obtain ⟨x,rfl,J,dn⟩:=zq;rw [SK] at hi;cases hk:zs[i]? with
    | none=>rw [hk] at hi;cases hi
    | some z =>
     rw [hk] at hi;cases hi;have Y:=ok z (SV hk);have zl:z.length<=20000:=Y.2;walk_at"";refine Sd (BB z rfl (by rw [R8];omega) ?_);walk_at"";have g:Sz.length=0:=rfl;have B:(Sa " is no number of ").length=17:=by decide +kernel
     have D:(Sa " figures").length=8:=by decide +kernel
     have fV:=Iz Y;by_cases he:(z.length:Int)=I
     .rw [decide_eq_true (congrArg V.int he)];refine Bv ?_;walk_at"";refine ⟨Y.1,by omega,λb H3 hb O=>?_⟩;walk_at"";cases b with
      | true =>
       refine Bv ?_;exact ⟨_,rfl,J.trans O,K6 hk dn ⟨he,hb.mp rfl⟩⟩
      | false =>
       refine Bt ?_;walk_at"";refine ⟨(by simp only [AV,g,B,D,R8];omega),?_⟩;walk_at"";refine ⟨(by simp only [AV,g,B,D,R8];omega),?_⟩;walk_at"";refine ⟨(by simp only [AV,g,B,D,R8];omega),?_⟩;walk_at"";refine Sd (DJ _ rfl ⟨l0,l1,λu gZ=>?_⟩);walk_at"";refine ⟨(by simp only [AV,g,B,D,R8];omega),?_⟩;walk_at"";refine ⟨(by simp only [AV,g,B,D,R8];omega),?_⟩;refine ⟨(by simp only [AV,g,B,D,R8];omega),?_⟩;exact ⟨AA,q2 (λk=>by have:=hb.mpr (k.2.1 z (SV hk)).2;cases this) H3 (J.trans O)⟩
     .rw [decide_eq_false (λk=>he (V.int.inj k))];refine Bt ?_;walk_at"";refine ⟨(by simp only [AV,g,B,D,R8];omega),?_⟩;walk_at"";refine ⟨(by simp only [AV,g,B,D,R8];omega),?_⟩;walk_at"";refine ⟨(by simp only [AV,g,B,D,R8];omega),?_⟩;walk_at"";refine Sd (DJ _ rfl ⟨l0,l1,λu gZ=>?_⟩);walk_at"";refine ⟨(by simp only [AV,g,B,D,R8];omega),?_⟩;walk_at"";refine ⟨(by simp only [AV,g,B,D,R8];omega),?_⟩;refine ⟨(by simp only [AV,g,B,D,R8];omega),?_⟩;exact ⟨AA,q2 (λk=>he (k.2.1 z (SV hk)).1) L J⟩
   .intro σ L zq;obtain ⟨x,rfl,J,dn⟩:=zq;rw [R5,TF] at dn;walk_at"";refine Bw p zs rfl (.of (J _ _ hp)) aD (λl hl=>?_);have O:Ae H (upd L l (Bo w l zs)):=J.upd hl;refine AX l zs rfl Ah (λn hn=>?_);walk_at"";refine R9 (AX _ _ rfl (.inl (.of (O _ _ hp))) ?_);rw [R5];walk_at"";by_cases hd:zs.Nodup
    .rw [decide_eq_true (congrArg (λk:Nat=>V.int k) (hn.mpr hd))];refine Bv ?_;exact q1 ⟨h1,dn,hd⟩ _ O
    .have ne:¬ (V.int n=V.int zs.length):=λk=>hd (hn.mp (by have:=V.int.inj k;omega));rw [decide_eq_false ne];refine Bt ?_;walk_at"";exact ⟨AA,q2 (λk=>hd k.2.2) _ O⟩
  .have e1:(decide (1<=(zs.length:Int)) && decide ((zs.length:Int)<=60))=false:=Wa.mpr λz=>h1 (by simp at z;omega);rw [e1];refine Bt ?_;walk_at"";exact ⟨AA,q2 (λz=>h1 z.1) H (Ae.refl H)⟩
def K8 (long:Int)(ts:List Pr):Prop:=ts.length<=40/\(∀ t∈ts,(1<=(t.2.1.length:Int)/\(t.2.1.length:Int)<=long - 2)/\Bs t.2.1/\0<=t.2.2/\t.2.2<=10)/\(ts.map (·.2.1)).Nodup
def Pc (a:An):Sp:=λvs H Q E=>∃(long:Int)(p:Addr)(ts:List Pr),vs=[.int long,.ref p]/\0<=long/\long<=1000/\H p=some (.lst (ts.map AD))/\BR H ts/\(∀ t∈ts,Ok t.2.1)/\ts.length<2000/\(K8 long ts->∀ H',Ae H H'->Q .ae H')/\(¬ K8 long ts->∀ H',Ae H H'->E (.ref a.av) none H')
theorem Pd:A8 ["long","groups","prefix","many"] ["long","groups"] (Ab (top 26)):=.of
theorem Pe:Nm (Ab (top 26)) "long":=.of
theorem IE:Nm (Ab (top 26)) "groups":=.of
theorem IF:Nm (Ab (top 26)) "prefix":=.of
theorem Pf:Nm (Ab (top 26)) "many":=.of
theorem IG:Gm (Ab (top 26)) "len":=.of
theorem IH:Gm (Ab (top 26)) "BadPlan":=.of
theorem Pg:Gm (Ab (top 26)) "within":=.of
theorem AeP:Gm (Ab (top 26)) "MOST_SWITCHES":=.of
theorem AeQ:Gm (Ab (top 26)) "are_figures":=.of
theorem AeR:Gm (Ab (top 26)) "MOST_GROUPS":=.of
noncomputable def K9:Scope:={ kind:=.function,names:=[(".0",.local),("prefix",.local),("many",.local)],isGenerator:=false,isCoroutine:=false,more:=[] }
theorem La:A1 K9 (Ab (top 26)) ["prefix","many"] ["long","groups","prefix","many"] [none,none]:=A1.mk' rfl (by decide +kernel) (by decide +kernel) (by decide +kernel) (by decide +kernel) rfl (by decide +kernel)
theorem Ph:Nm K9 "prefix":=.of
theorem AeS:Nm K9 "many":=.of
theorem AeT (F:AW K "check_groups" "check_groups" (top 26) f fd)(T:TxtP K mg a)(cN:Bf P w K mg base AI 1 "within" ["number","least","most"] Iq)(dG:Bf P w K mg base AI 1 "are_figures" ["text"] Iw) :
  AE P w K mg base (Bd P w) 2 f fd ["long","groups"] (Pc a):=by
 refine F.cw Pd λaf A outer s H vs Q E hr h=>?_
 .obtain ⟨g,p,ts,rfl,l0,l1,hp,lay,ok,aD,q1,q2⟩:=h;have hu:=hr.units;have nd:=Pd.nd;refine ⟨_,(@Ai _ _ _ _ _ (AR (AK Gu (AH Bl IG T.n_len Bg (Ac (Aa 1 IE) Af)) (FU AeR T.oZ) (AN _)) (Ap (CG CD IH rfl T.dh T.bV (Ac Ay Af))) AQ)
    (Ai (C6 XM rfl (C5 (Aa 1 IE)) (Gn rfl (BW (A9 2 nd IF) (BW (A9 3 nd Pf) DZ))) (Ai (AR (PW.pt (Cz (Cs (Dg (Bh cN Pg hr.d Bj (Ac (AH Bl IG T.n_len Bg (Ac (Aa 2 IF) Af)) (Ac Ag (Ac (Aj Et (Aa 0 Pe) Ag) Af)))))) (Dh (Cs (Dg (Bh dG AeQ hr.d Bj (Ac (Aa 2 IF) Af))))))) (Ap (CG CD IH rfl T.dh T.bV (Ac (Ff (BJ (Fd (Aa 2 IF)) (BJ Ay (BJ (HY (Aa 0 Pe)) (BJ Ay Fe))))) Af))) AQ)
     (Ap (AR (Cs (Dg (Bh cN Pg hr.d Bj (Ac (Aa 3 Pf) (Ac Ag (Ac (FU AeP T.o3) Af)))))) (Ap (CG CD IH rfl T.dh T.bV (Ac Ay Af))) AQ))))
    (Ap (AR (AK (Ca hu) (AH (Ot (w:=w) rfl) IG T.n_len Bg (Ac (Adm (w:=w) rfl rfl La (C5 (Aa 1 IE)) (λcl C fp pins s₂ H₂=>(GI (X:=AF _ _ _ cl C fp pins s₂ H₂) K rfl 2 rfl (BW (A9 0 La.nd Ph.comp) (BW (A9 1 La.nd AeS.comp) DZ)) rfl rfl)) (λcl C fp pins s₂ H₂=>D9) (λcl C fp pins s₂ H₂=>(Aa 0 Ph.comp))) Af)) (AH Bl IG T.n_len Bg (Ac (Aa 1 IE) Af)) (AN _)) (Ap (CG CD IH rfl T.dh T.bV (Ac Ay Af))) AQ)))),?_⟩
  try dsimp only [aE,aF]
  walk_at"";refine R9 (AX _ _ rfl (.inl (.of hp)) ?_);rw [R5];walk_at"";by_cases h1:(ts.length:Int) > 40
  .refine CP (decide_eq_true h1) ?_;walk_at"";exact ⟨AA,q2 (λz=>by have:=z.1;omega) H (Ae.refl H)⟩
  refine CQ (decide_eq_false h1) ?_;walk_at"";refine ⟨⟨_,.of hp⟩,FG (K:=K) (a:=p) (xs:=ts.map AD) (λi σ Y=>∃ x y,σ=[some (.int g),some (.ref p),x,y]/\Ae H Y/\∀ t∈ts.take i,(1<=(t.2.1.length:Int)/\(t.2.1.length:Int)<=g - 2)/\Bs t.2.1/\0<=t.2.2/\t.2.2<=10) ⟨none,none,rfl,Ae.refl H,λz hz=>absurd hz (by simp)⟩ (λi σ Y _ ⟨_,_,_,B,_⟩=>.of (B _ _ hp)) ?_ ?_⟩
  .intro i y σ Y O zq;obtain ⟨x,y',rfl,B,dn⟩:=zq;rw [SK] at O;cases hk:ts[i]? with
   | none=>rw [hk] at O;cases O
   | some t =>
    rw [hk] at O;cases O;have tm:=SV hk;have hz:=ok t tm;have zl:t.2.1.length<=20000:=hz.2;have I:Sz.length=0:=rfl;have J:(Sa " is no prefix where numbers have ").length=33:=by decide +kernel
    have L:(Sa " figures").length=8:=by decide +kernel
    have fV:=Iz hz;refine ⟨t.1,_,rfl,.of (B _ _ (lay t tm)),rfl,?_⟩;walk_at"";refine Sd (BB _ rfl (by rw [R8];omega) ?_);walk_at"";refine B3 _ 1 (g - 2) rfl ?_;walk_at"";by_cases hw:1<=(t.2.1.length:Int)/\(t.2.1.length:Int)<=g - 2
    .rw [decide_eq_true hw.1,decide_eq_true hw.2];refine Bv ?_;walk_at"";refine ⟨hz.1,by omega,λb H3 hb s3=>?_⟩;walk_at"";cases b with
     | true =>
      refine Bv ?_;walk_at"";refine B3 _ 0 10 rfl ?_;walk_at"";by_cases hm:0<=t.2.2/\t.2.2<=10
      .rw [decide_eq_true hm.1,decide_eq_true hm.2];refine Bv ?_;exact CZ _ _ rfl ⟨B.trans s3,K6 hk dn ⟨hw,hb.mp rfl,hm.1,hm.2⟩⟩
      .have e:(decide (0<=t.2.2) && decide (t.2.2<=10))=false:=Wa.mpr λz=>hm (by simpa using z);rw [e];refine Bt ?_;walk_at"";exact ⟨AA,q2 (λk=>hm (k.2.1 t tm).2.2) H3 (B.trans s3)⟩
     | false =>
      refine Bt ?_;walk_at"";refine ⟨(by simp only [AV,I,J,L,R8];omega),?_⟩;walk_at"";refine ⟨(by simp only [AV,I,J,L,R8];omega),?_⟩;walk_at"";refine ⟨(by simp only [AV,I,J,L,R8];omega),?_⟩;walk_at"";refine Sd (DJ _ rfl ⟨l0,l1,λu gZ=>?_⟩);walk_at"";refine ⟨(by simp only [AV,I,J,L,R8];omega),?_⟩;walk_at"";refine ⟨(by simp only [AV,I,J,L,R8];omega),?_⟩;refine ⟨(by simp only [AV,I,J,L,R8];omega),?_⟩;exact ⟨AA,q2 (λk=>by have:=hb.mpr (k.2.1 t tm).2.1;cases this) H3 (B.trans s3)⟩
    .have e:(decide (1<=(t.2.1.length:Int)) && decide ((t.2.1.length:Int)<=g - 2))=false:=Wa.mpr λz=>hw (by simpa using z);rw [e];refine Bt ?_;walk_at"";refine ⟨(by simp only [AV,I,J,L,R8];omega),?_⟩;walk_at"";refine ⟨(by simp only [AV,I,J,L,R8];omega),?_⟩;walk_at"";refine ⟨(by simp only [AV,I,J,L,R8];omega),?_⟩;walk_at"";refine Sd (DJ _ rfl ⟨l0,l1,λu gZ=>?_⟩);walk_at"";refine ⟨(by simp only [AV,I,J,L,R8];omega),?_⟩;walk_at"";refine ⟨(by simp only [AV,I,J,L,R8];omega),?_⟩;refine ⟨(by simp only [AV,I,J,L,R8];omega),?_⟩;exact ⟨AA,q2 (λk=>hw (k.2.1 t tm).1) Y B⟩
  .intro σ Y zq;obtain ⟨x,y',rfl,B,dn⟩:=zq;rw [R5,TF] at dn;walk_at"";have kD:=B _ _ hp;refine ⟨⟨_,.of kD⟩,λD hD=>?_⟩;refine Adz (K:=K) (w:=w) (a:=p) (xs:=ts.map AD) (λi σ H'=>∃ x y,σ=[x,y]/\Ae Y H'/\H' D=some (Bo w D ((ts.take i).map (·.2.1)))) ⟨none,none,rfl,(Ae.refl Y).upd hD,Ah⟩ (λi σ H' _ ⟨_,_,_,sm,_⟩=>.of (sm _ _ (B _ _ hp))) ?_ ?_
   .intro i x σ H' O zq;obtain ⟨x0,x1,rfl,sm,hL⟩:=zq;rw [SK] at O;cases hk:ts[i]? with
    | none=>rw [hk] at O;cases O
    | some t =>
     rw [hk] at O;cases O;have tm:=SV hk;refine ⟨t.1,_,rfl,.of (sm _ _ (B _ _ (lay t tm))),rfl,?_⟩;walk_at"";refine CZ _ _ rfl ⟨hL,?_,_,_,rfl,sm.bN hD,?_⟩
     .rw [R5,SU];omega
     .rw [Ah,T9,hk,Su];rfl
   .intro σ H' zq;obtain ⟨x0,x1,rfl,sm,hL⟩:=zq;rw [R5,TF] at hL;refine AX D _ rfl hL (λn hn=>?_);rw [R5] at hn;walk_at"";have s3:=B.trans sm;refine R9 (AX _ _ rfl (.inl (.of (s3 _ _ hp))) ?_);rw [R5];walk_at"";by_cases hd:(ts.map (·.2.1)).Nodup
    .rw [decide_eq_true (congrArg (λk:Nat=>V.int k) (hn.mpr hd))];refine Bv ?_;exact q1 ⟨by omega,dn,hd⟩ _ s3
    .have ne:¬ (V.int n=V.int ts.length):=λk=>hd (hn.mp (by have:=V.int.inj k;omega));rw [decide_eq_false ne];refine Bt ?_;walk_at"";exact ⟨AA,q2 (λk=>hd k.2.2) _ s3⟩
structure G5 (K:R0)(C:Addr):Prop where
 cls:B7 K C
 l:Bn K C "long"
 n:Bn K C "lines"
 s:Bn K C "seekers"
 g:Bn K C "groups"
noncomputable def DB (long:Int)(lt:Addr)(ag:Int)(gt:Addr):List (Str×V):=[("long",.int long),("lines",.ref lt),("seekers",.int ag),("groups",.ref gt)]
def DR (long ag:Int)(zs:List Str)(ts:List Pr):Prop:=(2<=long/\long<=4/\1<=ag/\ag<=60)/\Iy long zs/\K8 long ts
structure ED (H:Hp)(l g:Addr)(zs:List Str)(ts:List Pr):Prop where
 l:H l=some (.lst (zs.map V.str))
 g:H g=some (.lst (ts.map AD))
 lay:BR H ts
 dj:∀ z∈zs,Ok z
 bQ:∀ t∈ts,Ok t.2.1
 fl:zs.length<2000
 fg:ts.length<2000
theorem ED.same {H d:Hp}{l g:Addr}{zs:List Str}{ts:List Pr}(p:ED H l g zs ts)(s:Ae H d):ED d l g zs ts:=⟨s _ _ p.l,s _ _ p.g,p.lay.same s,p.dj,p.bQ,p.fl,p.fg⟩
def Lb (a:An)(K:R0):Sp:=λvs H Q E=>∃(p:Addr)(long:Int)(l:Addr)(ag:Int)(g C dx:Addr)(zs:List Str)(ts:List Pr),vs=[.ref p,.int long,.ref l,.int ag,.ref g]/\H p=some (.ins C dx [])/\G5 K C/\ED H l g zs ts /\
 (DR long ag zs ts->∀(H':Hp)(lt gt:Addr)(zs':List Str)(aq:List Pr),Cv [p] H H'->H' p=some (.ins C dx (DB long lt ag gt))->H' lt=some (.tup (zs'.map V.str))->H' gt=some (.tup (aq.map AD))->zs'.Perm zs->zs'.Pairwise BQ->aq.Perm ts->aq.Pairwise (λx y=>BQ x.2.1 y.2.1)->Q .ae H') /\
 (¬ DR long ag zs ts->∀ H',Ae H H'->E (.ref a.av) none H')
theorem Pj:A8 ["self","long","lines","seekers","groups"] ["self","long","lines","seekers","groups"] (Ab (Au (top 23) 0)):=.of
theorem II:Nm (Ab (Au (top 23) 0)) "self":=.of
theorem IJ:Nm (Ab (Au (top 23) 0)) "long":=.of
theorem Pk:Nm (Ab (Au (top 23) 0)) "lines":=.of
theorem Pl:Nm (Ab (Au (top 23) 0)) "seekers":=.of
theorem Pn:Nm (Ab (Au (top 23) 0)) "groups":=.of
theorem Po:Gm (Ab (Au (top 23) 0)) "tuple":=.of
theorem Pp:Gm (Ab (Au (top 23) 0)) "sorted":=.of
theorem AeU:Gm (Ab (Au (top 23) 0)) "check_groups":=.of
theorem AeV:Gm (Ab (Au (top 23) 0)) "check_lines":=.of
theorem AeW:Gm (Ab (Au (top 23) 0)) "check_counts":=.of
theorem AeX (F:AW K "__init__" "Plan.__init__" (Au (top 23) 0) f fd)(T:TxtP K mg a)(kE:Bf P w K mg base (Bd P w) 2 "check_counts" ["long","seekers"] (O3 a))(kF:Bf P w K mg base (Bd P w) 2 "check_lines" ["long","lines"] (O9 a K))(kG:Bf P w K mg base (Bd P w) 2 "check_groups" ["long","groups"] (Pc a)) :
  AE P w K mg base (Bd P w) 3 f fd ["self","long","lines","seekers","groups"] (Lb a K):=by
 refine F.cw Pj λaf A outer s H vs Q E hr h=>?_
 .obtain ⟨p,B,l,ag,g,C,D,zs,ts,rfl,hp,pc,pt,q1,q2⟩:=h;have hu:=hr.units;have nd:=Pj.nd;refine ⟨_,(@Ai _ _ _ _ _ (CK (Bh kE AeW hr.d C8 (Ac (Aa 1 IJ) (Ac (Aa 3 Pl) Af))))
    (Ai (CK (Bh kF AeV hr.d C8 (Ac (Aa 1 IJ) (Ac (Aa 2 Pk) Af))))
    (Ai (CK (Bh kG AeU hr.d C8 (Ac (Aa 1 IJ) (Ac (Aa 4 Pn) Af))))
    (Ai (Bz (Aa 0 II) (Aa 1 IJ) rfl)
    (Ai (Bz (Aa 0 II) (CF HM Po T.fU HS (Ac (AH GJ Pp T.cM DP (Ac (Aa 2 Pk) Af)) Af)) rfl)
    (Ai (Bz (Aa 0 II) (Aa 3 Pl) rfl)
    (Ap (Bz (Aa 0 II) (CF HM Po T.fU HS (Ac (AH Ku Pp T.cM DP (Ac (Aa 4 Pn) Af)) Af)) rfl)))))))),?_⟩
  try dsimp only [aE,aF]
  walk_at"";refine ⟨λhC=>?_,λhC=>q2 (λz=>hC z.1) H (Ae.refl H)⟩;walk_at"";refine B3 B l zs rfl ⟨by omega,by omega,pt.l,pt.dj,pt.fl,λhL H1 Y=>?_,λhL H1 Y=>q2 (λz=>hL z.2.1) H1 Y⟩;have o4:=pt.same Y;walk_at"";refine B3 B g ts rfl ⟨by omega,by omega,o4.g,o4.lay,pt.bQ,pt.fg,λhG H2 s2=>?_,λhG H2 s2=>q2 (λz=>hG z.2.2) H2 (Y.trans s2)⟩;have fW:=Y.trans s2;have g0:=pt.same fW;have kD:=fW _ _ hp;walk_at"";refine A0 p C D [] rfl kD pc.cls pc.l (by show 0<1000;decide) ?_;generalize hA:upd H2 p (.ins C D (Ao "long" (.int B) []))=L;have xA:Cv [p] H L:=λb o hb e=>by rw [<- hA,Ak (by simpa using hb)];exact fW _ _ e
  have pA:L p=some (.ins C D [("long",.int B)]):=hA▸Ah;have np:∀ {b xs},H b=some (.lst xs)->b ∉ [p]:=λh z=>by rw [SA.mp z,hp] at h;cases h
  have np':∀ {b xs},H b=some (.tup xs)->b ∉ [p]:=λh z=>by rw [SA.mp z,hp] at h;cases h
  walk_at"";have hl:=hL.1.2;refine Bw l zs rfl (.of (xA _ _ (np pt.l) pt.l)) (by omega) (λl1 zs' n1 pz so=>?_);have sB:=(Ae.refl L).upd (o:=.lst (zs'.map V.str)) n1;refine CZ l1 (zs'.map V.str) rfl (Sd ⟨.of Ah,λlt n2=>?_⟩);have sC:=sB.upd (o:=.tup (zs'.map V.str)) n2;have eC:(upd (upd L l1 (.lst (zs'.map V.str))) lt (.tup (zs'.map V.str))) lt=some (.tup (zs'.map V.str)):=Ah;have fC:L lt=none:=sB.free n2;generalize upd (upd L l1 (.lst (zs'.map V.str))) lt (.tup (zs'.map V.str))=HC at sC eC ⊢;walk_at"";refine A0 p C D _ rfl (sC _ _ pA) pc.cls pc.n (by show 1<1000;decide) ?_;generalize hD:upd HC p (.ins C D (Ao "lines" (.ref lt) [("long",.int B)]))=HD;have kH:lt≠p:=λz=>by rw [z,pA] at fC;cases fC
  have xD:Cv [p] H HD:=λb o hb e=>by rw [<- hD,Ak (by simpa using hb)];exact sC _ _ (xA _ _ hb e)
  have pD:HD p=some (.ins C D [("long",.int B),("lines",.ref lt)]):=hD▸Ah;have eD:HD lt=some (.tup (zs'.map V.str)):=by rw [<- hD,Ak kH];exact eC
  walk_at"";refine A0 p C D _ rfl pD pc.cls pc.s (by show 2<1000;decide) ?_;generalize hE:upd HD p (.ins C D (Ao "seekers" (.int ag) [("long",.int B),("lines",.ref lt)]))=J;have xE:Cv [p] H J:=λb o hb e=>by rw [<- hE,Ak (by simpa using hb)];exact xD _ _ hb e
  have pE:J p=some (.ins C D [("long",.int B),("lines",.ref lt),("seekers",.int ag)]):=hE▸Ah;have eE:J lt=some (.tup (zs'.map V.str)):=by rw [<- hE,Ak kH];exact eD
  walk_at"";have aaY:BR J ts:=λt m=>xE _ _ (np' (pt.lay t m)) (pt.lay t m);have hg:=hG.1;refine CZ g ts rfl ⟨.of (xE _ _ (np pt.g) pt.g),aaY,hG.2.2,by omega,λl3 I n3 bu kI=>?_⟩;have sF:=(Ae.refl J).upd (o:=.lst (I.map AD)) n3;refine CZ l3 (I.map AD) rfl (Sd ⟨.of Ah,λO n4=>?_⟩);have sG:=sF.upd (o:=.tup (I.map AD)) n4;have eG:(upd (upd J l3 (.lst (I.map AD))) O (.tup (I.map AD))) O=some (.tup (I.map AD)):=Ah;have fG:J O=none:=sF.free n4;generalize upd (upd J l3 (.lst (I.map AD))) O (.tup (I.map AD))=HG at sG eG ⊢;walk_at"";refine A0 p C D _ rfl (sG _ _ pE) pc.cls pc.g (by show 3<1000;decide) ?_;have ngt:O≠p:=λz=>by rw [z,pE] at fG;cases fG
  refine q1 ⟨hC,hL,hG⟩ _ lt O zs' I (λb o hb e=>by rw [Ak (by simpa using hb)];exact sG _ _ (xE _ _ hb e)) Ah ?_ ?_ pz so bu kI
  .rw [Ak kH];exact sG _ _ eE
  .rw [Ak ngt];exact eG
theorem Lc {z:Str}(h:AS z):Vz (.str z)=true:=by show z.cps.all (·<0x110000)=true;rw [<- sR,UW];intro c hc;have:=h c hc;simp only [decide_eq_true_eq];omega
theorem EE:∀{zs:List Str},(∀ z∈zs,AS z)->V3 (zs.map Tj)=true/\U4 (zs.map Tj)<=1
 | [],_=>⟨rfl,by decide⟩
 | z :: zs,h=>by
  obtain ⟨d,g⟩:=EE λy hy=>h y (SI _ hy);refine ⟨?_,?_⟩
  .show (Vz _ && V3 _)=true;rw [Lc (h z SS),d];rfl
  .show max (Ua (.str z)) (U4 _)<=1;refine Y4.mpr ⟨?_,g⟩;simp [Ua]
theorem DS {K:R0}{H:Hp}:∀ zs:List Str,aR K H (zs.map V.str) (zs.map Tj)
 | []=>.nil
 | z :: zs=>.cons (.str z) (DS zs)
theorem AeY (ds:List PyData):Ua (.tuple ds)=U4 ds+1:=by simp [Ua]
theorem Fn (ds:List PyData):Ua (.list ds)=U4 ds+1:=by simp [Ua]
theorem FZ:∀{a b:List Str},(∀ z∈a,AS z)->W3 (a.map Tj) (b.map Tj)=decide (a=b)
 | [],[],_=>by simp [W3]
 | [],_ :: _,_=>by simp [W3]
 | _ :: _,[],_=>by simp [W3]
 | x :: a,y :: b,h=>by
  have ih:=FZ (a:=a) (b:=b) λz d=>h z (SI _ d);rw [Th,Th,W3,ih,U9];simp [UR]
def DC (long:Int)(z:Str):Bool:=!decide ((z.length:Int)=long)
def CS (long:Int)(t:Pr):Bool:=!(decide (1<=(t.2.1.length:Int)) && decide ((t.2.1.length:Int)<=long - 2)) || !(decide (0<=t.2.2) && decide (t.2.2<=10))
theorem Ld {long:Int}{t:Pr}:CS long t=false↔(1<=(t.2.1.length:Int)/\(t.2.1.length:Int)<=long - 2)/\0<=t.2.2/\t.2.2<=10:=by unfold CS;simp
theorem IK {long:Int}{z:Str}:DC long z=false↔(z.length:Int)=long:=by unfold DC;simp
def Pq (K:R0):Sp:=λvs H Q _=>∃(long:Int)(l:Addr)(ag:Int)(g:Addr)(zs:List Str)(ts:List Pr),vs=[.int long,.ref l,.int ag,.ref g]/\ED H l g zs ts/\∀ b H',(b=true↔DR long ag zs ts)->Ae H H'->Q (.bl b) H'
theorem Fo {α β:Type}{xs:List α}{i:Nat}{x:α}{f:α->β}{p:α->Bool}(h:xs[i]?=some x):((xs.take (i+1)).filter p).map f=((xs.take i).filter p).map f++if p x=true then [f x] else []:=by
 rw [T9,h,sS,Su];congr 1
 show (List.filter p [x]).map f=_;by_cases q:p x=true
 .rw [if_pos q,XE,if_pos q];rfl
 .rw [if_neg q,XE,if_neg q];rfl
theorem Pt:A8 ["long","lines","seekers","groups","heads","text"] ["long","lines","seekers","groups"] (Ab (top 98)):=.of
theorem AeZ:Fj (Ab (top 98)) "long":=by walk_at "k"
theorem G6:Nm (Ab (top 98)) "lines":=.of
theorem Ae0:Nm (Ab (top 98)) "seekers":=.of
theorem Le:Nm (Ab (top 98)) "groups":=.of
theorem IL:Nm (Ab (top 98)) "heads":=.of
theorem Pu:Nm (Ab (top 98)) "text":=.of
theorem IM:Gm (Ab (top 98)) "sorted":=.of
theorem Pw:Gm (Ab (top 98)) "set":=.of
theorem Px:Gm (Ab (top 98)) "len":=.of
def IP:Scope:={ kind:=.function,names:=[(".0",.local),("pair",.local),("len",.globalImplicit),("long",.free)],isGenerator:=false,isCoroutine:=false,more:=[] }
theorem Py:A1 IP (Ab (top 98)) ["pair","long"] ["long","lines","seekers","groups","heads","text"] [none,some 0]:=A1.mk' rfl (by decide +kernel) (by decide +kernel) (by decide +kernel) (by decide +kernel) rfl (by decide +kernel)
theorem IQ:Nm IP "pair":=.of
theorem Ae1:Fl IP "long":=by walk_at "k"
theorem Ae2:Gm IP "len":=.of
def IS:Scope:={ kind:=.function,names:=[(".0",.local),("line",.local),("len",.globalImplicit),("long",.free)],isGenerator:=false,isCoroutine:=false,more:=[] }
theorem Pz:A1 IS (Ab (top 98)) ["line","long"] ["long","lines","seekers","groups","heads","text"] [none,some 0]:=A1.mk' rfl (by decide +kernel) (by decide +kernel) (by decide +kernel) (by decide +kernel) rfl (by decide +kernel)
theorem Lf:Nm IS "line":=.of
theorem Ae3:Fl IS "long":=by walk_at "k"
theorem Ae4:Gm IS "len":=.of
def PB:Scope:={ kind:=.function,names:=[(".0",.local),("sign",.local)],isGenerator:=false,isCoroutine:=false,more:=[] }
theorem PC:A1 PB (Ab (top 98)) ["sign"] ["long","lines","seekers","groups","heads","text"] [none]:=A1.mk' rfl (by decide +kernel) (by decide +kernel) (by decide +kernel) (by decide +kernel) rfl (by decide +kernel)
theorem Lg:Nm PB "sign":=.of
def Lh:Scope:={ kind:=.function,names:=[(".0",.local),("prefix",.local),("many",.local)],isGenerator:=false,isCoroutine:=false,more:=[] }
theorem Li:A1 Lh (Ab (top 98)) ["prefix","many"] ["long","lines","seekers","groups","heads","text"] [none,none]:=A1.mk' rfl (by decide +kernel) (by decide +kernel) (by decide +kernel) (by decide +kernel) rfl (by decide +kernel)
theorem PD:Nm Lh "prefix":=.of
theorem Ae5:Nm Lh "many":=.of
theorem Ae6 (F:AW K "_law_good" "_law_good" (top 98) f fd)(T:TxtP K mg a):AE P w K mg base AI 1 f fd ["long","lines","seekers","groups"] (Pq K):=by
 refine F.ok Pt λaf A outer s H vs Q E hr h=>?_
 .obtain ⟨p,l,ag,g,zs,ts,rfl,pt,q⟩:=h;have hu:=hr.units;have nd:=Pt.nd;have hl:=pt.l;have hg:=pt.g;have fl:=pt.fl;have fg:=pt.fg;have no:∀ B,Ae H B->¬ DR p ag zs ts->Q (.bl false) B:=λB s h=>q false B ⟨λz=>absurd z (by decide),λz=>absurd z h⟩ s;refine ⟨_,(@Ai _ _ _ _ _ (AR (PW.pt (Cz (Cs (Gw Di Di Ag (C9 0 AeZ) Ag)) (Cz (Cs (Gw Di Di Ag (Aa 2 Ae0) Ag)) (Cz (Cs (Gw Di Di Ag (AH Bl Px T.n_len Bg (Ac (Aa 1 G6) Af)) Ag)) (Dh (AK Gu (AH Bl Px T.n_len Bg (Ac (Aa 3 Le) Af)) Ag (AN _))))))) (Ap (AO Du)) AQ)
    (Ai (NW (j:=4) rfl nd rfl (Sd IL.loc) Li (C5 (Aa 3 Le)) (λY C fp pins s₂ H₂=>(GI (X:=AF _ _ _ Y C fp pins s₂ H₂) K rfl 2 rfl (BW (A9 0 Li.nd PD.comp) (BW (A9 1 Li.nd Ae5.comp) DZ)) rfl rfl)) (λY C fp pins s₂ H₂=>D9) (λY C fp pins s₂ H₂=>(Aa 0 PD.comp)) (by rfl) (by intro _;rfl) (Sd rfl))
    (Ai (AR (PW.pt (Cz (AK (Ca hu) (AH (OE (w:=w) rfl rfl) IM T.cM DP (Ac (CF (Kx (w:=w) rfl rfl) Pw T.i7 Ka (Ac (Aa 1 G6) Af)) Af)) (AH GJ IM T.cM DP (Ac (Aa 1 G6) Af)) (AN _)) (Dh (AK (Ca hu) (AH (OE (w:=w) rfl rfl) IM T.cM DP (Ac (CF (Kx (w:=w) rfl rfl) Pw T.i7 Ka (Ac (Aa 4 IL) Af)) Af)) (AH GJ IM T.cM DP (Ac (Aa 4 IL) Af)) (AN _))))) (Ap (AO Du)) AQ)
    (Ai (C6 U3 rfl (C5 (Aj AL (Aa 1 G6) (Aa 4 IL))) (A9 5 nd Pu) (Ap (AR (AK (Ca hu) (EA rfl PC (J6 (Aa 5 Pu)) (λY C fp pins s₂ H₂=>(A9 0 PC.nd Lg.comp)) (λY C fp pins s₂ H₂=>(GH (AK (Kk K rfl) (Aa 0 Lg.comp) Ay (by with_unfolding_all rfl)))) (λY C fp pins s₂ H₂=>(Aa 0 Lg.comp))) (A7 Af) (AN _)) (Ap (AO Du)) AQ)))
    (Ai (AR (AK (Ca hu) (EA rfl Pz (C5 (Aa 1 G6)) (λY C fp pins s₂ H₂=>(A9 0 Pz.nd Lf.comp)) (λY C fp pins s₂ H₂=>(GH (AK (AcH K rfl hu) (AH (NZ K rfl) Ae4.comp T.n_len Bg (Ac (Aa 0 Lf.comp) Af)) (FP 1 Ae3.comp) (AN _)))) (λY C fp pins s₂ H₂=>(Aa 0 Lf.comp))) (A7 Af) (AN _)) (Ap (AO Du)) AQ)
    (Ap (AO (Eu (B4 hu) (EA rfl Py (C5 (Aa 3 Le)) (λY C fp pins s₂ H₂=>(A9 0 Py.nd IQ.comp)) (λY C fp pins s₂ H₂=>(GH (PW.pt (Cz (Cs (Gw Di Di Ag (AH (NZ K rfl) Ae2.comp T.n_len Bg (Ac (As (NY K rfl) (Aa 0 IQ.comp) Ag (λ_ _=>rfl)) Af)) (Aj Et (FP 1 Ae1.comp) Ag))) (Dh (Cs (Gw Di Di Ag (As (NY K rfl) (Aa 0 IQ.comp) Ag (λ_ _=>rfl)) Ag))))))) (λY C fp pins s₂ H₂=>(Aa 0 IQ.comp))) (A7 Af) (AN _))))))))),?_⟩
  try dsimp only [aE,aF]
  walk_at"";by_cases h1:2<=p;case neg =>
   refine CQ (decide_eq_false h1) ?_;walk_at"";exact no H (Ae.refl H) λz=>h1 z.1.1
  refine CP (decide_eq_true h1) ?_;walk_at"";by_cases h2:p<=4;case neg =>
   rw [decide_eq_false h2];refine Bt ?_;walk_at"";exact no H (Ae.refl H) λz=>h2 z.1.2.1
  rw [decide_eq_true h2];refine Bv ?_;walk_at"";by_cases h3:1<=ag;case neg =>
   refine CQ (decide_eq_false h3) ?_;walk_at"";exact no H (Ae.refl H) λz=>h3 z.1.2.2.1
  refine CP (decide_eq_true h3) ?_;walk_at"";by_cases h4:ag<=60;case neg =>
   rw [decide_eq_false h4];refine Bt ?_;walk_at"";exact no H (Ae.refl H) λz=>h4 z.1.2.2.2
  rw [decide_eq_true h4];refine Bv ?_;walk_at"";refine R9 (AX _ _ rfl (.inl (.of hl)) ?_);rw [R5];walk_at"";by_cases h5:1<=(zs.length:Int);case neg =>
   refine CQ (decide_eq_false h5) ?_;walk_at"";exact no H (Ae.refl H) λz=>by have:=z.2.1.1.1;omega
  refine CP (decide_eq_true h5) ?_;walk_at"";by_cases h6:(zs.length:Int)<=60;case neg =>
   rw [decide_eq_false h6];refine Bt ?_;walk_at"";exact no H (Ae.refl H) λz=>by have:=z.2.1.1.2;omega
  rw [decide_eq_true h6];refine Bv ?_;walk_at"";refine R9 (AX _ _ rfl (.inl (.of hg)) ?_);rw [R5];walk_at"";by_cases h7:(ts.length:Int) > 40
  .refine CP (decide_eq_true h7) ?_;walk_at"";exact no H (Ae.refl H) λz=>by have:=z.2.2.1;omega
  refine CQ (decide_eq_false h7) ?_;walk_at"";refine ⟨⟨_,.of hg⟩,λhd i8=>?_⟩;refine FQ (K:=K) (a:=g) (xs:=ts.map AD) (λi σ B=>∃ x y,σ=[x,y]/\Ae H B/\B hd=some (.lst (((ts.take i).map (·.2.1)).map V.str))) ⟨none,none,rfl,(Ae.refl H).upd i8,Ah⟩ (λi σ B _ ⟨_,_,_,J,_⟩=>.of (J _ _ hg)) ?_ ?_
  .intro i x σ B I L;obtain ⟨x0,x1,rfl,J,hL⟩:=L;rw [SK] at I;cases hk:ts[i]? with
   | none=>rw [hk] at I;cases I
   | some t =>
    rw [hk] at I;cases I;have tm:=SV hk;refine ⟨t.1,_,rfl,.of (J _ _ (pt.lay t tm)),rfl,?_⟩;walk_at"";refine ⟨_,hL,?_,_,_,rfl,J.bN i8,?_⟩
    .rw [R5,R5,SU,R8];omega
    .rw [Ah,T9,hk,Su,Su];rfl
  intro σ1 H1 L;obtain ⟨x0,x1,rfl,s1,hh⟩:=L;rw [R5,TF] at hh;have kJ:∀ z∈zs,AS z:=λz m=>(pt.dj z m).1;have o5:∀ z∈ts.map (·.2.1),AS z:=λz m=>by obtain ⟨t,tm,rfl⟩:=Sx.mp m;exact (pt.bQ t tm).1
  have lh:(ts.map (·.2.1)).length=ts.length:=R5 ..;walk_at"";refine Bw l zs rfl (.of (s1 _ _ hl)) (by omega) (λu1 n1=>?_);have s2:=s1.upd (o:=Bo w u1 zs) n1;refine Bw u1 zs rfl Ah (by omega) (λr1 y1 m1 c9 o6 so1=>?_);have s3:=s2.upd (o:=.lst (y1.map V.str)) m1;have k1:(upd (upd H1 u1 (Bo w u1 zs)) r1 (.lst (y1.map V.str))) r1=some (.lst (y1.map V.str)):=Ah;have o7:=(((Ae.refl H1).upd (o:=Bo w u1 zs) n1).upd (o:=.lst (y1.map V.str)) m1) _ _ hh;generalize upd (upd H1 u1 (Bo w u1 zs)) r1 (.lst (y1.map V.str))=H3 at s3 k1 o7 ⊢;walk_at"";refine Bw l zs rfl (.of (s3 _ _ hl)) (by omega) (λr2 y2 m2 cx kK=>?_);have s4:=s3.upd (o:=.lst (y2.map V.str)) m2;have t4:=(Ae.refl H3).upd (o:=.lst (y2.map V.str)) m2;have k2:(upd H3 r2 (.lst (y2.map V.str))) r2=some (.lst (y2.map V.str)):=Ah;have o8:=t4 _ _ k1;have fX:=t4 _ _ o7;generalize upd H3 r2 (.lst (y2.map V.str))=H4 at s4 k2 o8 fX ⊢;have o9:∀ z∈y1,AS z:=λz m=>kJ z ((o6 z).mp m);have as2:∀ z∈y2,AS z:=λz m=>kJ z (cx.mem_iff.mp m);obtain ⟨la1,de1⟩:=EE o9;obtain ⟨la2,de2⟩:=EE as2;refine R9 ⟨.list (y1.map Tj),.list (y2.map Tj),.lst (.of o8) (DS y1),.lst (.of k2) (DS y2),la1,la2,(by rw [Fn];omega),?_⟩;rw [show UR (.list (y1.map Tj)) (.list (y2.map Tj))=decide (y1=y2) from FZ o9];have ph:y1=y2↔zs.Nodup:=by
   constructor
   .rintro rfl;exact cx.nodup_iff.mp c9
   .intro hn;exact Kp (((YS c9 hn).mpr o6).trans cx.symm) so1 kK
  walk_at"";by_cases i9:zs.Nodup;case neg =>
   rw [decide_eq_false (λz=>i9 (ph.mp z))];refine Bt ?_;refine Bt ?_;walk_at"";exact no H4 s4 λz=>i9 z.2.1.2.2
  rw [decide_eq_true (ph.mpr i9)];refine Bv ?_;walk_at"";refine ⟨hd,ts.map (·.2.1),rfl,.of fX,by omega,λu2 n2=>?_⟩;have s5:=s4.upd (o:=Bo w u2 (ts.map (·.2.1))) n2;have t5:=(Ae.refl H4).upd (o:=Bo w u2 (ts.map (·.2.1))) n2;refine ⟨u2,ts.map (·.2.1),rfl,Ah,by omega,λr3 y3 m3 pj pq kI=>?_⟩;have s6:=s5.upd (o:=.lst (y3.map V.str)) m3;have k3:(upd (upd H4 u2 (Bo w u2 (ts.map (·.2.1)))) r3 (.lst (y3.map V.str))) r3=some (.lst (y3.map V.str)):=Ah;have kL:=(t5.upd (o:=.lst (y3.map V.str)) m3) _ _ fX;generalize upd (upd H4 u2 (Bo w u2 (ts.map (·.2.1)))) r3 (.lst (y3.map V.str))=H6 at s6 k3 kL ⊢;walk_at"";refine ⟨hd,ts.map (·.2.1),rfl,.of kL,by omega,λr4 y4 m4 g5 kM=>?_⟩;have s7:=s6.upd (o:=.lst (y4.map V.str)) m4;have t7:=(Ae.refl H6).upd (o:=.lst (y4.map V.str)) m4;have k4:(upd H6 r4 (.lst (y4.map V.str))) r4=some (.lst (y4.map V.str)):=Ah;have pv:=t7 _ _ k3;have g7:=t7 _ _ kL;generalize upd H6 r4 (.lst (y4.map V.str))=H7 at s7 k4 pv g7 ⊢;have pw:∀ z∈y3,AS z:=λz m=>o5 z ((pq z).mp m);have as4:∀ z∈y4,AS z:=λz m=>o5 z (g5.mem_iff.mp m);obtain ⟨la3,de3⟩:=EE pw;obtain ⟨la4,de4⟩:=EE as4;refine R9 ⟨.list (y3.map Tj),.list (y4.map Tj),.lst (.of pv) (DS y3),.lst (.of k4) (DS y4),la3,la4,(by rw [Fn];omega),?_⟩;rw [show UR (.list (y3.map Tj)) (.list (y4.map Tj))=decide (y3=y4) from FZ pw];have px:y3=y4↔(ts.map (·.2.1)).Nodup:=by
   constructor
   .rintro rfl;exact g5.nodup_iff.mp pj
   .intro hn;exact Kp (((YS pj hn).mpr pq).trans g5.symm) kI kM
  walk_at"";by_cases ja:(ts.map (·.2.1)).Nodup;case neg =>
   rw [decide_eq_false (λz=>ja (px.mp z))];refine Bt ?_;walk_at"";exact no H7 s7 λz=>ja z.2.2.2.2
  rw [decide_eq_true (px.mpr ja)];refine Bv ?_;walk_at"";refine R9 (R9 (A0 l hd _ _ rfl rfl (s7 _ _ hl) g7 (by simp only [R5,R8];omega) (λll pC=>?_)));rw [<- Su];have s8:=s7.upd (o:=.lst ((zs++ts.map (·.2.1)).map V.str)) pC;have kl:(upd H7 ll (.lst ((zs++ts.map (·.2.1)).map V.str))) ll=some (.lst ((zs++ts.map (·.2.1)).map V.str)):=Ah;have g8:=((Ae.refl H7).upd (o:=.lst ((zs++ts.map (·.2.1)).map V.str)) pC) _ _ g7;generalize upd H7 ll (.lst ((zs++ts.map (·.2.1)).map V.str))=H8 at s8 kl g8 ⊢;walk_at"";refine ⟨⟨_,.of kl⟩,FG (K:=K) (a:=ll) (xs:=(zs++ts.map (·.2.1)).map V.str) (λi σ B=>∃ x,σ=[some (.int p),some (.ref l),some (.int ag),some (.ref g),some (.ref hd),x]/\Ae H8 B/\∀ z∈(zs++ts.map (·.2.1)).take i,Bs z) ⟨none,rfl,Ae.refl H8,λz O=>absurd O (by simp)⟩ (λi σ B _ ⟨_,_,J,_⟩=>.of (J _ _ kl)) ?_ ?_⟩
  .intro i y σ B I L;obtain ⟨x,rfl,J,dn⟩:=L;rw [SK] at I;cases hk:(zs++ts.map (·.2.1))[i]? with
   | none=>rw [hk] at I;cases I
   | some z =>
    rw [hk] at I;cases I;have zm:=SV hk;have O:AS z/\z.length<=20000:=by
     rcases SG.mp zm with m | m
     .exact pt.dj z m
     .obtain ⟨t,tm,rfl⟩:=Sx.mp m;exact pt.bQ t tm
    have zl:z.cps.toList.length<=20000:=by rw [<- C2];exact O.2
    walk_at"";refine ⟨K4 O.1,λD hD=>?_⟩;refine KH (z:=z) (λi σ H2=>∃ x,σ=[x]/\Ae B H2/\H2 D=some (.lst (((z.cps.toList.take i).filter (λc=>!B5 c)).map (λc=>V.str ⟨#[c]⟩)))) ⟨none,rfl,(Ae.refl B).upd hD,Ah⟩ ?_ ?_
    .intro i c σ H2 hc L;obtain ⟨x,rfl,dH,hL⟩:=L;have Y:c<128:=O.1 c (SV hc);walk_at"";have e:D6 ⟨#[c]⟩ (Sa "0123456789")=B5 c:=K2 c Y;rw [e];cases eX:B5 c with
     | true =>
      refine Bv ?_;refine BB _ rfl dH ?_;rw [hL,Fo hc,eX];simp
     | false =>
      refine Bt ?_;walk_at"";refine ⟨_,hL,?_,_,rfl,dH.bN hD,?_⟩
      .have:=W4 (λc=>!B5 c) (z.cps.toList.take i);rw [R5,R8];rw [SU] at this;omega
      .rw [Ah,Fo hc,eX];rfl
    .intro σ H2 L;obtain ⟨x,rfl,dH,hL⟩:=L;rw [TF] at hL;walk_at"";refine ⟨AA,λem fu=>?_⟩;have ef:=((Ae.refl H2).upd (o:=.lst []) fu) _ _ hL;have b9:=dH.upd (o:=.lst []) fu;generalize kN:z.cps.toList.filter (λc=>!B5 c)=cs at hL ef;have asc:∀ y∈cs.map (λc=>(⟨#[c]⟩:Str)),AS y:=λy hy=>by
      obtain ⟨c,hc,rfl⟩:=Sx.mp hy;rw [<- kN] at hc;intro d eQ;have:d=c:=by simpa using eQ
      rw [this];exact O.1 c (Ul.mp hc).1
     obtain ⟨la,de⟩:=EE asc;have kO:(upd H2 em (.lst [])) D=some (.lst ((cs.map (λc=>(⟨#[c]⟩:Str))).map V.str)):=by rw [ef,Tt];rfl
     refine R9 ⟨.list ((cs.map (λc=>(⟨#[c]⟩:Str))).map Tj),.list [],.lst (.of kO) (DS _),.lst (.of Ah) .nil,la,rfl,(by rw [Fn];omega),?_⟩;rw [show UR (.list ((cs.map (λc=>(⟨#[c]⟩:Str))).map Tj)) (.list [])=decide (cs.map (λc=>(⟨#[c]⟩:Str))=[]) from FZ (b:=[]) asc];walk_at"";by_cases jb:cs=[]
     .rw [decide_eq_true (by rw [jb];rfl)];refine Bv ?_;refine DJ _ rfl ⟨J.trans b9,K6 hk dn λc hc=>?_⟩;have:c ∉ z.cps.toList.filter (λc=>!B5 c):=by rw [kN,jb];simp
      rw [Ul] at this;exact Eb.mp (by
       cases q:B5 c with
       | true=>rfl
       | false=>exact absurd ⟨hc,by rw [q];rfl⟩ this)
     .rw [decide_eq_false (λe=>jb (sT.mp e))];refine Bt ?_;walk_at"";refine no _ (s8.trans (J.trans b9)) λgd=>?_;have dz:Bs z:=by
       rcases SG.mp zm with m | m
       .exact (gd.2.1.2.1 z m).2
       .obtain ⟨t,tm,rfl⟩:=Sx.mp m;exact (gd.2.2.2.1 t tm).2.1
      obtain ⟨c,hc⟩:=List.exists_mem_of_ne_nil cs jb;rw [<- kN] at hc;obtain ⟨c1,c2⟩:=Ul.mp hc;rw [Eb.mpr (dz c c1)] at c2;cases c2
  intro σ9 H9 L;obtain ⟨x9,rfl,sm9,dig⟩:=L;rw [R5,TF] at dig;have s9:=s8.trans sm9;walk_at"";have pF:=s9 _ _ hl;refine ⟨⟨_,.of pF⟩,λD hD=>?_⟩;refine FQ (K:=K) (a:=l) (xs:=zs.map V.str) (λi σ B=>∃ x,σ=[x,some (.int p)]/\Ae H9 B/\B D=some (.lst (((zs.take i).filter (DC p)).map V.str))) ⟨none,rfl,(Ae.refl H9).upd hD,Ah⟩ (λi σ B _ ⟨_,_,J,_⟩=>.of (J _ _ pF)) ?_ ?_
  .intro i y σ B I L;obtain ⟨x,rfl,J,hL⟩:=L;rw [SK] at I;cases hk:zs[i]? with
   | none=>rw [hk] at I;cases I
   | some z =>
    rw [hk] at I;cases I;have zl:=(pt.dj z (SV hk)).2;walk_at"";refine Sd (BB z rfl (by rw [R8];omega) ?_);walk_at"";by_cases he:(z.length:Int)=p
    .rw [decide_eq_true (congrArg V.int he)];refine Bv ?_;refine BB _ rfl J ?_;rw [hL,Fo hk,IK.mpr he];simp
    .rw [decide_eq_false (λk=>he (V.int.inj k))];refine Bt ?_;walk_at"";refine ⟨_,hL,?_,_,rfl,J.bN hD,?_⟩
     .have:=W4 (DC p) (zs.take i);rw [R5,R8];rw [SU] at this;omega
     .have eb:DC p z=true:=by cases q:DC p z with | true=>rfl | false=>exact absurd (IK.mp q) he
      rw [Ah,Fo hk,eb];rfl
  intro σa Ha L;obtain ⟨xa,rfl,sma,pG⟩:=L;rw [R5,TF] at pG;walk_at"";refine ⟨AA,λem fu=>?_⟩;have hLb:=((Ae.refl Ha).upd (o:=.lst []) fu) _ _ pG;have jc:=sma.upd (o:=.lst []) fu;have pH:∀ y∈zs.filter (DC p),AS y:=λy hy=>kJ y (Ul.mp hy).1;obtain ⟨lab,deb⟩:=EE pH;refine R9 ⟨.list ((zs.filter (DC p)).map Tj),.list [],.lst (.of hLb) (DS _),.lst (.of Ah) .nil,lab,rfl,(by rw [Fn];omega),?_⟩;rw [show UR (.list ((zs.filter (DC p)).map Tj)) (.list [])=decide (zs.filter (DC p)=[]) from FZ (b:=[]) pH];have e5:zs.filter (DC p)=[]↔∀ z∈zs,(z.length:Int)=p:=by
   rw [Y5];constructor
   .intro h z O;have:=h z O;exact IK.mp (by simpa using this)
   .intro h z O;rw [IK.mpr (h z O)];decide
  walk_at"";by_cases h8:∀ z∈zs,(z.length:Int)=p;case neg =>
   rw [decide_eq_false (λe=>h8 (e5.mp e))];refine Bt ?_;walk_at"";exact no _ (s9.trans jc) λgd=>h8 λz O=>(gd.2.1.2.1 z O).1
  rw [decide_eq_true (e5.mpr h8)];refine Bv ?_;have sb:=s9.trans jc;generalize upd Ha em (.lst [])=Hb at sb ⊢;walk_at"";have pI:=sb _ _ hg;refine ⟨⟨_,.of pI⟩,λD2 pJ=>?_⟩;refine FQ (K:=K) (a:=g) (xs:=ts.map AD) (λi σ B=>∃ x,σ=[x,some (.int p)]/\Ae Hb B/\B D2=some (.lst (((ts.take i).filter (CS p)).map AD))) ⟨none,rfl,(Ae.refl Hb).upd pJ,Ah⟩ (λi σ B _ ⟨_,_,J,_⟩=>.of (J _ _ pI)) ?_ ?_
  .intro i y σ B I L;obtain ⟨x,rfl,J,hL⟩:=L;rw [SK] at I;cases hk:ts[i]? with
   | none=>rw [hk] at I;cases I
   | some t =>
    rw [hk] at I;cases I;have tm:=SV hk;have zl:=(pt.bQ t tm).2;have lt:=J _ _ (sb _ _ (pt.lay t tm));have kb:=W4 (CS p) (ts.take i);rw [SU] at kb;have jd:CS p t=true->∃ ys,B D2=some (.lst ys)/\ys.length<sizeLine/\∃ x,[some (V.ref t.1),some (V.int p)]=[x,some (.int p)]/\Ae Hb (upd B D2 (.lst (ys++[V.ref t.1])))/\(upd B D2 (.lst (ys++[V.ref t.1]))) D2=some (.lst (((ts.take (i+1)).filter (CS p)).map AD)):=λhb=>by
     refine ⟨_,hL,?_,_,rfl,J.bN pJ,?_⟩
     .rw [R5,R8];omega
     .rw [Ah,Fo hk,hb,if_pos rfl];rfl
    have Ao:CS p t=false->∃ x,[some (V.ref t.1),some (V.int p)]=[x,some (.int p)]/\Ae Hb B/\B D2=some (.lst (((ts.take (i+1)).filter (CS p)).map AD)):=λhb=>by
     refine BB _ rfl J ?_;rw [hL,Fo hk,hb,if_neg (by decide),S5]
    walk_at"";refine R9 (Sd ⟨t.1,_,_,_,rfl,rfl,.of lt,rfl,?_⟩);walk_at"";refine Sd (BB _ rfl (by rw [R8];omega) ?_);walk_at"";by_cases a1:1<=(t.2.1.length:Int);case neg =>
     refine CQ (decide_eq_false a1) ?_;walk_at"";exact jd (by unfold CS;rw [decide_eq_false a1];rfl)
    refine CP (decide_eq_true a1) ?_;walk_at"";by_cases a2:(t.2.1.length:Int)<=p - 2;case neg =>
     rw [decide_eq_false a2];refine Bt ?_;refine Bt ?_;walk_at"";exact jd (by unfold CS;rw [decide_eq_false a2,WH];rfl)
    rw [decide_eq_true a2];refine Bv ?_;walk_at"";refine R9 (Sd ⟨t.1,_,_,_,rfl,rfl,.of lt,rfl,?_⟩);walk_at"";by_cases a3:0<=t.2.2;case neg =>
     refine CQ (decide_eq_false a3) ?_;walk_at"";exact jd (by unfold CS;rw [decide_eq_false a3,Wz];simp)
    refine CP (decide_eq_true a3) ?_;walk_at"";by_cases a4:t.2.2<=10;case neg =>
     rw [decide_eq_false a4];refine Bt ?_;walk_at"";exact jd (by unfold CS;rw [decide_eq_false a4,WH];simp)
    rw [decide_eq_true a4];refine Bv ?_;exact Ao (Ld.mpr ⟨⟨a1,a2⟩,a3,a4⟩)
  intro σc Hc L;obtain ⟨xc,rfl,smc,pK⟩:=L;rw [R5,TF] at pK;walk_at"";refine ⟨AA,λem2 pL=>?_⟩;have hLd:=((Ae.refl Hc).upd (o:=.lst []) pL) _ _ pK;have fv:=(smc.upd (o:=.lst []) pL);have e6:ts.filter (CS p)=[]↔∀ t∈ts,(1<=(t.2.1.length:Int)/\(t.2.1.length:Int)<=p - 2)/\0<=t.2.2/\t.2.2<=10:=by
   rw [Y5];constructor
   .intro h t ht;have:=h t ht;exact Ld.mp (by simpa using this)
   .intro h t ht;rw [Ld.mpr (h t ht)];decide
  have aaZ:∀ us:List Pr,(∀ t∈us,t∈ts)->∃ ds,aR K (upd Hc em2 (.lst [])) (us.map AD) ds/\ds.length=us.length/\V3 ds=true/\U4 ds<=2:=λus=>by
   induction us with
   | nil=>exact λ_=>⟨[],.nil,rfl,rfl,by decide⟩
   | cons t us ih =>
    intro h;obtain ⟨ds,i1,i2,i3,i4⟩:=ih λt' m=>h t' (SI _ m);have tm:=h t SS;refine ⟨.tuple [.str t.2.1,.int t.2.2] :: ds,.cons (.tup (.of ((sb.trans fv) _ _ (pt.lay t tm))) (.cons (.str _) (.cons (.int _) .nil))) i1,by rw [TX,TX,i2],?_,?_⟩
    .show (Vz _ && V3 _)=true;rw [i3];show ((Vz (.str t.2.1) && (Vz (.int t.2.2) && V3 [])) && true)=true;rw [Lc (pt.bQ t tm).1];rfl
    .show max (Ua _) (U4 _)<=2;refine Y4.mpr ⟨?_,i4⟩;simp [Ua,U4]
  obtain ⟨ds,i1,i2,i3,i4⟩:=aaZ (ts.filter (CS p)) λt m=>(Ul.mp m).1;refine R9 ⟨.list ds,.list [],.lst (.of hLd) i1,.lst (.of Ah) .nil,i3,rfl,(by rw [Fn];omega),?_⟩;walk_at"";refine q _ _ ?_ (sb.trans fv);have ed:UR (.list ds) (.list [])=true↔ts.filter (CS p)=[]:=by
   cases ds with
   | nil=>exact ⟨λ_=>VR.mp i2.symm,λ_=>rfl⟩
   | cons d ds =>
    constructor
    .intro h;cases h
    .intro h;rw [h] at i2;cases i2
  refine ed.trans (e6.trans ⟨λh=>⟨⟨h1,h2,h3,h4⟩,⟨⟨by omega,by omega⟩,λz O=>⟨h8 z O,dig z (V5 _ O)⟩,i9⟩,by omega,λt ht=>⟨(h t ht).1,dig _ (S6 _ (Sx.mpr ⟨t,ht,rfl⟩)),(h t ht).2⟩,ja⟩,λgd t ht=>⟨(gd.2.2.2.1 t ht).1,(gd.2.2.2.1 t ht).2.2⟩⟩)
abbrev Bm:=List (Addr×HO)
structure At (H:Hp)(C:Bm):Prop where
 at_:∀ c∈C,H c.1=some c.2
 nd:(C.map (·.1)).Nodup
noncomputable def IT:HO->Bool
 | .tup _=>true
 | .bF _ _=>true
 | _=>false
structure Av (H H':Hp):Prop where
 f:∀ b o,IT o=true->H b=some o->H' b=some o
section
variable {H H' pM:Hp}{C C' P M M' R:Bm}{a b:Addr}{o o' u:HO}{ws:List Addr}{α:Type}{l:List α}{f:α->Bm}{i:Nat}{x y:α}
theorem Av.of (s:Ae H H'):Av H H':=⟨λb o _ e=>s _ _ e⟩
theorem Av.refl:Av H H:=⟨λ_ _ _ e=>e⟩
theorem Av.trans (s:Av H H')(t:Av H' pM):Av H pM:=⟨λb o i e=>t.f _ _ i (s.f _ _ i e)⟩
theorem Av.t {ys:List V}(s:Av H H')(e:H b=some (.tup ys)):H' b=some (.tup ys):=s.f _ _ rfl e
theorem Av.sq {K:R0}{xs:List V}(s:Av H H')(h:A5 K H a xs):A5 K H' a xs:=by
 rcases h with (h | ⟨o,h⟩) | h
 .exact .inl (.inl (s.f _ _ rfl h))
 .exact .inl (.inr ⟨o,s.f _ _ rfl h⟩)
 .exact .inr h
mutual
noncomputable def IU:PyData->Bool
 | .list _=>false
 | .dict _=>false
 | .tuple ds=>g9 ds
 | _=>true
noncomputable def g9:List PyData->Bool
 | []=>true
 | d :: ds=>IU d && g9 ds
end
mutual
theorem Is.aQ {K:R0}:∀(d:PyData){x:V},IU d=true->Is K H x d->Av H H'->Is K H' x d
 | .none,_,_,r,_=>by cases r;exact .ae
 | .bool _,_,_,r,_=>by cases r;exact .bl _
 | .int _,_,_,r,_=>by cases r;exact .int _
 | .str _,_,_,r,_=>by cases r;exact .str _
 | .list ds,_,n,r,e=>by cases n
 | .tuple ds,_,n,r,e=>by cases r with | tup g p=>exact .tup (e.sq g) (aR.aQ ds n p e)
 | .dict _,_,_,r,_=>nomatch r
theorem aR.aQ {K:R0}:∀(ds:List PyData){xs:List V},g9 ds=true->aR K H xs ds->Av H H'->aR K H' xs ds
 | [],_,_,r,_=>by cases r;exact .nil
 | d :: ds,_,n,r,e=>by
  have n:(IU d && g9 ds)=true:=n;rw [Ug] at n;cases r with | cons g p=>exact .cons (Is.aQ d n.1 g e) (aR.aQ ds n.2 p e)
end
theorem At.same (t:At H C)(s:Ae H H'):At H' C:=⟨λc m=>s _ _ (t.at_ c m),t.nd⟩
theorem At.perm (t:At H C)(p:C'.Perm C):At H C':=⟨λc m=>t.at_ c (p.mem_iff.mp m),(p.map _).nodup_iff.mpr t.nd⟩
theorem At.swap (t:At H (P++(M++R))):At H (M++(P++R)):=t.perm (by rw [<- To,<- To];exact List.Perm.append_right R List.perm_append_comm)
theorem At.get (t:At H C)(m:(a,o)∈C):H a=some o:=t.at_ _ m
theorem At.hd (t:At H ((a,o) :: C)):H a=some o:=t.at_ _ SS
theorem At.tl (t:At H ((a,o) :: C)):At H C:=⟨λc m=>t.at_ c (SI _ m),(Te.mp t.nd).2⟩
theorem At.right (t:At H (P++R)):At H R:=⟨λc m=>t.at_ c (S6 _ m),by have:=t.nd;rw [Su] at this;exact (VU.mp this).2.1⟩
theorem At.free (t:At H C)(n:H b=none):b ∉ C.map (·.1):=λm=>by
 obtain ⟨c,mc,rfl⟩:=Sx.mp m;rw [t.at_ c mc] at n;cases n
theorem At.new (t:At H C)(n:H b=none):At (upd H b u) ((b,u) :: C):=by
 refine ⟨λc m=>?_,Te.mpr ⟨t.free n,t.nd⟩⟩;rcases Si.mp m with rfl | m
 .exact Ah
 .rw [Ak (λz=>t.free n (Sx.mpr ⟨c,m,z⟩))];exact t.at_ c m
theorem At.fY (t:At H ((a,o) :: R)):At (upd H a o') ((a,o') :: R):=by
 have d:=Te.mp t.nd;refine ⟨λc m=>?_,t.nd⟩;rcases Si.mp m with rfl | m
 .exact Ah
 .rw [Ak (λz=>d.1 (Sx.mpr ⟨c,m,z⟩))];exact t.at_ c (SI _ m)
theorem At.front (t:At H (P++(a,o) :: R)):At H ((a,o) :: (P++R)):=t.perm (sU.symm)
theorem At.back (t:At H ((a,o) :: (P++R))):At H (P++(a,o) :: R):=t.perm sU
theorem At.set (t:At H (P++(a,o) :: R)):At (upd H a o') (P++(a,o') :: R):=t.front.fY.back
theorem At.aQ (t:At H C)(s:Cv ws H H')(sub:∀ w∈ws,w∈C.map (·.1))(k:∀ c∈C,IT c.2=false):Av H H':=⟨λb o i e=>s _ _ (λm=>by
 obtain ⟨c,mc,d⟩:=Sx.mp (sub b m);have h:=t.at_ c mc;rw [d,e] at h;have:=k c mc;rw [<- TU h,i] at this;cases this) e⟩
theorem Av.chg (t:H a=some o)(k:IT o=false):Av H (upd H a u):=⟨λb v i e=>by
 rw [Ak (λz=>by rw [z,t] at e;rw [<- TU e,k] at i;cases i)];exact e⟩
theorem Av.new (n:H a=none):Av H (upd H a u):=.of ((Ae.refl H).upd n)
end
structure Lj (K:R0)(C:Addr):Prop where
 cls:B7 K C
 nu:Bn K C "number"
 pl:Bn K C "place"
 he:Bn K C "held"
 st:Bn K C "state"
 di:Bn K C "dialled_so_far"
 pu:Bn K C "pulses"
 fa:Bn K C "far_end"
 wh:Bn K C "why"
noncomputable def Ae7 (num:Str)(i:Int)(hl:Addr):List (Str×V):=[("number",.str num),("place",.int i),("held",.ref hl)]
noncomputable def DT (num:Str)(i:Int)(hl:Addr)(st eu:Str)(eI:Int)(fZ why:V):List (Str×V):=[("number",.str num),("place",.int i),("held",.ref hl),("state",.str st),("dialled_so_far",.str eu),("pulses",.int eI),("far_end",fZ),("why",why)]
def PF (a:An):Sp:=λvs H Q _=>∃(p dx:Addr)(num:Str)(i:Int)(hl:Addr)(aH:Str)(fs:List (Str×V)),vs=[.ref p,.str aH]/\H p=some (.ins a.Line dx fs)/\(fs=Ae7 num i hl\/∃ st eu eI fZ why,fs=DT num i hl st eu eI fZ why)/\Q .ae (upd H p (.ins a.Line dx (DT num i hl aH "" 0 .ae .ae)))
def PH (a:An):Sp:=λvs H Q _=>∃(p dx:Addr)(num:Str)(i:Int),vs=[.ref p,.str num,.int i]/\H p=some (.ins a.Line dx [])/\∀ l,H l=none->Q .ae (upd (upd H l (.lst [])) p (.ins a.Line dx (DT num i l "rests" "" 0 .ae .ae)))
theorem Ae8:A8 ["self","state"] ["self","state"] (Ab (Au (top 42) 1)):=.of
theorem G7:Nm (Ab (Au (top 42) 1)) "self":=.of
theorem Ae9:Nm (Ab (Au (top 42) 1)) "state":=.of
theorem Afa (F:AW K "turn" "Line.turn" (Au (top 42) 1) f fd)(lc:Lj K a.Line):AE P w K mg base AI 1 f fd ["self","state"] (PF a):=by
 refine F.ok Ae8 λJ A outer s H vs Q E L h=>?_
 .obtain ⟨p,d,g,i,O,V,fs,rfl,hp,B,q⟩:=h;refine ⟨_,(@Ai _ _ _ _ _ (Bz (Aa 0 G7) (Aa 1 Ae9) rfl)
    (Ai (Bz (Aa 0 G7) Ay rfl)
    (Ai (Bz (Aa 0 G7) Ag rfl)
    (Ai (Bz (Aa 0 G7) Ci rfl)
    (Ap (Bz (Aa 0 G7) Ci rfl)))))),?_⟩
  try dsimp only [aE,aF]
  have D:∀ {X},upd H p (.ins a.Line d X) p=some (.ins a.Line d X):=Ah;rcases B with rfl | ⟨st,eu,eI,Y,I,rfl⟩;all_goals
   walk_at"";refine A0 p a.Line d _ rfl hp lc.cls lc.st (Tp rfl) ?_;walk_at"";refine A0 p a.Line d _ rfl Ah lc.cls lc.di (Tp rfl) ?_;rw [Gi];walk_at"";refine A0 p a.Line d _ rfl Ah lc.cls lc.pu (Tp rfl) ?_;rw [Gi];walk_at"";refine A0 p a.Line d _ rfl Ah lc.cls lc.fa (Tp rfl) ?_;rw [Gi];walk_at"";refine A0 p a.Line d _ rfl Ah lc.cls lc.wh (Tp rfl) ?_;rw [Gi];exact q
theorem Afb:A8 ["self","number","place"] ["self","number","place"] (Ab (Au (top 42) 0)):=.of
theorem IV:Nm (Ab (Au (top 42) 0)) "self":=.of
theorem Afc:Nm (Ab (Au (top 42) 0)) "number":=.of
theorem Afd:Nm (Ab (Au (top 42) 0)) "place":=.of
theorem Afe (F:AW K "__init__" "Line.__init__" (Au (top 42) 0) f fd)(lc:Lj K a.Line)(I:Fh P w K mg base AI 1 a.Line "turn" ["self","state"] (PF a)):AE P w K mg base AI 2 f fd ["self","number","place"] (PH a):=by
 refine F.ok Afb λY A outer s H vs Q E V h=>?_
 .obtain ⟨p,B,g,i,rfl,hp,q⟩:=h;have J:=lc.cls;refine ⟨_,(@Ai _ _ _ _ _ (Bz (Aa 0 IV) (Aa 1 Afc) rfl)
    (Ai (Bz (Aa 0 IV) (Aa 2 Afd) rfl)
    (Ai (Bz (Aa 0 IV) (A7 Af) rfl)
    (Ap (CK (Acz I J (Aa 0 IV) V.d Bj (Ac Ay Af))))))),?_⟩
  try dsimp only [aE,aF]
  walk_at"";refine A0 p a.Line B _ rfl hp lc.cls lc.nu (Tp rfl) ?_;walk_at"";refine A0 p a.Line B _ rfl Ah lc.cls lc.pl (Tp rfl) ?_;rw [Gi];walk_at"";refine ⟨AA,λl D=>?_⟩;have pl:p≠l:=λz=>by rw [<- z,Ah] at D;cases D
  walk_at"";refine A0 p a.Line B _ rfl (by rw [Ak pl];exact Ah) lc.cls lc.he (Tp rfl) ?_;walk_at"";refine E8 p B _ rfl Ah rfl ?_;walk_at"";refine ND p B g i l ("rests") _ rfl ⟨Ah,.inl rfl,?_⟩;have L:H l=none:=by rw [Ak pl.symm] at D;exact D
  have e:upd (upd (upd (upd H p (.ins a.Line B (Ao "place" (.int i) (Ao "number" (.str g) [])))) l (.lst [])) p (.ins a.Line B (Ao "held" (.ref l) (Ao "place" (.int i) (Ao "number" (.str g) []))))) p (.ins a.Line B (DT g i l "rests" "" 0 .ae .ae))=upd (upd H l (.lst [])) p (.ins a.Line B (DT g i l "rests" "" 0 .ae .ae)):=by
   funext b
   by_cases h:b=p
   .rw [h,Ah,Ah]
   .rw [Ak h,Ak h,Ak h];by_cases O:b=l
    .rw [O,Ah,Ah]
    .rw [Ak O,Ak O,Ak h]
  rw [e];exact q l L
structure Ln where
 (num st eu:Str) (eI:Int) (fZ:Option Str) (why:PyData) (held:List (Str×Int))
structure Gr where
 (pre:Str) (hs:List V) (js:List Bool) (ts:List Int)
structure Sk where
 (hs:List V) (js:List Bool) (ts:List Int) (places mark:Int) (st wt:List Int)
structure LX where
 (p dx h:Addr) (i:Nat) (wv:V) (hv:List Addr) (l:Ln)
structure RX where
 (p dx ra rb rc:Addr) (g:Gr)
structure SX where
 (p dx ra rb rc rs rw:Addr) (k:Sk)
structure HX where
 (h dx ld sd qa da:Addr) (long:Int) (lines:List LX) (groups:List RX) (sk:SX) (q:List Str) (dn:List V)
structure PS where
 (long:Int) (pN:List Ln) (grs:List Gr) (sk:Sk) (q:List Str) (dn:List V)
noncomputable def HX.S (X:HX):PS:=⟨X.long,X.lines.map (·.l),X.groups.map (·.g),X.sk.k,X.q,X.dn⟩
noncomputable def Afg:Option Str->V
 | none=>.ae
 | some z=>.str z
noncomputable def IW (long:Int)(ld sd qa da:Addr):List (Str×V):=[("long",.int long),("lines",.ref ld),("switches",.ref sd),("queue",.ref qa),("done",.ref da)]
noncomputable def LX.fs (x:LX):List (Str×V):=DT x.l.num x.i x.h x.l.st x.l.eu x.l.eI (Afg x.l.fZ) x.wv
noncomputable def DD (a:An)(x:LX):Bm:=[(x.p,.ins a.Line x.dx x.fs),(x.h,.lst (x.hv.map V.ref))]
noncomputable def Ec (a:An)(x:RX):Bm:=[(x.p,.ins a.aU x.dx (GY x.ra x.rb x.rc)),(x.ra,.lst x.g.hs),(x.rb,.lst (x.g.js.map V.bl)),(x.rc,.lst (x.g.ts.map V.int))]
noncomputable def Fp (a:An)(x:SX):Bm:=[(x.p,.ins a.aZ x.dx (O1 x.ra x.rb x.rc x.k.places x.rs x.rw x.k.mark)),(x.ra,.lst x.k.hs),(x.rb,.lst (x.k.js.map V.bl)),(x.rc,.lst (x.k.ts.map V.int)),(x.rs,.lst (x.k.st.map V.int)),(x.rw,.lst (x.k.wt.map V.int))]
noncomputable def HX.lkv (X:HX):List (Aq×V):=X.lines.map λx=>(.inr x.l.num,.ref x.p)
noncomputable def HX.skv (X:HX):List (Aq×V):=X.groups.map (λx=>(.inr x.g.pre,.ref x.p))++[(.inr "",.ref X.sk.p)]
noncomputable def HX.top (a:An)(X:HX):Bm:=[(X.h,.ins a.ak X.dx (IW X.long X.ld X.sd X.qa X.da)),(X.ld,.dK X.lkv),(X.sd,.dK X.skv),(X.qa,.lst (X.q.map V.str)),(X.da,.lst X.dn)]
noncomputable def Ed (a:An)(X:HX)(R:Bm):Bm:=X.top a++(Fp a X.sk++(X.groups.flatMap (Ec a)++(X.lines.flatMap (DD a)++R)))
structure Afh (K:R0)(C:Addr):Prop where
 cls:B7 K C
 lo:Bn K C "long"
 li:Bn K C "lines"
 sw:Bn K C "switches"
 qu:Bn K C "queue"
 dn:Bn K C "done"
def F0 (H:Hp):List Addr->List (Str×Int)->Prop
 | [],[]=>True
 | x :: xs,p :: ps=>H x=some (.tup [.str p.1,.int p.2])/\F0 H xs ps
 | _,_=>False
theorem F0.aQ {H d:Hp}(s:Av H d):∀{xs:List Addr}{ps:List (Str×Int)},F0 H xs ps->F0 d xs ps
 | [],[],_=>trivial
 | [],_ :: _,h=>h
 | _ :: _,[],h=>h
 | _ :: _,_ :: _,h=>⟨s.t h.1,F0.aQ s h.2⟩
structure IX (K:R0)(H:Hp)(j:Nat)(x:LX):Prop where
 i:x.i=j
 pr:F0 H x.hv x.l.held
 w:Is K H x.wv x.l.why
 wt:IU x.l.why=true
 aD:x.l.held.length<=10
section
variable {K:R0}{a:An}{H H':Hp}{X:HX}{R:Bm}{i:Nat}{x y:LX}{g g':RX}
theorem At.fQ (t:At H (Ed a X R)):H X.h=some (.ins a.ak X.dx (IW X.long X.ld X.sd X.qa X.da)):=t.get (by simp [Ed,HX.top])
theorem At.q (t:At H (Ed a X R)):H X.qa=some (.lst (X.q.map V.str)):=t.get (by simp [Ed,HX.top])
theorem At.rest (t:At H (Ed a X R)):At H R:=t.right.right.right.right
structure Afi (g:Gr):Prop where
 lj:g.js.length=g.hs.length
 lt:g.ts.length=g.hs.length
 z:g.hs.length<=1000
structure PK (k:Sk):Prop where
 lj:k.js.length=k.hs.length
 lt:k.ts.length=k.hs.length
 ls:k.st.length=k.hs.length
 lw:k.wt.length=k.hs.length
 z:k.hs.length<=1000
end
structure AY (K:R0)(H:Hp)(X:HX):Prop where
 num:(X.lines.map (·.l.num)).Nodup
 pre:(X.groups.map (·.g.pre)).Nodup
 ne:∀ g∈X.groups,g.g.pre≠Sa ""
 lx:∀(i:Nat)(x:LX),X.lines[i]?=some x->IX K H i x
 gr:∀ g∈X.groups,Afi g.g
 sk:PK X.sk.k
structure HT (K:R0)(a:An)(H:Hp)(X:HX)(R:Bm):Prop where
 t:At H (Ed a X R)
 ok:AY K H X
section
variable {K:R0}{a:An}{H H':Hp}{X:HX}{R:Bm}{i:Nat}{x y:LX}{g g':RX}
theorem IX.aQ {j:Nat}(l:IX K H j x)(s:Av H H'):IX K H' j x:=⟨l.i,l.pr.aQ s,Is.aQ _ l.wt l.w s,l.wt,l.aD⟩
theorem AY.aQ (k:AY K H X)(s:Av H H'):AY K H' X:=⟨k.num,k.pre,k.ne,λi x h=>(k.lx i x h).aQ s,k.gr,k.sk⟩
theorem HT.same (t:HT K a H X R)(s:Ae H H'):HT K a H' X R:=⟨t.t.same s,t.ok.aQ (.of s)⟩
theorem IY {α:Type}{f:α->Str}{v:α->V}{w:Str}:∀{l:List α},w ∉ l.map f->Bk (l.map λy=>((SM (f y):Aq),v y)) (.inr w)=none
 | [],_=>rfl
 | z :: l,n=>(Cc λe=>n (by rw [<- (Ub e:f z=w)];exact SS)).trans (IY λm=>n (SI _ m))
structure TxtH (P:R7)(w:R3)(K:R0)(mg:Str->Option Value)(a:An):Prop extends TxtK K mg a,TxtP K mg a where
 pO:∃ t,mg "AT_SEEKERS"=some (S2 "" t)
 kP:mg "WAYS"=some (.ref a.gL)
 aa2:∃ t1 t2 t3 t4,EB P w K a.gL [(.inr "lift",.ref t1),(.inr "pulse",.ref t2),(.inr "gap",.ref t3),(.inr "hang",.ref t4)]/\(∀ H,A5 K H t1 [.str "rests",.str "rung"])/\(∀ H,A5 K H t2 [.str "dials"])/\(∀ H,A5 K H t3 [.str "dials"])/\∀ H,A5 K H t4 [.str "waits",.str "dials",.str "rings",.str "talks",.str "told"]
 hJ:mg "NoLine"=some (.ref a.aL)
 aa3:Ts K a.aL [.type "ValueError",.type "Exception",.type "BaseException",.type "object"] "ValueError.__new__"=true
 hU:mg "NotSo"=some (.ref a.aM)
 aa4:Ts K a.aM [.type "ValueError",.type "Exception",.type "BaseException",.type "object"] "ValueError.__new__"=true
 hc:Afh K a.ak
 lc:Lj K a.Line
 sc:K0 K a a.aZ
 gc:Ir K a a.aU
end
theorem Ll {α:Type}:∀{l:List α},l.Nodup->∀{i j:Nat}{x y:α},l[i]?=some x->l[j]?=some y->i≠j->x≠y
 | [],_,i,j,x,y,hx,_,_=>by simp at hx
 | z :: l,h,0,0,x,y,_,_,ne=>absurd rfl ne
 | z :: l,h,0,j+1,x,y,hx,hy,_=>λe=>by
  have hx:z=x:=by simpa using hx
  have hy:l[j]?=some y:=by simpa using hy
  exact (Te.mp h).1 (by rw [hx,e];exact SV hy)
 | z :: l,h,i+1,0,x,y,hx,hy,_=>λe=>by
  have hy:z=y:=by simpa using hy
  have hx:l[i]?=some x:=by simpa using hx
  exact (Te.mp h).1 (by rw [hy,<- e];exact SV hx)
 | z :: l,h,i+1,j+1,x,y,hx,hy,ne=>Ll (Te.mp h).2 (by simpa using hx) (by simpa using hy) (by omega)
section
variable {K:R0}{a:An}{H H':Hp}{X:HX}{R:Bm}{i:Nat}{x y:LX}{g g':RX}
structure Wk (H H':Hp)(X X':HX):Prop where
 h:X'.h=X.h
 tp:Av H H'
end
structure Ahu (K:R0)(H:Hp)(xs:List Addr)(ds:List PyData):Prop where
 i:aR K H (xs.map V.ref) ds
 t:g9 ds=true
section
variable {K:R0}{a:An}{H H':Hp}{X:HX}{R:Bm}{i:Nat}{x y:LX}{xs ys:List Addr}{ds es:List PyData}
end
structure QOk (S:PS):Prop where
 nd:S.q.Nodup
 ln:∀ z∈S.q,∃ ln∈S.pN,ln.num=z/\ln.held=[]
 num:(S.pN.map (·.num)).Nodup
 m0:0<=S.sk.mark
 m1:S.sk.mark<=S.sk.hs.length
 pl:0<S.sk.places
 aD:S.q.length<=100
def Ahv (g:Gr):Prop:=∀ v∈g.hs,v=.ae\/∃ z,v=.str z
noncomputable def PL:List Str:=["1","2","3","4","5","6","7","8","9","0"]
noncomputable def Afj (n:Int):Str:=PL.getD (n - 1).toNat ""
structure Afk (P:R7)(w:R3)(K:R0)(mg:Str->Option Value)(a:An):Prop extends TxtH P w K mg a where
 kQ:mg "FIGURES"=some (.ref a.iX)
 aa5:∀ H,A5 K H a.iX (PL.map V.str)
 hV:mg "NoFigure"=some (.ref a.aN)
 aa6:Ts K a.aN [.type "ValueError",.type "Exception",.type "BaseException",.type "object"] "ValueError.__new__"=true
noncomputable def Ahw (ln:Ln):Ln:={ ln with eu:=ln.eu++Afj ln.eI,eI:=0 }
section
variable {K:R0}{a:An}{H:Hp}{X:HX}{R:Bm}
end
inductive LW where
 | lift | aeT | gap | aeU
theorem IZ (z:Str)(ks:List Str):Ex (.str z) (ks.map V.str)=decide (z∈ks):=by
 unfold Ex;rw [List.any_map,U9,YC,decide_eq_true_eq];constructor
 .intro d;obtain ⟨k,hk,e⟩:=d;have g:decide (k=z)=true:=by simpa [DI] using e
  rw [<- of_decide_eq_true g];exact hk
 .exact λh=>⟨z,h,by simp [DI]⟩
theorem G8 {xs:List Int}{i:Int}(g:0<=i)(p:i<xs.length):∃ z,BI (xs.map V.int) i=some (.int z)/\z∈xs:=by
 obtain ⟨v,B,d⟩:=Ez (xs:=xs.map V.int) g (by rw [R5];exact p);rw [SK] at d;cases q:xs[i.toNat]? with
 | none=>rw [q] at d;cases d
 | some z=>rw [q] at d;cases d;exact ⟨z,B,SV q⟩
theorem Afl {xs:List Str}{i:Int}(g:0<=i)(p:i<xs.length):∃ z,BI (xs.map V.str) i=some (.str z)/\z∈xs:=by
 obtain ⟨v,B,d⟩:=Ez (xs:=xs.map V.str) g (by rw [R5];exact p);rw [SK] at d;cases q:xs[i.toNat]? with
 | none=>rw [q] at d;cases d
 | some z=>rw [q] at d;cases d;exact ⟨z,B,SV q⟩
theorem G9 (ks:List Str):(ks.map V.str).all D3=true:=by rw [List.all_map,UW];exact λ_ _=>rfl
theorem Afm {d:List Int}(h:d.length=(8:Int).toNat):∃ g v1 p v3 B v5 D H,d=[g,v1,p,v3,B,v5,D,H]:=by
 match d,h with
 | [g,v1,p,v3,B,v5,D,H],_=>exact ⟨_,_,_,_,_,_,_,_,rfl⟩
theorem BR.put {H:Hp}{ts:List Pr}{g:Addr}{xs:List V}{o:HO}(h:BR H ts)(d:H g=some (.lst xs)):BR (upd H g o) ts:=λt m=>by
 rw [Ak (Hu (h t m) d (by intro z;cases z))];exact h t m
theorem Lm {z:Str}{k:Int}(d:0<=k):(B9 z none (some k)).cps.toList=z.cps.toList.take k.toNat:=by
 obtain ⟨n,rfl⟩:=Yz d;show (DM z.cps.toList none (some (n:Int))).toArray.toList=_;unfold DM;rw [HT.m9,HT.m8,Xn,Xo];have:(n:Int).toNat=n:=rfl;rw [this];simp only [List.toList_toArray];by_cases h:n<=z.cps.toList.length
 .rw [XN h]
 .rw [XO (by omega),TF,Vg (by omega)]
theorem PM {z:Str}{k:Int}(d:0<=k)(g:k<=z.length):(B9 z none (some k)).length=k.toNat:=by rw [C2,Lm d,SU,<- C2];omega
theorem PN {z:Str}{k:Int}(d:0<=k)(h:Bs z):Bs (B9 z none (some k)):=λc hc=>by
 rw [Lm d] at hc;exact h c (UC hc)
theorem Afn {x y:Str}(hx:Bs x)(hy:Bs y):Bs (x++y):=λc hc=>by
 rw [Dc] at hc;rcases SG.mp hc with h | h
 .exact hx c h
 .exact hy c h
theorem Afo (ns:List Int)(k:Int)(d:0<=k):CC (ns.map V.int) none (some k)=(ns.take k.toNat).map V.int:=by
 obtain ⟨n,rfl⟩:=Yz d;unfold CC;rw [HT.m9,HT.m8,Xn,Xo,<- VA,R5];have:(n:Int).toNat=n:=rfl;rw [this];by_cases h:n<=ns.length
 .rw [XN h]
 .rw [XO (by omega),TF,Vg (by omega)]
noncomputable def Ee (z:Str)(k:Nat):Str:=B9 z none (some (1+(k:Int)))
noncomputable def DU (z:Str)(hs:List Str)(n:Nat):List Str:=((Uk n).map (Ee z)).filter λy=>!decide (y∈hs)
theorem Afp (z:Str)(hs:List Str)(n:Nat):DU z hs (n+1)=DU z hs n++if Ee z n∈hs then [] else [Ee z n]:=by
 unfold DU;rw [List.range_succ,Su,sS];congr 1
 show List.filter _ [Ee z n]=_;rw [XE,List.filter_nil];by_cases h:Ee z n∈hs
 .rw [if_pos h,decide_eq_true h];rfl
 .rw [if_neg h,decide_eq_false h];rfl
theorem PQ (z:Str)(hs:List Str)(n:Nat):(DU z hs n).length<=n:=by unfold DU;have:=W4 (λy=>!decide (y∈hs)) ((Uk n).map (Ee z));rwa [R5,WM] at this
theorem Lo {z:Str}{k:Nat}(h:k+1<=z.length):(Ee z k).length=k+1:=by unfold Ee;rw [PM (by omega) (by omega)];omega
theorem Afq {z:Str}{hs:List Str}{n:Nat}(hn:n+1<=z.length)(hd:Bs z)(d:hs.Nodup):(hs++DU z hs n).Nodup/\∀ y∈DU z hs n,(1<=y.length/\y.length<=n)/\Bs y:=by
 constructor
 .refine VU.mpr ⟨d,?_,λx hx y hy e=>?_⟩
  .unfold DU;refine sr _ (Wg.mpr (List.Pairwise.imp_of_mem (λ{i j} g p ne e=>?_) (ZJ (n:=n))));have B:=Uv.mp g;have D:=Uv.mp p;have:=congrArg VL e;rw [Lo (by omega),Lo (by omega)] at this;omega
  .subst e;have:=(Ul.mp hy).2;rw [decide_eq_true hx] at this;cases this
 .intro y hy;obtain ⟨k,hk,rfl⟩:=Sx.mp (Ul.mp hy).1;have:=Uv.mp hk;rw [Lo (by omega)];exact ⟨⟨by omega,by omega⟩,PN (by omega) hd⟩
def PR (K:R0):Sp:=λvs H Q _=>∃(p:Addr)(ns:List Int)(at_:Int),vs=[.ref p,.int at_]/\AZ K H p (ns.map V.int)/\ns.length<=63/\0<=at_/\at_<900 /\
 ∀(H':Hp)(t:Addr)(long:Int)(l:Addr)(ag:Int)(g:Addr)(zs:List Str)(ts:List Pr),Ae H H'->H' t=some (.tup [.int long,.ref l,.int ag,.ref g])->H' l=some (.lst (zs.map V.str))->H' g=some (.lst (ts.map AD))->BR H' ts->DR long ag zs ts->H t=none->H l=none->H g=none->l≠g->(∀ t∈ts,H t.1=none)->Q (.ref t) H'
theorem PU:A8 ["script","at","plan","long","many","draws","stems","lines","k","keep","stem","line","heads","groups","draw","seekers"] ["script","at"] (Ab (top 96)):=.of
theorem PV:Nm (Ab (top 96)) "script":=.of
theorem PX:Nm (Ab (top 96)) "at":=.of
theorem Dq:Nm (Ab (top 96)) "plan":=.of
theorem EF:Fj (Ab (top 96)) "long":=by walk_at "k"
theorem PY:Nm (Ab (top 96)) "many":=.of
theorem F1:Nm (Ab (top 96)) "draws":=.of
theorem Lp:Nm (Ab (top 96)) "stems":=.of
theorem F2:Nm (Ab (top 96)) "lines":=.of
theorem Ef:Nm (Ab (top 96)) "k":=.of
theorem Lq:Nm (Ab (top 96)) "keep":=.of
theorem PZ:Nm (Ab (top 96)) "stem":=.of
theorem Ja:Fj (Ab (top 96)) "line":=by walk_at "k"
theorem Jb:Fj (Ab (top 96)) "heads":=by walk_at "k"
theorem Lr:Nm (Ab (top 96)) "groups":=.of
theorem Hf:Nm (Ab (top 96)) "draw":=.of
theorem P0:Nm (Ab (top 96)) "seekers":=.of
theorem Ls:Gm (Ab (top 96)) "len":=.of
theorem Lu:Gm (Ab (top 96)) "range":=.of
theorem Afr:Gm (Ab (top 96)) "min":=.of
theorem P6:Gm (Ab (top 96)) "_law_number":=.of
theorem P7:Gm (Ab (top 96)) "_law_draws":=.of
noncomputable def Jc:Scope:={ kind:=.function,names:=[(".0",.local),("size",.local),("heads",.free),("line",.free)],isGenerator:=false,isCoroutine:=false,more:=[] }
theorem P8:A1 Jc (Ab (top 96)) ["size","heads","line"] ["script","at","plan","long","many","draws","stems","lines","k","keep","stem","line","heads","groups","draw","seekers"] [none,some 12,some 11]:=A1.mk' rfl (by decide +kernel) (by decide +kernel) (by decide +kernel) (by decide +kernel) rfl (by decide +kernel)
theorem Lv:Nm Jc "size":=.of
theorem Afs:Fl Jc "heads":=by walk_at "k"
theorem P9:Fl Jc "line":=by walk_at "k"
noncomputable def Jd:Scope:={ kind:=.function,names:=[(".0",.local),("draw",.local),("_law_number",.globalImplicit),("long",.free)],isGenerator:=false,isCoroutine:=false,more:=[] }
theorem Qa:A1 Jd (Ab (top 96)) ["draw","long"] ["script","at","plan","long","many","draws","stems","lines","k","keep","stem","line","heads","groups","draw","seekers"] [none,some 3]:=A1.mk' rfl (by decide +kernel) (by decide +kernel) (by decide +kernel) (by decide +kernel) rfl (by decide +kernel)
theorem Qb:Nm Jd "draw":=.of
theorem Aft:Fl Jd "long":=by walk_at "k"
theorem Afu:Gm Jd "_law_number":=.of
theorem Afv (F:AW K "_law_plan" "_law_plan" (top 96) f fd)(T:TxtP K mg a)(eJ:Bf P w K mg base AI 2 "_law_draws" ["script","k","many","base"] (KQ K))(hX:Bf P w K mg base AI 1 "_law_number" ["draw","long"] OW) :
  AE P w K mg base AI 3 f fd ["script","at"] (PR K):=by
 refine F.ok PU λaf A outer s H vs Q E hr h=>?_
 .obtain ⟨p,ns,at_,rfl,hS,hn,a0,a1,q⟩:=h;have hu:=hr.units;have nd:=PU.nd;refine ⟨_,(@Ai _ _ _ _ _ (AG 2 nd Dq (Bh eJ P7 hr.d Bj (Ac (Aa 0 PV) (Ac (Aa 1 PX) (Ac Ag (Ac Ag Af))))))
    (Ai (Kh 3 nd EF (As Aw (A7 (FO rfl)) (Aj A6 (As Aw (Aa 2 Dq) Ag (λ_ _=>rfl)) Ag) (λ_ _=>rfl)))
    (Ai (AG 4 nd PY (As Aw (A7 (Ac (Aj AL Ag (Aj A6 (As Aw (Aa 2 Dq) Ag (λ_ _=>rfl)) Ag)) (Ac (Aj AL Ag (Aj A6 (As Aw (Aa 2 Dq) Ag (λ_ _=>rfl)) Ag)) (Ac Ag (Ac (Aj AL Ag (Aj A6 (As Aw (Aa 2 Dq) Ag (λ_ _=>rfl)) Ag)) Af))))) (Aj A6 (As Aw (Aa 2 Dq) Ag (λ_ _=>rfl)) Ag) (λ_ _=>rfl)))
    (Ai (AG 5 nd F1 (Bh eJ P7 hr.d Bj (Ac (Aa 0 PV) (Ac (Aj AL (Aa 1 PX) Ag) (Ac Ag (Ac Ag Af))))))
    (Ai (NW (j:=6) rfl nd rfl (Sd Lp.loc) Qa (C5 (BH BP (Aa 5 F1) BM (BE (Aj AL Ag (Aj A6 (As Aw (Aa 2 Dq) Ag (λ_ _=>rfl)) Ag))))) (λcl C fp pins s₂ H₂=>(A9 0 Qa.nd Qb.comp)) (λcl C fp pins s₂ H₂=>D9) (λcl C fp pins s₂ H₂=>(Bh hX Afu.comp hr.d Bj (Ac (Aa 0 Qb.comp) (Ac (FP 1 Aft.comp) Af)))) (by rfl) (by intro _;rfl) (Sd rfl))
    (Ai (AG 7 nd F2 (A7 Af))
    (Ai (C6 U3 rfl (FN Lu T.d9 (Ac (Aa 4 PY) Af)) (A9 8 nd Ef) (Ai (AG 9 nd Lq (As Aw (A7 (Ac (Aj Et (C9 3 EF) Ag) (Ac (Aj Et (C9 3 EF) Ag) (Ac (Aj Et (C9 3 EF) Ag) (Ac Ag Af))))) (Aj A6 (Aj D0 (As Aw (Aa 5 F1) (Aa 8 Ef) (λ_ _=>rfl)) Ag) Ag) (λ_ _=>rfl)))
     (Ai (AG 10 nd PZ (BH BP (As Aw (Aa 6 Lp) (Aj A6 (As Aw (Aa 5 F1) (Aa 8 Ef) (λ_ _=>rfl)) (AH Bl Ls T.n_len Bg (Ac (Aa 6 Lp) Af))) (λ_ _=>rfl)) BM (BE (Aa 9 Lq))))
     (Ai (Kh 11 nd Ja (Aj AL (Aa 10 PZ) (Bh hX P6 hr.d Bj (Ac (Aj AL (Aj BO (Aj D0 (As Aw (Aa 5 F1) (Aa 8 Ef) (λ_ _=>rfl)) Ag) Ag) (Aj BO (Aa 8 Ef) (Aa 8 Ef))) (Ac (Aj Et (C9 3 EF) (Aa 9 Lq)) Af)))))
     (Ap (AR (AK J7 (C9 11 Ja) (Aa 7 F2) (by with_unfolding_all rfl)) (Ap (CK (B2 Vy V1 V2 Ey (Aa 7 F2) (Ac (C9 11 Ja) Af)))) AQ))))))
    (Ai (Kh 12 nd Jb (A7 Af))
    (Ai (C6 U3 rfl (C5 (Aj AL (Aa 7 F2) (A7 (Ac (Bh hX P6 hr.d Bj (Ac (As Aw (Aa 2 Dq) Ag (λ_ _=>rfl)) (Ac (C9 3 EF) Af))) Af)))) (AcE 11 nd Ja) (Ap (CK (B2 Vy PySem.F.slot_list_extend PySem.F.type_list_extend AbJ (C9 12 Jb) (Ac (EA rfl P8 (AdC Lu T.d9 (Ac Ag (Ac (Aj Et (C9 3 EF) Ag) Af))) (λcl C fp pins s₂ H₂=>(A9 0 P8.nd Lv.comp)) (λcl C fp pins s₂ H₂=>(GH (AK (Kk K rfl) (BH (N0 K rfl) (FP 2 P9.comp) BM (BE (Aa 0 Lv.comp))) (FP 1 Afs.comp) (by with_unfolding_all rfl)))) (λcl C fp pins s₂ H₂=>(BH (N0 K rfl) (FP 2 P9.comp) BM (BE (Aa 0 Lv.comp))))) Af)))))
    (Ai (AG 13 nd Lr (A7 Af))
    (Ai (C6 U3 rfl (FN Lu T.d9 (Ac (AH (AaY rfl) Afr T.oQ Ack (Ac Ag (Ac (AH Bl Ls T.n_len Bg (Ac (C9 12 Jb) Af)) Af))) Af)) (A9 8 nd Ef) (Ai (AG 14 nd Hf (Aj D0 (As Aw (Aa 5 F1) (Aj Et Ag (Aa 8 Ef)) (λ_ _=>rfl)) Ag))
     (Ap (AR (AK Gu (Aj A6 (Aa 14 Hf) Ag) Ag (AN _)) (Ap (CK (B2 Vy V1 V2 Ey (Aa 13 Lr) (Ac (Dw (Ac (As Aw (C9 12 Jb) (Aa 8 Ef) (λ_ _=>rfl)) (Ac (As Aw (A7 (Ac (Aj AL Ag (Aj A6 (Aj D0 (Aa 14 Hf) Ag) Ag)) (Ac (Aj A6 (Aj D0 (Aa 14 Hf) Ag) Ag) (Ac Ag Af)))) (Aj A6 (Aj D0 (Aa 14 Hf) Ag) Ag) (λ_ _=>rfl)) Af))) Af)))) AQ))))
    (Ai (AG 15 nd P0 (As Aw (A7 (Ac (Aj AL Ag (Aj A6 (As Aw (Aa 2 Dq) Ag (λ_ _=>rfl)) Ag)) (Ac (Aj AL Ag (Aj A6 (As Aw (Aa 2 Dq) Ag (λ_ _=>rfl)) Ag)) (Ac (AH Bl Ls T.n_len Bg (Ac (Aa 7 F2) Af)) (Ac (Aj AL Ag (Aj A6 (As Aw (Aa 2 Dq) Ag (λ_ _=>rfl)) Ag)) Af))))) (Aj A6 (As Aw (Aa 2 Dq) Ag (λ_ _=>rfl)) Ag) (λ_ _=>rfl)))
    (Ap (AO (Dw (Ac (C9 3 EF) (Ac (Aa 7 F2) (Ac (Aa 15 P0) (Ac (Aa 13 Lr) Af))))))))))))))))))),?_⟩
  try dsimp only [aE,aF]
  walk_at"";refine B0 p ns at_ _ _ rfl ⟨hS,a0,by omega,hn,by decide,by decide,by decide,by decide,λr row H1 s1 nr fV pP eK=>?_⟩;obtain ⟨v0,v1,v2,v3,v4,v5,v6,v7,rfl⟩:=Afm pP;have b0:=eK v0 (by simp);have b1:=eK v1 (by simp);have b2:=eK v2 (by simp);have b3:=eK v3 (by simp);have b4:=eK v4 (by simp);have b5:=eK v5 (by simp);have b6:=eK v6 (by simp);clear eK pP
  walk_at"";refine ⟨by decide,λl1 n1=>?_⟩;have s2:=s1.upd (o:=.lst [V.int 3,V.int 4,V.int 2,V.int 4]) n1;have kR:=((Ae.refl H1).upd (o:=.lst [V.int 3,V.int 4,V.int 2,V.int 4]) n1) _ _ fV;obtain ⟨g,el,ml⟩:=G8 (xs:=[3,4,2,4]) (i:=v0 % 4) (by omega) (by show v0 % 4<4;omega);have fP:2<=g/\g<=4:=by simp only [Si,Tz,or_false] at ml;rcases ml with h | h | h | h<;>omega
  walk_at"";refine Sd (BF (.of Ah) el ?_);generalize upd H1 l1 (.lst [V.int 3,V.int 4,V.int 2,V.int 4])=I at s2 kR ⊢;walk_at"";refine ⟨AA,λl2 n2=>?_⟩;have s3:=s2.upd (o:=.lst [V.int (2+v1 % 9),V.int (1+v1 % 60),V.int 6,V.int (1+v1 % 24)]) n2;have kT:=((Ae.refl I).upd (o:=.lst [V.int (2+v1 % 9),V.int (1+v1 % 60),V.int 6,V.int (1+v1 % 24)]) n2) _ _ kR;obtain ⟨J,em,mm⟩:=G8 (xs:=[2+v1 % 9,1+v1 % 60,6,1+v1 % 24]) (i:=v2 % 4) (by omega) (by show v2 % 4<4;omega);have aeV:1<=J/\J<=60:=by simp only [Si,Tz,or_false] at mm;rcases mm with h | h | h | h<;>omega
  walk_at"";refine Sd (BF (.of Ah) em ?_);generalize upd I l2 (.lst [V.int (2+v1 % 9),V.int (1+v1 % 60),V.int 6,V.int (1+v1 % 24)])=H3 at s3 kT ⊢;clear em mm el ml
  walk_at"";refine B0 p ns (at_+1) _ _ rfl ⟨s3.seq hS,by omega,by omega,hn,by decide,by decide,by decide,by decide,λd L H4 pQ nd4 kU pR je=>?_⟩;have s4:=s3.trans pQ;have hZ:=pQ _ _ kT;have pR:L.length=60:=pR;walk_at"";refine R9 (AX d _ rfl (.of kU) (λsl pS=>?_));rw [Afo _ _ (by omega)];have s5:=s4.upd (o:=.lst ((L.take (1+v3 % 6).toNat).map V.int)) pS;have t5:=(Ae.refl H4).upd (o:=.lst ((L.take (1+v3 % 6).toNat).map V.int)) pS;have fz:=t5 _ _ hZ;have kW:=t5 _ _ kU;have ia:(upd H4 sl (.lst ((L.take (1+v3 % 6).toNat).map V.int))) sl=some (.lst ((L.take (1+v3 % 6).toNat).map V.int)):=Ah;generalize upd H4 sl (.lst ((L.take (1+v3 % 6).toNat).map V.int))=H5 at s5 fz kW ia ⊢;clear t5
  have pT:(L.take (1+v3 % 6).toNat).length=(1+v3 % 6).toNat:=by rw [SU];omega
  generalize L.take (1+v3 % 6).toNat=sd at ia pT ⊢;refine BB sl rfl ⟨_,.of ia⟩ (λst pU=>?_);refine FQ (K:=K) (a:=sl) (xs:=sd.map V.int) (λi σ H'=>∃ x,σ=[x,some (.int g)]/\Ae H5 H'/\∃ ss:List Str,ss.length=i/\(∀ z∈ss,(z.length:Int)=g/\Bs z)/\H' st=some (.lst (ss.map V.str))) ⟨none,rfl,(Ae.refl H5).upd pU,[],rfl,λz hz=>absurd hz (by simp),Ah⟩ (λi σ H' _ ⟨_,_,Y,_⟩=>.of (Y _ _ ia)) ?_ ?_
  .intro i y σ H' hi O;obtain ⟨x,rfl,Y,ss,e1,e2,e3⟩:=O;have ib:i<sd.length:=by have:=(TL.mp hi).1;rwa [R5] at this
   rw [SK] at hi;cases hk:sd[i]? with
   | none=>rw [hk] at hi;cases hi
   | some v =>
    rw [hk] at hi;cases hi;walk_at"";refine ⟨by omega,by omega,λz hz dz=>?_⟩;refine ⟨_,e3,?_,_,rfl,Y.bN pU,ss++[z],?_,?_,?_⟩
    .rw [R5,e1,R8];omega
    .rw [SF,e1];rfl
    .intro y hy;rcases SG.mp hy with m | m
     .exact e2 y m
     .rw [SA.mp m];exact ⟨by omega,dz⟩
    .rw [Ah,Su];rfl
  intro σ6 H6 O;obtain ⟨x6,rfl,kX,ss,ess,hss,bt⟩:=O;rw [R5,pT] at ess;have s6:=s5.trans kX;have pV:=kX _ _ fz;have kY:=kX _ _ kW;clear ia fz kW hZ kU kT kR fV
  walk_at"";refine ⟨AA,λln kZ=>?_⟩;have fln:H ln=none:=s6.free kZ;walk_at"";refine ⟨by omega,by omega,FH (n:=J.toNat) (λi σ I=>∃ x8 x9 dI dJ,σ=[some (.ref p),some (.int at_),some (.ref r),some (.int g),some (.int J),some (.ref d),some (.ref st),some (.ref ln),x8,x9,dI,dJ,none,none,none,none]/\Ae H6 I/\∃ zs:List Str,I ln=some (.lst (zs.map V.str))/\zs.Nodup/\zs.length<=i/\(0<i->1<=zs.length)/\∀ z∈zs,(z.length:Int)=g/\Bs z) ?_ ?_ ?_⟩
  .exact ⟨none,none,none,none,rfl,(Ae.refl H6).upd kZ,[],Ah,UY,Sh _,λh=>absurd h (TK _),λz hz=>absurd hz (by simp)⟩
  .intro i σ I hi O;obtain ⟨x8,x9,dI,dJ,rfl,Y,zs,hz,jf,lz,pz,oz⟩:=O;simp only [W2];have hd2:=Y _ _ kY;have aa7:=Y _ _ bt;have ib:(i:Int)<L.length:=by omega
   have ei:=GD (ns:=L) (k:=(i:Int)) (by omega) ib;have eb:0<=L.getD ((i:Int)).toNat 0/\L.getD ((i:Int)).toNat 0<10080:=by
    have ai:((i:Int)).toNat<L.length:=by omega
    rw [Tf,SH ai];exact je _ (UX ai)
   generalize L.getD ((i:Int)).toNat 0=e at ei eb;walk_at"";refine ⟨AA,λl3 n3=>?_⟩;have b9:=Y.upd (o:=.lst [V.int (g - 1),V.int (g - 2),V.int (g - 1),V.int 0]) n3;have t3:=(Ae.refl I).upd (o:=.lst [V.int (g - 1),V.int (g - 2),V.int (g - 1),V.int 0]) n3;have f9:=t3 _ _ hd2;have k8:=t3 _ _ aa7;have ic:=t3 _ _ hz;obtain ⟨keep,ek,mk⟩:=G8 (xs:=[g - 1,g - 2,g - 1,0]) (i:=e / 6 % 4) (by omega) (by show e / 6 % 4<4;omega);have pW:0<=keep/\keep<=g:=by simp only [Si,Tz,or_false] at mk;rcases mk with h | h | h | h<;>omega
   walk_at"";refine Sd (BF (.of f9) ei ?_);walk_at"";refine Sd (BF (.of Ah) ek ?_);generalize upd I l3 (.lst [V.int (g - 1),V.int (g - 2),V.int (g - 1),V.int 0])=H3' at b9 f9 k8 ic ⊢;clear ek mk t3
   walk_at"";refine Sd (BF (.of f9) ei ?_);walk_at"";refine R9 (AX _ _ rfl (.inl (.of k8)) ?_);rw [R5];have aa8:0<(ss.length:Int):=by omega
   walk_at"";obtain ⟨gb,es,ms⟩:=Afl (xs:=ss) (i:=e % ss.length) (U1 _ (by omega)) (U2 _ aa8);obtain ⟨ls,ds⟩:=hss gb ms;refine Sd (BF (.of k8) es ?_);walk_at"";refine Sd (BB gb rfl (by rw [R8];omega) ?_);walk_at"";refine Sd (BF (.of f9) ei ?_);have ii:(i:Int)<60:=by omega
   walk_at"";refine ⟨by omega,by omega,λz2 pX dz2=>?_⟩;have lc:=PM (z:=gb) pW.1 (by omega);have dl:Bs (B9 gb none (some keep)++z2):=Afn (PN pW.1 ds) dz2;have ll:((B9 gb none (some keep)++z2).length:Int)=g:=by rw [AV,lc,pX];omega
   refine R9 (Sd (Bw _ _ rfl rfl (by rw [lc,pX,R8];omega) ?_));generalize B9 gb none (some keep)++z2=line at dl ll ⊢;walk_at"";refine R9 (DK ln (zs.map V.str) rfl (.inl (.of ic)) rfl (G9 zs) ?_);simp only [if_true];rw [IZ];walk_at"";by_cases hm:line∈zs
   .rw [decide_eq_true hm];refine Bv ?_;exact D5 _ _ _ _ rfl ⟨b9,zs,ic,jf,by omega,λ_=>ZZ hm,oz⟩
   .rw [decide_eq_false hm];refine Bt ?_;walk_at"";refine ⟨.inl ⟨rfl,_,.of ic⟩,?_⟩;walk_at"";refine BZ ln _ _ rfl rfl ic (by rw [R5,R8];omega) ?_;refine D5 _ _ _ _ rfl ⟨b9.bN kZ,zs++[line],?_,?_,?_,?_,?_⟩
    .rw [Ah,Su];rfl
    .exact VU.mpr ⟨jf,Te.mpr ⟨by simp,UY⟩,λx hx y hy z=>by rw [SA.mp hy] at z;exact hm (z▸hx)⟩
    .rw [SF];simp;omega
    .intro _;rw [SF];simp
    .intro y hy;rcases SG.mp hy with m | m
     .exact oz y m
     .rw [SA.mp m];exact ⟨ll,dl⟩
  .intro σ7 H7 O;obtain ⟨x8,x9,dI,dJ,rfl,k9,zs,hz,jf,lz,pz,oz⟩:=O;have lz1:1<=zs.length:=pz (by omega);have lz2:zs.length<=60:=by omega
   have s7:=s6.trans k9;have pY:=k9 _ _ pV;have pZ:=k9 _ _ kY;clear bt pV kY pz lz
   walk_at"";refine ⟨AA,λhh lb=>?_⟩;have fhh:H hh=none:=s7.free lb;have t8:=(Ae.refl H7).upd (o:=.lst []) lb;have hr8:=t8 _ _ pY;have hd8:=t8 _ _ pZ;have qb:=t8 _ _ hz;have s8:=s7.trans t8;have g8:(upd H7 hh (.lst [])) hh=some (.lst (([]:List Str).map V.str)):=Ah;generalize upd H7 hh (.lst [])=H8 at t8 hr8 hd8 qb s8 g8 ⊢;walk_at"";refine ⟨by omega,by omega,λz4 hz4 dz4=>?_⟩;refine ⟨AA,λl4 n4=>?_⟩;have t9:=(Ae.refl H8).upd (o:=.lst [V.str z4]) n4;refine R9 (R9 (A0 ln l4 _ _ rfl rfl (t9 _ _ qb) Ah (by rw [R5,R8];simp;omega) (λl5 n5=>?_)));have e5:zs.map V.str++[V.str z4]=(zs++[z4]).map V.str:=by rw [Su];rfl
   rw [e5];have ta:=t9.upd (o:=.lst ((zs++[z4]).map V.str)) n5;have ha:(upd (upd H8 l4 (.lst [V.str z4])) l5 (.lst ((zs++[z4]).map V.str))) l5=some (.lst ((zs++[z4]).map V.str)):=Ah;have nlh:l5≠hh:=λz=>by rw [z,t9 _ _ g8] at n5;cases n5
   generalize upd (upd H8 l4 (.lst [V.str z4])) l5 (.lst ((zs++[z4]).map V.str))=Ha at ta ha ⊢;clear t9 e5 n4 n5
   have oz4:∀ z∈zs++[z4],(z.length:Int)=g/\Bs z:=λy hy=>by
    rcases SG.mp hy with m | m
    .exact oz y m
    .rw [SA.mp m];exact ⟨by omega,dz4⟩
   have lz4:(zs++[z4]).length<=61:=by rw [SF];simp;omega
   walk_at"";refine ⟨⟨_,.of ha⟩,FG (K:=K) (a:=l5) (xs:=(zs++[z4]).map V.str) (λi σ I=>∃ x8 x9 dI dJ,σ=[some (.ref p),some (.int at_),some (.ref r),some (.int g),some (.int J),some (.ref d),some (.ref st),some (.ref ln),x8,x9,dI,dJ,some (.ref hh),none,none,none]/\Cv [hh] Ha I/\∃ B:List Str,I hh=some (.lst (B.map V.str))/\B.Nodup/\B.length<=4 * i/\∀ z∈B,(1<=z.length/\(z.length:Int)<=g - 2)/\Bs z)
    ⟨_,_,_,_,rfl,λb o _ e=>e,[],ta _ _ g8,UY,Sh _,λz hz=>absurd hz (by simp)⟩ (λi σ I _ ⟨_,_,_,_,_,Y,_⟩=>.of (Y _ _ (by simpa using nlh) ha)) ?_ ?_⟩
   .intro i y σ I hi O;obtain ⟨x8,x9,dI,dJ,rfl,Y,B,hH,lp,lh,oh⟩:=O;have ib:i<(zs++[z4]).length:=by have:=(TL.mp hi).1;rwa [R5] at this
    rw [SK] at hi;cases hk:(zs++[z4])[i]? with
    | none=>rw [hk] at hi;cases hi
    | some z =>
     rw [hk] at hi;cases hi;obtain ⟨zl,zd⟩:=oz4 z (SV hk);walk_at"";refine ⟨.inl ⟨rfl,_,.of hH⟩,?_⟩;walk_at"";refine ⟨⟨by omega,by omega,by omega,by omega⟩,λD nD=>?_⟩;refine AcG (lo:=1) (n:=(g - 1 - 1).toNat) (λk σ H3=>∃ x,σ=[x,some (.ref hh),some (.str z)]/\Ae I H3/\H3 D=some (.lst ((DU z B k).map V.str))) ⟨none,rfl,(Ae.refl I).upd nD,Ah⟩ ?_ ?_
     .intro k σ H3 hk' O;obtain ⟨x,rfl,b9,hL⟩:=O;walk_at"";refine Sd (BB z rfl (by rw [R8];omega) ?_);walk_at"";refine R9 (DK hh (B.map V.str) rfl (.inl (.of (b9 _ _ hH))) rfl (G9 B) ?_);simp only [if_true];rw [IZ];walk_at"";have es:=Afp z B k;by_cases hm:Ee z k∈B
      .have lq:B9 z none (some (1+(k:Int)))∈B:=hm;rw [decide_eq_true lq];refine Bv ?_;rw [if_pos hm,S5] at es;exact ⟨_,rfl,b9,by rw [es];exact hL⟩
      .have lq:B9 z none (some (1+(k:Int))) ∉ B:=hm;rw [decide_eq_false lq];refine Bt ?_;walk_at"";refine Sd (BB z rfl (by rw [R8];omega) ?_);rw [if_neg hm] at es;have:=PQ z B k;refine ⟨_,hL,(by rw [R5,R8];omega),_,rfl,b9.bN nD,?_⟩;rw [Ah,es,Su];rfl
     .intro σ H3 O;obtain ⟨x,rfl,b9,hL⟩:=O;have nl:=PQ z B (g - 1 - 1).toNat;obtain ⟨ok1,ok2⟩:=Afq (z:=z) (hs:=B) (n:=(g - 1 - 1).toNat) (by omega) zd lp;refine A0 hh D _ _ rfl rfl (b9 _ _ hH) hL (by rw [R5,R5,R8];omega) ?_;refine D5 _ _ _ _ rfl ⟨λb o hb e=>by rw [Ak (by simpa using hb)];exact b9 _ _ (Y b o hb e),B++DU z B (g - 1 - 1).toNat,by rw [Ah,Su],ok1,by rw [SF];omega,λy hy=>?_⟩;rcases SG.mp hy with m | m
      .exact oh y m
      .obtain ⟨⟨g1,g2⟩,g3⟩:=ok2 y m;exact ⟨⟨g1,by omega⟩,g3⟩
   .intro σb Hb O;obtain ⟨x8b,x9b,aeW,aeX,rfl,jc,B,hH,lp,lh,oh⟩:=O;rw [R5] at lh;have nrh:∀ {b o},H7 b=some o->b ∉ [hh]:=λe z=>by rw [SA.mp z,lb] at e;cases e
    have jg:∀ {b o},H7 b=some o->Hb b=some o:=λe=>jc _ _ (nrh e) (ta _ _ (t8 _ _ e));have hrb:=jg pY;have bZ:=jg pZ;have qc:=jg hz;have sb:Ae H Hb:=λb o e=>jg (s7 _ _ e);walk_at"";refine ⟨AA,λgg jh=>?_⟩;have fgg:H gg=none:=sb.free jh;have tc:=(Ae.refl Hb).upd (o:=.lst []) jh;have gc:(upd Hb gg (.lst [])) gg=some (.lst (([]:List Pr).map AD)):=Ah;generalize upd Hb gg (.lst [])=Hc at tc gc ⊢;walk_at"";refine R9 (AX _ _ rfl (.inl (.of (tc _ _ hH))) ?_);rw [R5];walk_at"";have mn:0<=(if (B.length:Int)<40 then (B.length:Int) else 40)/\(if (B.length:Int)<40 then (B.length:Int) else 40)<=40/\(if (B.length:Int)<40 then (B.length:Int) else 40)<=B.length:=by split<;>omega
    generalize (if (B.length:Int)<40 then (B.length:Int) else 40)=mm at mn ⊢;refine ⟨by omega,by omega,FH (n:=mm.toNat) (λi σ I=>∃ x8 x9 dI dJ qd,σ=[some (.ref p),some (.int at_),some (.ref r),some (.int g),some (.int J),some (.ref d),some (.ref st),some (.ref ln),x8,x9,dI,dJ,some (.ref hh),some (.ref gg),qd,none]/\Ae Hb I/\∃ ts:List Pr,I gg=some (.lst (ts.map AD))/\BR I ts/\(ts.map (·.2.1)).Sublist (B.take i)/\(∀ t∈ts,(0<=t.2.2/\t.2.2<=10)/\H t.1=none)) ?_ ?_ ?_⟩
    .exact B0 _ _ _ _ none rfl ⟨tc,[],gc,λt m=>absurd m (by simp),Wj _,λt m=>absurd m (by simp)⟩
    .intro i σ I hi O;obtain ⟨x8,x9,dI,dJ,qd,rfl,Y,ts,hG,lay,sub,ok⟩:=O;simp only [W2];have hd2:=Y _ _ bZ;have ji:=Y _ _ hH;have qe:ts.length<=i:=by have:=sub.length_le;rw [R5,SU] at this;omega
     have ei:=GD (ns:=L) (k:=59 - (i:Int)) (by omega) (by omega);have eb:0<=L.getD (59 - (i:Int)).toNat 0/\L.getD (59 - (i:Int)).toNat 0<10080:=by
      have ai:(59 - (i:Int)).toNat<L.length:=by omega
      rw [Tf,SH ai];exact je _ (UX ai)
     generalize L.getD (59 - (i:Int)).toNat 0=e at ei eb;have qf:i<B.length:=by omega
     walk_at"";refine Sd (BF (.of hd2) ei ?_);walk_at"";have tk:B.take (i+1)=B.take i++[B[i]]:=by rw [T9,SH qf];rfl
     by_cases hp:e / 7 % 9 > 0;case neg =>
      refine CQ (decide_eq_false hp) ?_;exact B0 _ _ _ _ _ rfl ⟨Y,ts,hG,lay,by rw [tk];exact sub.trans (List.sublist_append_left _ _),ok⟩
     refine CP (decide_eq_true hp) ?_;walk_at"";refine ⟨.inl ⟨rfl,_,.of hG⟩,?_⟩;have eh:BI (B.map V.str) (i:Int)=some (.str B[i]):=by obtain ⟨v,e1,e2⟩:=Ez (xs:=B.map V.str) (k:=(i:Int)) (by omega) (by rw [R5];omega);rw [e1,<- e2];show (B.map V.str)[i]?=_;rw [SK,SH qf];rfl
     walk_at"";refine Sd (BF (.of ji) eh ?_);walk_at"";refine ⟨AA,λl6 n6=>?_⟩;obtain ⟨mv,em,qg⟩:=G8 (xs:=[1+e / 7 / 9 % 3,e / 7 / 9 % 11,1]) (i:=e / 7 / 99 % 3) (by omega) (by show e / 7 / 99 % 3<3;omega);have hmv:0<=mv/\mv<=10:=by simp only [Si,Tz,or_false] at qg;rcases qg with h | h | h<;>omega
     have td:=(Ae.refl I).upd (o:=.lst [V.int (1+e / 7 / 9 % 3),V.int (e / 7 / 9 % 11),V.int 1]) n6;walk_at"";refine Sd (BF (.of Ah) em ?_);generalize upd I l6 (.lst [V.int (1+e / 7 / 9 % 3),V.int (e / 7 / 9 % 11),V.int 1])=H3 at td ⊢;refine ⟨AA,λtt ie=>?_⟩;have te:=td.upd (o:=.tup [V.str B[i],V.int mv]) ie;have gt:(upd H3 tt (.tup [V.str B[i],V.int mv])) tt=some (.tup [V.str B[i],V.int mv]):=Ah;have ftt:I tt=none:=td.free ie;generalize upd H3 tt (.tup [V.str B[i],V.int mv])=H4 at te gt ⊢;have qh:=te _ _ hG;walk_at"";refine BZ gg _ _ rfl rfl qh (by rw [R5,R8];omega) ?_;refine B0 _ _ _ _ _ rfl ⟨(Y.trans te).bN jh,ts++[(tt,B[i],mv)],?_,?_,?_,?_⟩
     .rw [Ah,Su];rfl
     .refine BR.put (λt m=>?_) qh;rcases SG.mp m with z | z
      .exact te _ _ (lay t z)
      .rw [SA.mp z];exact gt
     .rw [tk,Su];exact sub.append (Wj _)
     .intro t m;rcases SG.mp m with z | z
      .exact ok t z
      .rw [SA.mp z];exact ⟨hmv,(sb.trans Y).free ftt⟩
    .intro σd Hd O;obtain ⟨y8,y9,y10,y11,y14,rfl,fv,ts,hG,lay,sub,ok⟩:=O;have nv:=fv _ _ hrb;have qi:=fv _ _ qc;walk_at"";refine R9 (AX _ _ rfl (.inl (.of qi)) ?_);rw [R5];walk_at"";refine ⟨AA,λl7 n7=>?_⟩;have tf:=(Ae.refl Hd).upd (o:=.lst [V.int (1+v5 % 4),V.int (1+v5 % 60),V.int zs.length,V.int (1+v5 % 8)]) n7;have hre:=tf _ _ nv;obtain ⟨ag,em,qj⟩:=G8 (xs:=[1+v5 % 4,1+v5 % 60,(zs.length:Int),1+v5 % 8]) (i:=v6 % 4) (by omega) (by show v6 % 4<4;omega);have qk:1<=ag/\ag<=60:=by
      simp only [Si,Tz,or_false] at qj;rcases qj with h | h | h | h<;>omega
     walk_at"";refine Sd (BF (.of Ah) em ?_);generalize upd Hd l7 (.lst [V.int (1+v5 % 4),V.int (1+v5 % 60),V.int zs.length,V.int (1+v5 % 8)])=He at tf hre ⊢;walk_at"";refine ⟨AA,λtt ie=>?_⟩;have tg:=tf.upd (o:=.tup [V.int g,V.ref ln,V.int ag,V.ref gg]) ie;have aa9:=sb.trans (fv.trans tg);have qe:ts.length<=40:=by have:=sub.length_le;rw [R5,SU] at this;omega
     refine q _ tt g ln ag gg zs ts aa9 Ah (tg _ _ qi) (tg _ _ hG) (lay.same tg) ⟨⟨fP.1,fP.2,qk.1,qk.2⟩,⟨⟨lz1,lz2⟩,oz,jf⟩,qe,λt m=>?_,?_⟩ ((sb.trans (fv.trans tf)).free ie) fln fgg (Be qc jh) λt m=>(ok t m).2
     .obtain ⟨⟨g1,g2⟩,g3⟩:=oh t.2.1 (UC (sub.subset (Sx.mpr ⟨t,m,rfl⟩)));exact ⟨⟨by omega,g2⟩,g3,(ok t m).1⟩
     .exact (lp.sublist (Xg _ _)).sublist sub
def BG:List (Aq×V):=[(.inr "long",.int 2),(.inr "seekers",.int 2),(.inr "line",.int 2),(.inr "group",.int 3)]
structure TxtR (P:R7)(w:R3)(K:R0)(mg:Str->Option Value)(a:An):Prop extends TxtP K mg a where
 ig:mg "str"=none
 fA:mg "WORDS"=some (.ref a.bU)
 kd:EB P w K a.bU BG
 dM:mg "NoText"=some (.ref a.ax)
 ik:Ts K a.ax [.type "ValueError",.type "Exception",.type "BaseException",.type "object"] "ValueError.__new__"=true
def CT (n:Int):Str:=(toString n:String)
theorem Qc:∀ k:Nat,k<100->((CT (k:Int)).length=1\/(CT (k:Int)).length=2)/\((CT (k:Int)).cps.toList.all B5=true)/\((CT (k:Int)).length=2->(CT (k:Int)).cps.toList.head?≠some 48)/\Vh (CT (k:Int))=some (k:Int):=by decide +kernel
structure Cd (n:Int):Prop where
 lo:0<=n
 hi:n<=99
theorem Cd.nat {n:Int}(h:Cd n):∃ k:Nat,n=k/\k<100:=⟨n.toNat,by have:=h.lo;omega,by have:=h.hi;omega⟩
theorem Cd.len {n:Int}(h:Cd n):(CT n).length=1\/(CT n).length=2:=by obtain ⟨k,rfl,hk⟩:=h.nat;exact (Qc k hk).1
theorem Cd.dig {n:Int}(h:Cd n):Bs (CT n):=by obtain ⟨k,rfl,hk⟩:=h.nat;exact λc hc=>Eb.mp (UW.mp (Qc k hk).2.1 c hc)
theorem Cd.small {n:Int}(h:Cd n):n.natAbs.log2<1920:=by obtain ⟨k,rfl,hk⟩:=h.nat;exact YA (ZE _) (by show k<1920;omega)
theorem Qd {z:Str}(h:z.length=2):∃ c,z.cps.toList.head?=some c/\BI z.cps.toList 0=some c:=by
 have d:z.cps.toList.length=2:=h;cases e:z.cps.toList with
 | nil=>rw [e] at d;cases d
 | cons c r=>exact ⟨c,rfl,Gy (j:=0) rfl⟩
def Lx (z:Str):Bool:=z.cps.toList.all B5
theorem Fq {z:Str}:Lx z=true↔Bs z:=by unfold Lx Bs;rw [UW];exact ⟨λh c m=>Eb.mp (h c m),λh c m=>Eb.mpr (h c m)⟩
def A2 (z:Str):Option Int:=if (z.length=1\/z.length=2)/\Lx z=true/\¬ (z.length=2/\z.cps.toList.head?=some 48) then Vh z else none
theorem Afw:∀ c:Nat,c<10->∀ d:Nat,d<10->Vh ⟨#[48+c,48+d]⟩=some ((10 * c+d:Nat):Int):=by decide +kernel
theorem Afx:∀ c:Nat,c<10->Vh ⟨#[48+c]⟩=some (c:Int):=by decide +kernel
theorem Ly {z:Str}(h:z.length=1\/z.length=2)(d:Bs z):∃ n:Int,Vh z=some n/\0<=n/\n<=99:=by
 have p:z.cps.toList.length=z.length:=(C2 z).symm;rcases h with h | h
 .match e:z.cps.toList,p.trans h with
  | [c],_ =>
   have g:z=⟨#[c]⟩:=KW e;have hc:=d c (by rw [e];simp);have:=Afx (c - 48) (by omega);rw [show 48+(c - 48)=c by omega] at this;exact ⟨_,by rw [g];exact this,by omega,by omega⟩
 .match e:z.cps.toList,p.trans h with
  | [c,c'],_ =>
   have g:z=⟨#[c,c']⟩:=KW e;have hc:=d c (by rw [e];simp);have B:=d c' (by rw [e];simp);have:=Afw (c - 48) (by omega) (c' - 48) (by omega);rw [show 48+(c - 48)=c by omega,show 48+(c' - 48)=c' by omega] at this;exact ⟨_,by rw [g];exact this,by omega,by omega⟩
theorem Afy {z:Str}{n:Int}(h:A2 z=some n):Cd n/\z≠Sa "":=by
 unfold A2 at h;split at h
 .rename_i c
  obtain ⟨m,e,d,m1⟩:=Ly c.1 (Fq.mp c.2.1);rw [e] at h;cases h;refine ⟨⟨d,m1⟩,λg=>?_⟩;rw [g] at c;exact absurd c.1 (by decide)
 .cases h
def Je:Sp:=λvs H Q _=>∃ z:Str,vs=[.str z]/\Ok z/\∀ H',Ae H H'->Q (OZ (A2 z)) H'
theorem Afz:A8 ["word"] ["word"] (Ab (top 4)):=.of
theorem Hg:Nm (Ab (top 4)) "word":=.of
theorem AfA:Gm (Ab (top 4)) "int":=.of
theorem Qe:Gm (Ab (top 4)) "len":=.of
theorem AfB:Gm (Ab (top 4)) "are_figures":=.of
theorem AfC (F:AW K "short_number" "short_number" (top 4) f fd)(T:TxtR P w K mg a)(dG:Bf P w K mg base AI 1 "are_figures" ["text"] Iw):AE P w K mg base AI 2 f fd ["word"] Je:=by
 refine F.ok Afz λaf A outer s H vs Q E hr h=>?_
 .obtain ⟨z,rfl,ok,q⟩:=h;have hu:=hr.units;have zl:=ok.2;refine ⟨_,(@Ai _ _ _ _ _ (AR (PW.pt (Cz (AK J7 (AH Bl Qe T.n_len Bg (Ac (Aa 0 Hg) Af)) (Dw (Ac Ag (Ac Ag Af))) (by with_unfolding_all rfl)) (Dh (Cs (Dg (Bh dG AfB hr.d Bj (Ac (Aa 0 Hg) Af))))))) (Ap (AO Ci)) AQ)
    (Ai (AR (PW.pt (JM (AK (B4 hu) (AH Bl Qe T.n_len Bg (Ac (Aa 0 Hg) Af)) Ag (AN _)) (JL (AK (B4 hu) (As Aw (Aa 0 Hg) Ag (λ_ _=>rfl)) Ay (AN _))))) (Ap (AO Ci)) AQ)
    (Ap (AO (CF Ki AfA T.iY J8 (Ac (Aa 0 Hg) Af)))))),?_⟩
  try dsimp only [aE,aF]
  walk_at"";refine Sd (BB z rfl (by rw [R8];omega) ?_);walk_at"";refine ⟨AA,λt ht=>?_⟩;have p:=(Ae.refl H).upd (o:=.tup [.int 1,.int 2]) ht;have B:(upd H t (.tup [.int 1,.int 2])) t=some (.tup [.int 1,.int 2]):=Ah;generalize upd H t (.tup [.int 1,.int 2])=H1 at p B ⊢;refine R9 (DK t _ rfl (.inr (.of B)) rfl rfl ?_);have L:Ex (.int (z.length:Int)) [V.int 1,V.int 2]=decide (z.length=1\/z.length=2):=by
   have:=Aeu (z.length:Int) [1,2];rw [show ([1,2]:List Int).map V.int=[V.int 1,V.int 2] from rfl] at this;rw [this];by_cases c:z.length=1\/z.length=2
   .rw [decide_eq_true c];exact decide_eq_true (by simp;omega)
   .rw [decide_eq_false c];exact decide_eq_false (by simp;omega)
  rw [L];by_cases c:z.length=1\/z.length=2
  .rw [decide_eq_true c];walk_at"";refine ⟨ok.1,by omega,λb H2 hb D=>?_⟩;cases b with
   | false =>
    have g:A2 z=none:=by unfold A2;rw [if_neg (λh=>by have:=hb.mpr (Fq.mp h.2.1);cases this)]
    rw [g] at q;walk_at"";exact q _ (p.trans D)
   | true =>
    have O:=hb.mp rfl;obtain ⟨n,I,_⟩:=Ly c O;walk_at"";refine Sd (BB z rfl (by rw [R8];omega) ?_);walk_at"";by_cases J:z.length=2
    .rw [decide_eq_true (congrArg V.int (show (z.length:Int)=2 by omega))];walk_at"";obtain ⟨c',hc,ec⟩:=Qd J;refine R9 (R9 (BZ z 0 c' rfl rfl (by rw [R8];omega) ec ?_));walk_at"";by_cases Y:c'=48
     .subst Y;rw [decide_eq_true (show V.str ⟨#[48]⟩=V.str "0" by decide +kernel)];have g:A2 z=none:=by
       unfold A2;rw [if_neg (λh=>h.2.2 ⟨J,hc⟩)]
      rw [g] at q;walk_at"";exact q _ (p.trans D)
     .have cn:¬ (V.str ⟨#[c']⟩=V.str "0"):=λe=>by
       have B:(⟨#[c']⟩:Str)="0":=by injection e
       have e2:c'=48:=by have:=congrArg (λs:Str=>s.cps.toList) B;have e3:[c']=[48]:=this;exact (Vx e3).1
       exact Y e2
      rw [decide_eq_false cn];have g:A2 z=some n:=by unfold A2;rw [if_pos ⟨c,Fq.mpr O,λh=>Y (by rw [hc] at h;exact TU h.2)⟩];exact I
      rw [g] at q;walk_at"";refine R9 (R9 (Bw z n rfl I (by omega) ?_));exact q _ (p.trans D)
    .rw [decide_eq_false (show ¬ (V.int (z.length:Int)=V.int 2) from λe=>J (by have:=V.int.inj e;omega))];have g:A2 z=some n:=by
      unfold A2;rw [if_pos ⟨c,Fq.mpr O,λh=>J h.1⟩];exact I
     rw [g] at q;walk_at"";refine R9 (R9 (Bw z n rfl I (by omega) ?_));exact q _ (p.trans D)
  .rw [decide_eq_false c];have g:A2 z=none:=by
    unfold A2;rw [if_neg (λh=>c h.1)]
   rw [g] at q;walk_at"";exact q _ p
inductive A3 where
 | bf (n:Int) | bg (n:Int) | bx (z:Str) | cg (z:Str) (n:Int)
def BX:List Str->Option A3
 | [k,x]=>if k="long" then (A2 x).map A3.bf else if k="seekers" then (A2 x).map A3.bg else if k="line"/\x≠"" then some (.bx x) else none
 | [k,x,y]=>if k="group"/\x≠"" then (A2 y).map (A3.cg x) else none
 | _=>none
def CH (ws:List Str):Bool:=match ws with
 | []=>false
 | k :: _=>match Bk BG (.inr k) with
  | some (.int m)=>decide ((ws.length:Int)=m) && !decide ((Sa "")∈ws)
  | _=>false
theorem F3 (k:Str):Bk BG (.inr k)=if k="long" then some (.int 2) else if k="seekers" then some (.int 2) else if k="line" then some (.int 2) else if k="group" then some (.int 3) else none:=by
 unfold BG;by_cases d:k="long"
 .rw [if_pos d];exact Dl (by rw [d])
 rw [if_neg d,Cc (λc=>d (Ub c).symm)];by_cases g:k="seekers"
 .rw [if_pos g];exact Dl (by rw [g])
 rw [if_neg g,Cc (λc=>g (Ub c).symm)];by_cases p:k="line"
 .rw [if_pos p];exact Dl (by rw [p])
 rw [if_neg p,Cc (λc=>p (Ub c).symm)];by_cases B:k="group"
 .rw [if_pos B];exact Dl (by rw [B])
 rw [if_neg B,Cc (λc=>B (Ub c).symm)];rfl
theorem Jf:Sa "long"≠"seekers"/\Sa "long"≠"line"/\Sa "long"≠"group"/\Sa "seekers"≠"line"/\Sa "seekers"≠"group"/\Sa "line"≠"group"/\Sa "long"≠""/\Sa "seekers"≠""/\Sa "line"≠""/\Sa "group"≠"":=by decide +kernel
theorem Jg {ws:List Str}(h:CH ws=true):(∃ x,x≠Sa ""/\(ws=([("long":Str),x]:List Str)/\BX ws=(A2 x).map A3.bf\/ws=([("seekers":Str),x]:List Str)/\BX ws=(A2 x).map A3.bg\/ws=([("line":Str),x]:List Str)/\BX ws=some (.bx x)))\/∃ x y,x≠Sa ""/\y≠Sa ""/\ws=([("group":Str),x,y]:List Str)/\BX ws=(A2 y).map (A3.cg x):=by
 obtain ⟨I,J,L,O,V,Y,_⟩:=Jf;cases ws with
 | nil=>cases h
 | cons k r =>
  unfold CH at h;dsimp only at h;rw [F3] at h;have two:∀{H:Str},k=H->(decide (((k :: r).length:Int)=2) && !decide ((Sa "")∈k :: r))=true->∃ x,x≠Sa ""/\r=[x]:=λ{H} e h=>by
   rw [Ug,decide_eq_true_eq,Yo,decide_eq_false_iff_not] at h;obtain ⟨g,p⟩:=h;match r,g with
   | [x],_=>exact ⟨x,λc=>p (by rw [c];simp),rfl⟩
  by_cases g:k="long"
  .rw [if_pos g] at h;obtain ⟨x,d,rfl⟩:=two g h;subst g;exact .inl ⟨x,d,.inl ⟨rfl,by unfold BX;dsimp only;rw [if_pos rfl]⟩⟩
  rw [if_neg g] at h;by_cases p:k="seekers"
  .rw [if_pos p] at h;obtain ⟨x,d,rfl⟩:=two p h;subst p;exact .inl ⟨x,d,.inr (.inl ⟨rfl,by unfold BX;dsimp only;rw [if_neg g,if_pos rfl]⟩)⟩
  rw [if_neg p] at h;by_cases B:k="line"
  .rw [if_pos B] at h;obtain ⟨x,d,rfl⟩:=two B h;subst B;exact .inl ⟨x,d,.inr (.inr ⟨rfl,by unfold BX;dsimp only;rw [if_neg g,if_neg p,if_pos ⟨rfl,d⟩]⟩)⟩
  rw [if_neg B] at h;by_cases D:k="group"
  .rw [if_pos D] at h;dsimp only at h;rw [Ug,decide_eq_true_eq,Yo,decide_eq_false_iff_not] at h;obtain ⟨g1,g2⟩:=h;match r,g1 with
   | [x,y],_ =>
    subst D;have d:x≠Sa "":=λc=>g2 (by rw [c];simp);exact .inr ⟨x,y,d,λc=>g2 (by rw [c];simp),rfl,by unfold BX;dsimp only;rw [if_pos ⟨rfl,d⟩]⟩
  rw [if_neg D] at h;cases h
theorem Lz {ws:List Str}(h:CH ws=false):BX ws=none:=by
 have D:A2 (Sa "")=none:=by decide +kernel
 obtain ⟨n1,n2,L,n4,O,V,m1,m2,Y,m4⟩:=Jf;match ws with
 | []=>rfl
 | [_]=>rfl
 | _ :: _ :: _ :: _ :: _=>rfl
 | [k,x] =>
  unfold CH at h;dsimp only at h;rw [F3] at h;have d:∀{H:Str},k=H->H≠Sa ""->(decide ((([k,x]:List Str).length:Int)=2) && !decide ((Sa "")∈[k,x]))=false->x=Sa "":=λ{H} e e0 h=>by
   have h:(true && !decide ((Sa "")∈[k,x]))=false:=h;rw [Wb,sV,decide_eq_true_eq] at h;rcases Si.mp h with c | c
   .exact absurd (e.symm.trans c.symm) e0
   .exact (SA.mp c).symm
  show (if k="long" then (A2 x).map A3.bf else if k="seekers" then (A2 x).map A3.bg else if k="line"/\x≠"" then some (.bx x) else none)=none;by_cases p:k="long"
  .rw [if_pos p] at h;rw [if_pos p,d p m1 h,D];rfl
  rw [if_neg p] at h ⊢;by_cases B:k="seekers"
  .rw [if_pos B] at h;rw [if_pos B,d B m2 h,D];rfl
  rw [if_neg B] at h ⊢;by_cases I:k="line"
  .rw [if_pos I] at h;rw [if_neg (λc=>c.2 (d I Y h))]
  rw [if_neg (λc=>I c.1)]
 | [k,x,y] =>
  unfold CH at h;dsimp only at h;rw [F3] at h;show (if k="group"/\x≠"" then (A2 y).map (A3.cg x) else none)=none;by_cases c:k="group"/\x≠""
  .obtain ⟨g,J⟩:=c;rw [if_pos ⟨g,J⟩];rw [if_neg (λe=>L (e.symm.trans g)),if_neg (λe=>O (e.symm.trans g)),if_neg (λe=>V (e.symm.trans g)),if_pos g] at h;have h:(true && !decide ((Sa "")∈[k,x,y]))=false:=h;rw [Wb,sV,decide_eq_true_eq] at h;have ey:y=Sa "":=by
    rcases Si.mp h with c | c
    .exact absurd (g.symm.trans c.symm) m4
    .rcases Si.mp c with c | c
     .exact absurd c.symm J
     .exact (SA.mp c).symm
   rw [ey,D];rfl
  .rw [if_neg c]
def Qf (a:An):Sp:=λvs H Q E=>∃ z:Str,vs=[.str z]/\Ok z/\match A2 z with
 | some n=>∀ H',Ae H H'->Q (.int n) H'
 | none=>∀ H',Ae H H'->E (.ref a.ax) none H'
def Qg (a:An):Sp:=λvs H Q E=>∃(p:Addr)(k:Str)(ws:List Str),vs=[.ref p]/\H p=some (.lst ((k :: ws).map V.str))/\(∀ z∈k :: ws,Ok z)/\(CH (k :: ws)=true->Q .ae H)/\(CH (k :: ws)=false->∀ H',Ae H H'->E (.ref a.ax) none H')
def Qh (a:An):Sp:=λvs H Q E=>∃(p:Addr)(ws:List Str),vs=[.ref p]/\H p=some (.lst (ws.map V.str))/\(∀ z∈ws,Ok z)/\CH ws=true /\
 match BX ws with
 | some (.bf n)=>∀ H',Ae H H'->Q (.int n) H'
 | some (.bg n)=>∀ H',Ae H H'->Q (.int n) H'
 | some (.bx z)=>Q (.str z) H
 | some (.cg z n)=>∀ H' t,Ae H H'->H t=none->H' t=some (.tup [.str z,.int n])->Q (.ref t) H'
 | none=>∀ H',Ae H H'->E (.ref a.ax) none H'
theorem Qi:A8 ["word","number"] ["word"] (Ab (top 30)):=.of
theorem Qj:Nm (Ab (top 30)) "word":=.of
theorem LA:Nm (Ab (top 30)) "number":=.of
theorem AfD:Gm (Ab (top 30)) "NoText":=.of
theorem AfE:Gm (Ab (top 30)) "short_number":=.of
theorem AfF (F:AW K "read_number" "read_number" (top 30) f fd)(T:TxtR P w K mg a)(I:Bf P w K mg base AI 2 "short_number" ["word"] Je):AE P w K mg base (Bd P w) 3 f fd ["word"] (Qf a):=by
 refine F.cw Qi λL A outer s H vs Q E p h=>?_
 .obtain ⟨z,rfl,ok,q⟩:=h;have hu:=p.units;have J:=Qi.nd;refine ⟨_,(@Ai _ _ _ _ _ (AG 1 J LA (Bh I AfE p.d Bj (Ac (Aa 0 Qj) Af)))
    (Ai (AR (AK Gv (Aa 1 LA) Ci (AN _)) (Ap (CG CD AfD rfl T.ik T.dM (Ac (Ff (BJ (Fd (Aa 0 Qj)) (BJ Ay Fe))) Af))) AQ)
    (Ap (AO (Aa 1 LA))))),?_⟩
  try dsimp only [aE,aF]
  walk_at"";refine ⟨ok,λO B=>?_⟩;cases e:A2 z with
  | some n =>
   rw [e] at q;walk_at"";exact q _ B
  | none =>
   rw [e] at q;have g:Sz.length=0:=rfl;have D:(Sa " is no number of one or two figures").length=35:=by decide +kernel
   have V:=Iz ok;have Y:=ok.2;walk_at"";refine ⟨(by rw [R8];omega),?_⟩;walk_at"";refine ⟨(by simp only [AV,g,R8];omega),?_⟩;walk_at"";refine ⟨(by simp only [AV,g,D,R8];omega),?_⟩;walk_at"";refine ⟨(by simp only [AV,g,D,R8];omega),?_⟩;exact ⟨AA,q _ B⟩
theorem Qk:A8 ["words","kind"] ["words"] (Ab (top 28)):=.of
theorem LB:Nm (Ab (top 28)) "words":=.of
theorem F4:Nm (Ab (top 28)) "kind":=.of
theorem AfG:Gm (Ab (top 28)) "len":=.of
theorem LC:Gm (Ab (top 28)) "WORDS":=.of
theorem Ql:Gm (Ab (top 28)) "NoText":=.of
theorem AfH (F:AW K "check_row" "check_row" (top 28) f fd)(T:TxtR P w K mg a):AE P w K mg base (Bd P w) 1 f fd ["words"] (Qg a):=by
 refine F.cw Qk λaf A outer s H vs Q E hr h=>?_
 .obtain ⟨p,k,ws,rfl,hp,ok,q1,J⟩:=h;have hu:=hr.units;have nd:=Qk.nd;have kk:=ok k SS;refine ⟨_,(@Ai _ _ _ _ _ (AG 1 nd F4 (As Aw (Aa 0 LB) Ag (λ_ _=>rfl)))
    (Ai (AR (AK (KL (P:=P) (w:=w) (K:=K)) (Aa 1 F4) (BK (v:=.ref a.bU) LC T.fA rfl) (by with_unfolding_all rfl)) (Ap (CG CD Ql rfl T.ik T.dM (Ac (Ff (BJ Ay (BJ (Fd (Aa 1 F4)) Fe))) Af))) AQ)
    (Ap (AR (PW.pt (Cz (AK (Ca hu) (AH Bl AfG T.n_len Bg (Ac (Aa 0 LB) Af)) (Ck P w K (BK (v:=.ref a.bU) LC T.fA rfl) (Aa 1 F4)) (AN _)) (Dh (AK HQ Ay (Aa 0 LB) (by with_unfolding_all rfl))))) (Ap (CG CD Ql rfl T.ik T.dM (Ac (Ff (BJ Ay (BJ (Fd (Aa 1 F4)) (BJ Ay (BJ (HY (Ck P w K (BK (v:=.ref a.bU) LC T.fA rfl) (Aa 1 F4))) (BJ Ay Fe)))))) Af))) AQ)))),?_⟩
  try dsimp only [aE,aF]
  walk_at"";have d:BI ((k :: ws).map V.str) 0=some (.str k):=Gy (j:=0) rfl;refine Sd (BF (.of hp) d ?_);walk_at"";refine E8 a.bU BG (.inr k) rfl rfl (.inr T.kd) ?_;have fV:=Iz kk;obtain ⟨m,g⟩ | hn:(∃ m:Int,Bk BG (.inr k)=some (.int m)/\0<=m/\m<=3)\/Bk BG (.inr k)=none:=by
   rw [F3];by_cases L:k="long"
   .rw [if_pos L];exact .inl ⟨2,rfl,by decide,by decide⟩
   rw [if_neg L];by_cases O:k="seekers"
   .rw [if_pos O];exact .inl ⟨2,rfl,by decide,by decide⟩
   rw [if_neg O];by_cases Y:k="line"
   .rw [if_pos Y];exact .inl ⟨2,rfl,by decide,by decide⟩
   rw [if_neg Y];by_cases h4:k="group"
   .rw [if_pos h4];exact .inl ⟨3,rfl,by decide,by decide⟩
   rw [if_neg h4];exact .inr rfl
  .obtain ⟨g,m0,m3⟩:=g;rw [g];have d:Sz.length=0:=rfl;have D:(Sa "a row ").length=6:=by decide +kernel
   have e2:(Sa " has ").length=5:=by decide +kernel
   have e3:(Sa " words with one blank between each two").length=38:=by decide +kernel
   walk_at"";refine R9 (AX _ _ rfl (.inl (.of hp)) ?_);walk_at"";refine Bx a.bU BG (.inr k) _ rfl rfl (.inr T.kd) g ?_;walk_at"";have B:CH (k :: ws)=(decide (((k :: ws).length:Int)=m) && !decide ((Sa "")∈k :: ws)):=by unfold CH;dsimp only;rw [g]
   rw [R5];by_cases I:((k :: ws).length:Int)=m
   .rw [decide_eq_true (congrArg V.int I)];rw [decide_eq_true I,Wb] at B;refine Bv ?_;walk_at"";refine R9 (DK p _ rfl (.inl (.of hp)) rfl (G9 _) ?_);rw [IZ];by_cases c2:(Sa "")∈k :: ws
    .rw [decide_eq_true c2] at B ⊢;iterate 20 (first
      | (refine ⟨(by first | (simp only [AV,d,D,e2,e3,R8];omega) | (rw [R8];omega)),?_⟩)
      | (refine Bx a.bU BG (.inr k) _ rfl rfl (.inr T.kd) g ?_)
      | (refine Sd (DJ _ rfl ⟨m0,by omega,λu gZ=>?_⟩))
      | walk_at"")
     exact ⟨AA,J B _ (.refl H)⟩
    .rw [decide_eq_false c2] at B ⊢;walk_at"";exact q1 B
   .rw [decide_eq_false (λe=>I (V.int.inj e))];rw [decide_eq_false I,Wz] at B;refine Bt ?_;refine Bt ?_;iterate 20 (first
     | (refine ⟨(by first | (simp only [AV,d,D,e2,e3,R8];omega) | (rw [R8];omega)),?_⟩)
     | (refine Bx a.bU BG (.inr k) _ rfl rfl (.inr T.kd) g ?_)
     | (refine Sd (DJ _ rfl ⟨m0,by omega,λu gZ=>?_⟩))
     | walk_at"")
    exact ⟨AA,J B _ (.refl H)⟩
  .rw [hn];have d:Sz.length=0:=rfl;have D:(Sa "no row begins with ").length=19:=by decide +kernel
   have cf:CH (k :: ws)=false:=by unfold CH;dsimp only;rw [hn]
   walk_at"";refine ⟨(by simp only [AV,d,D,R8];omega),?_⟩;walk_at"";refine ⟨(by rw [R8];omega),?_⟩;walk_at"";refine ⟨(by simp only [AV,d,D,R8];omega),?_⟩;walk_at"";refine ⟨(by simp only [AV,d,D,R8];omega),?_⟩;exact ⟨AA,J cf _ (.refl H)⟩
theorem Qm:A8 ["words"] ["words"] (Ab (top 29)):=.of
theorem F5:Nm (Ab (top 29)) "words":=.of
theorem Qn:Gm (Ab (top 29)) "read_number":=.of
theorem AfI (F:AW K "read_row" "read_row" (top 29) f fd)(T:TxtR P w K mg a)(D:Bf P w K mg base (Bd P w) 3 "read_number" ["word"] (Qf a)):AE P w K mg base (Bd P w) 4 f fd ["words"] (Qh a):=by
 refine F.cw Qm λV A outer s H vs Q E B h=>?_
 .obtain ⟨p,ws,rfl,hp,ok,L,q⟩:=h;have hu:=B.units;have Y:=Qm.nd;obtain ⟨n1,n2,n3,n4,n5,n6,_⟩:=Jf;refine ⟨_,(@Ai _ _ _ _ _ (AR (AK (B4 hu) (As Aw (Aa 0 F5) Ag (λ_ _=>rfl)) Ay (AN _)) (Ap (AO (As Aw (Aa 0 F5) Ag (λ_ _=>rfl)))) AQ)
    (Ai (AR (AK (B4 hu) (As Aw (Aa 0 F5) Ag (λ_ _=>rfl)) Ay (AN _)) (Ap (AO (Dw (Ac (As Aw (Aa 0 F5) Ag (λ_ _=>rfl)) (Ac (Bh D Qn B.d C8 (Ac (As Aw (Aa 0 F5) Ag (λ_ _=>rfl)) Af)) Af))))) AQ)
    (Ap (AO (Bh D Qn B.d C8 (Ac (As Aw (Aa 0 F5) Ag (λ_ _=>rfl)) Af)))))),?_⟩
  try dsimp only [aE,aF]
  walk_at"";rcases Jg L with ⟨x,O,⟨rfl,g⟩ | ⟨rfl,g⟩ | ⟨rfl,g⟩⟩ | ⟨x,y,O,y0,rfl,g⟩
  .rw [g] at q;walk_at"";refine ⟨ok x (by simp),?_⟩;cases hx:A2 x with
   | none=>rw [hx] at q;exact q
   | some n=>rw [hx] at q;exact q
  .rw [g] at q;walk_at"";refine ⟨ok x (by simp),?_⟩;cases hx:A2 x with
   | none=>rw [hx] at q;exact q
   | some n=>rw [hx] at q;exact q
  .rw [g] at q;walk_at"";exact q
  .rw [g] at q;walk_at"";refine ⟨ok y (by simp),?_⟩;cases hx:A2 y with
   | none=>rw [hx] at q;exact q
   | some n =>
    rw [hx] at q;intro H1 I;walk_at"";refine ⟨AA,λt J=>?_⟩;exact q _ t (I.upd J) (I.free J) Ah
def CU:Str:=⟨#[10]⟩
def Ce:Str:=⟨#[32]⟩
theorem Jh {sep p q:Str}{r:List Str}:S9 sep (p :: q :: r)=p++sep++S9 sep (q :: r):=rfl
theorem Qo {sep p:Str}:∀{ps:List Str},p∈ps->(∀ c∈p.cps.toList,c∈(S9 sep ps).cps.toList)/\p.length<=(S9 sep ps).length
 | [q],m=>by rw [SA.mp m];exact ⟨λc h=>h,Sh _⟩
 | q :: q' :: r,m=>by
  rw [Jh,AV,AV];rcases Si.mp m with rfl | m
  .refine ⟨λc h=>?_,by omega⟩;rw [Dc,Dc];exact V5 _ (V5 _ h)
  .obtain ⟨d,g⟩:=Qo (sep:=sep) (ps:=q' :: r) m;refine ⟨λc h=>?_,by omega⟩;rw [Dc];exact S6 _ (d c h)
theorem LD {x sep p:Str}(m:p∈Txt.split x sep):(∀ c∈p.cps.toList,c∈x.cps.toList)/\p.length<=x.length:=by have:=Qo (sep:=sep) m;rw [YX] at this;exact this
theorem F6 {x sep p:Str}(h:Ok x)(m:p∈Txt.split x sep):Ok p:=⟨λc hc=>h.1 c ((LD m).1 c hc),Sy (LD m).2 h.2⟩
theorem Ji (x sep:Str):∃ k r,Txt.split x sep=k :: r:=by
 have:=PyProof.Rows.split_pos x sep;cases h:Txt.split x sep with
 | nil=>rw [h] at this;simp at this
 | cons k r=>exact ⟨k,r,rfl⟩
def Cm (rs:List A3):List Int:=rs.filterMap fun | .bf n=>some n | _=>none
def Cn (rs:List A3):List Int:=rs.filterMap fun | .bg n=>some n | _=>none
def CV (rs:List A3):List Str:=rs.filterMap fun | .bx z=>some z | _=>none
def C3 (rs:List A3):List (Str×Int):=rs.filterMap fun | .cg z n=>some (z,n) | _=>none
def B6:List (List Str)->Option (List A3)
 | []=>some []
 | w :: r=>match BX w with
  | none=>none
  | some x=>(B6 r).map (x :: ·)
theorem LF {w:List Str}(h:BX w=none):∀{ws:List (List Str)},w∈ws->B6 ws=none
 | u :: r,m=>by
  unfold B6;rcases Si.mp m with rfl | m
  .rw [h]
  .rw [LF h m];cases BX u<;>rfl
theorem Eg {w:List Str}{x:A3}(h:BX w=some x):∀{ws:List (List Str)}{d:List A3},B6 ws=some d->B6 (ws++[w])=some (d++[x])
 | [],_,e=>by
  cases e;show (match BX w with | none=>none | some x=>(B6 []).map (x :: ·))=_;rw [h];rfl
 | u :: r,d,e=>by
  show (match BX u with | none=>none | some x=>(B6 (r++[w])).map (x :: ·))=_;unfold B6 at e;cases hu:BX u with
  | none=>rw [hu] at e;cases e
  | some y =>
   rw [hu] at e;cases hr:B6 r with
   | none=>rw [hr] at e;cases e
   | some g =>
    rw [hr] at e;cases e;dsimp only;rw [Eg h hr];rfl
def Dr (t:Str):List (List Str):=(Txt.split t CU).map λr=>Txt.split r Ce
abbrev Qp:=Int×List Str×Int×List (Str×Int)
def Cw (t:Str):Option Qp:=match B6 (Dr t) with
 | none=>none
 | some rs=>match Cm rs,Cn rs with
  | [l],[k]=>some (l,CV rs,k,C3 rs)
  | _,_=>none
theorem Qq {t:Str}(h:B6 (Dr t)=none):Cw t=none:=by unfold Cw;rw [h]
theorem Jj {t:Str}{d:List A3}(h:B6 (Dr t)=some d)(n:(Cm d).length≠1\/(Cn d).length≠1):Cw t=none:=by
 unfold Cw;rw [h];dsimp only;split
 .rename_i h1 h2
  rw [h1,h2] at n;exact absurd n (by simp)
 .rfl
theorem Qs {t:Str}{d:List A3}{l k:Int}(h:B6 (Dr t)=some d)(g:Cm d=[l])(p:Cn d=[k]):Cw t=some (l,CV d,k,C3 d):=by unfold Cw;rw [h];dsimp only;rw [g,p]
structure F7 (t:Str):Prop where
 ok:Ok t
 aD:(Txt.split t CU).length<=1900
def Co (long ag:Int)(zs:List Str)(gz:List (Str×Int)):Prop:=(2<=long/\long<=4/\1<=ag/\ag<=60)/\Iy long zs/\gz.length<=40/\(∀ t∈gz,(1<=(t.1.length:Int)/\(t.1.length:Int)<=long - 2)/\Bs t.1/\0<=t.2/\t.2<=10)/\(gz.map (·.1)).Nodup
theorem Co.iff {long d:Int}{zs:List Str}{ts:List Pr}:Co long d zs (ts.map (·.2))↔DR long d zs ts:=by unfold Co DR;rw [R5,Tt];refine and_congr WV (and_congr WV (and_congr WV (and_congr ?_ WV)));exact ⟨λh t m=>h t.2 (Sx.mpr ⟨t,m,rfl⟩),λh t m=>by obtain ⟨u,g,rfl⟩:=Sx.mp m;exact h u g⟩
def BD (a1 a2 a3 a4:Addr):List (Aq×V):=[(.inr "long",.ref a1),(.inr "seekers",.ref a2),(.inr "line",.ref a3),(.inr "group",.ref a4)]
structure Bu (H0 H:Hp)(D a1 a2 a3 a4:Addr)(ls ss:List Int)(zs:List Str)(ts:List Pr):Prop where
 d:H D=some (.dK (BD a1 a2 a3 a4))
 h1:H a1=some (.lst (ls.map V.int))
 h2:H a2=some (.lst (ss.map V.int))
 h3:H a3=some (.lst (zs.map V.str))
 h4:H a4=some (.lst (ts.map AD))
 lay:BR H ts
 nd:[a1,a2,a3,a4].Nodup
 f:H0 a1=none/\H0 a2=none/\H0 a3=none/\H0 a4=none
 s:Ae H0 H
section
variable {H0 H H':Hp}{D a1 a2 a3 a4:Addr}{ls ss:List Int}{zs:List Str}{ts:List Pr}
theorem Bu.same (t:Bu H0 H D a1 a2 a3 a4 ls ss zs ts)(s:Ae H H'):Bu H0 H' D a1 a2 a3 a4 ls ss zs ts :=
 ⟨s _ _ t.d,s _ _ t.h1,s _ _ t.h2,s _ _ t.h3,s _ _ t.h4,t.lay.same s,t.nd,t.f,t.s.trans s⟩
theorem Bu.ne (t:Bu H0 H D a1 a2 a3 a4 ls ss zs ts):(a1≠a2/\a1≠a3/\a1≠a4)/\(a2≠a3/\a2≠a4)/\a3≠a4:=by have:=t.nd;simpa [Te] using this
theorem Bu.eZ (t:Bu H0 H D a1 a2 a3 a4 ls ss zs ts){b:Addr}{xs:List V}{o:HO}(hb:H b=some (.lst xs)):(∀ {c kvs},H c=some (.dK kvs)->(upd H b o) c=some (.dK kvs))/\∀ {c ys},H c=some (.tup ys)->(upd H b o) c=some (.tup ys) :=
 ⟨λe=>by rw [Ak (Hu e hb (by intro z;cases z))];exact e,λe=>by rw [Ak (Hu e hb (by intro z;cases z))];exact e⟩
theorem Bu.ql (t:Bu H0 H D a1 a2 a3 a4 ls ss zs ts)(n:Int):Bu H0 (upd H a1 (.lst (ls.map V.int++[.int n]))) D a1 a2 a3 a4 (ls++[n]) ss zs ts:=by obtain ⟨⟨g,p,B⟩,⟨L,O⟩,Y⟩:=t.ne;obtain ⟨I,J⟩:=t.eZ (o:=.lst (ls.map V.int++[.int n])) t.h1;exact ⟨I t.d,by rw [Ah,Su];rfl,by rw [Ak g.symm];exact t.h2,by rw [Ak p.symm];exact t.h3,by rw [Ak B.symm];exact t.h4,λx m=>J (t.lay x m),t.nd,t.f,λb o e=>by rw [Ak (Be e t.f.1)];exact t.s _ _ e⟩
theorem Bu.put2 (t:Bu H0 H D a1 a2 a3 a4 ls ss zs ts)(n:Int):Bu H0 (upd H a2 (.lst (ss.map V.int++[.int n]))) D a1 a2 a3 a4 ls (ss++[n]) zs ts:=by obtain ⟨⟨g,L,O⟩,⟨p,B⟩,Y⟩:=t.ne;obtain ⟨I,J⟩:=t.eZ (o:=.lst (ss.map V.int++[.int n])) t.h2;exact ⟨I t.d,by rw [Ak g];exact t.h1,by rw [Ah,Su];rfl,by rw [Ak p.symm];exact t.h3,by rw [Ak B.symm];exact t.h4,λx m=>J (t.lay x m),t.nd,t.f,λb o e=>by rw [Ak (Be e t.f.2.1)];exact t.s _ _ e⟩
theorem Bu.put3 (t:Bu H0 H D a1 a2 a3 a4 ls ss zs ts)(z:Str):Bu H0 (upd H a3 (.lst (zs.map V.str++[.str z]))) D a1 a2 a3 a4 ls ss (zs++[z]) ts:=by obtain ⟨⟨L,g,O⟩,⟨p,Y⟩,B⟩:=t.ne;obtain ⟨I,J⟩:=t.eZ (o:=.lst (zs.map V.str++[.str z])) t.h3;exact ⟨I t.d,by rw [Ak g];exact t.h1,by rw [Ak p];exact t.h2,by rw [Ah,Su];rfl,by rw [Ak B.symm];exact t.h4,λx m=>J (t.lay x m),t.nd,t.f,λb o e=>by rw [Ak (Be e t.f.2.2.1)];exact t.s _ _ e⟩
theorem Bu.qm (t:Bu H0 H D a1 a2 a3 a4 ls ss zs ts)(x:Pr)(hx:H x.1=some (.tup [.str x.2.1,.int x.2.2])):Bu H0 (upd H a4 (.lst (ts.map AD++[.ref x.1]))) D a1 a2 a3 a4 ls ss zs (ts++[x]):=by
 obtain ⟨⟨L,O,p⟩,⟨V,B⟩,I⟩:=t.ne;obtain ⟨J,g⟩:=t.eZ (o:=.lst (ts.map AD++[.ref x.1])) t.h4;refine ⟨J t.d,by rw [Ak p];exact t.h1,by rw [Ak B];exact t.h2,by rw [Ak I];exact t.h3,by rw [Ah,Su];rfl,λy m=>?_,t.nd,t.f,λb o e=>by rw [Ak (Be e t.f.2.2.2)];exact t.s _ _ e⟩;rcases SG.mp m with m | m
 .exact g (t.lay y m)
 .rw [SA.mp m];exact g hx
end
theorem Ft (d g p B:Addr):Bk (BD d g p B) (.inr "long")=some (.ref d):=by unfold BD;rw [Dl rfl]
theorem Fu (g d p B:Addr):Bk (BD g d p B) (.inr "seekers")=some (.ref d):=by unfold BD;rw [Cc (show ¬ ((SM (Sa "long"):Aq)=SM (Sa "seekers")) by decide +kernel),Dl rfl]
theorem Hh (g p d B:Addr):Bk (BD g p d B) (.inr "line")=some (.ref d):=by unfold BD;rw [Cc (show ¬ ((SM (Sa "long"):Aq)=SM (Sa "line")) by decide +kernel),Cc (show ¬ ((SM (Sa "seekers"):Aq)=SM (Sa "line")) by decide +kernel),Dl rfl]
theorem Hi (g p B d:Addr):Bk (BD g p B d) (.inr "group")=some (.ref d):=by unfold BD;rw [Cc (show ¬ ((SM (Sa "long"):Aq)=SM (Sa "group")) by decide +kernel),Cc (show ¬ ((SM (Sa "seekers"):Aq)=SM (Sa "group")) by decide +kernel),Cc (show ¬ ((SM (Sa "line"):Aq)=SM (Sa "group")) by decide +kernel),Dl rfl]
theorem AfJ:(BG.map (·.1)).Nodup:=by decide +kernel
structure LG (K:R0)(H:Hp)(C p:Addr)(long ag:Int)(zs:List Str)(gz:List (Str×Int)):Prop where
 ins:∃ dx lt gt ts,H p=some (.ins C dx (DB long lt ag gt))/\H lt=some (.tup (zs.map V.str))/\H gt=some (.tup (ts.map AD))/\BR H ts/\ts.map (·.2)=gz
 pc:G5 K C
def LH (K:R0)(a:An):Sp:=λvs H Q E=>∃ t:Str,vs=[.str t]/\F7 t /\
 match Cw t with
 | none=>∀ H',Ae H H'->E (.ref a.ax) none H'
 | some (long,zs,sk,gz)=>(Co long sk zs gz->∀(H':Hp)(p:Addr)(zs':List Str)(gz':List (Str×Int)),Ae H H'->H p=none->LG K H' a.Plan p long sk zs' gz'->zs'.Perm zs->zs'.Pairwise BQ->gz'.Perm gz->gz'.Pairwise (λx y=>BQ x.1 y.1)->Q (.ref p) H')/\(¬ Co long sk zs gz->∀ H',Ae H H'->E (.ref a.av) none H')
theorem Qt {ws:List Str}{r:A3}(e:BX ws=some r):match r with
 | .bf _=>True
 | .bg _=>True
 | .bx z=>z∈ws
 | .cg z n=>z∈ws/\Cd n:=by
 cases c:CH ws with
 | false=>rw [Lz c] at e;cases e
 | true =>
  rcases Jg c with ⟨x,g,⟨rfl,d⟩ | ⟨rfl,d⟩ | ⟨rfl,d⟩⟩ | ⟨x,y,g,p,rfl,d⟩;all_goals rw [d] at e
  .obtain ⟨n,_,rfl⟩:=UE.mp e;trivial
  .obtain ⟨n,_,rfl⟩:=UE.mp e;trivial
  .cases e;exact (by simp)
  .obtain ⟨n,hn,rfl⟩:=UE.mp e;exact ⟨by simp,(Afy hn).1⟩
theorem LJ {r:A3}:∀{ws:List (List Str)}{d:List A3},B6 ws=some d->r∈d->∃ w∈ws,BX w=some r
 | [],_,e,m=>by cases e;cases m
 | u :: l,d,e,m=>by
  unfold B6 at e;cases hu:BX u with
  | none=>rw [hu] at e;cases e
  | some y =>
   rw [hu] at e;obtain ⟨B,g,rfl⟩:=UE.mp (show (B6 l).map (y :: ·)=some d from e);rcases Si.mp m with rfl | m
   .exact ⟨u,SS,hu⟩
   .obtain ⟨w,p,hw⟩:=LJ g m;exact ⟨w,SI _ p,hw⟩
section
variable {rows:List Str}{text:Str}{rs:List A3}
theorem Qu (ok:∀ r∈rows,Ok r)(e:Dr text=rows.map λr=>Txt.split r Ce)(h:B6 (Dr text)=some rs){z:Str}(m:z∈CV rs):Ok z:=by
 obtain ⟨r,mr,g⟩:=WB.mp m;obtain ⟨w,p,hw⟩:=LJ h mr;rw [e] at p;obtain ⟨d,B,rfl⟩:=Sx.mp p;have:=Qt hw;cases r with
 | bx y=>cases g;exact F6 (ok d B) this
 | _=>cases g
theorem Qw (ok:∀ r∈rows,Ok r)(e:Dr text=rows.map λr=>Txt.split r Ce)(h:B6 (Dr text)=some rs){t:Str×Int}(m:t∈C3 rs):Ok t.1:=by
 obtain ⟨r,mr,g⟩:=WB.mp m;obtain ⟨w,p,hw⟩:=LJ h mr;rw [e] at p;obtain ⟨d,B,rfl⟩:=Sx.mp p;have:=Qt hw;cases r with
 | cg y n=>cases g;exact F6 (ok d B) this.1
 | _=>cases g
end
section
variable {rs:List A3}{r:A3}
theorem EG:Cm (rs++[r])=Cm rs++Cm [r]:=XQ
theorem EH:Cn (rs++[r])=Cn rs++Cn [r]:=XQ
theorem EI:CV (rs++[r])=CV rs++CV [r]:=XQ
theorem EJ:C3 (rs++[r])=C3 rs++C3 [r]:=XQ
end
theorem Qx:A8 ["text","told","row","words"] ["text"] (Ab (top 27)):=.of
theorem AfK:Nm (Ab (top 27)) "text":=.of
theorem EK:Nm (Ab (top 27)) "told":=.of
theorem Qy:Nm (Ab (top 27)) "row":=.of
theorem Jk:Nm (Ab (top 27)) "words":=.of
theorem AfL:Gm (Ab (top 27)) "Plan":=.of
theorem Qz:Gm (Ab (top 27)) "len":=.of
theorem AfM:Gm (Ab (top 27)) "NoText":=.of
theorem AfN:Gm (Ab (top 27)) "read_row":=.of
theorem AfO:Gm (Ab (top 27)) "check_row":=.of
theorem AfP:Gm (Ab (top 27)) "WORDS":=.of
def QA:Scope:={ kind:=.function,names:=[(".0",.local),("kind",.local)],isGenerator:=false,isCoroutine:=false,more:=[] }
theorem QB:A1 QA (Ab (top 27)) ["kind"] ["text","told","row","words"] [none]:=A1.mk' rfl (by decide +kernel) (by decide +kernel) (by decide +kernel) (by decide +kernel) rfl (by decide +kernel)
theorem QC:Nm QA "kind":=.of
set_option maxHeartbeats 8000000
theorem AfQ (F:AW K "read_plan" "read_plan" (top 27) f fd)(T:TxtR P w K mg a)(pc:G5 K a.Plan)(lD:Bf P w K mg base (Bd P w) 1 "check_row" ["words"] (Qg a))(lE:Bf P w K mg base (Bd P w) 4 "read_row" ["words"] (Qh a))(lF:Dk P w K mg base (Bd P w) 3 a.Plan "Plan" ["self","long","lines","seekers","groups"] (Lb a K)):AE P w K mg base (Bd P w) 5 f fd ["text"] (LH K a):=by
 refine F.cw Qx λaf A outer s H vs Q E hr h=>?_
 .obtain ⟨text,rfl,tok,q⟩:=h;have hu:=hr.units;have nd:=Qx.nd;have tl:=tok.ok.2;have aD:=tok.aD;refine ⟨_,(@Ai _ _ _ _ _ (AdG (j:=1) rfl nd rfl (Sd EK.loc) QB (AdL (P:=P) (w:=w) (K:=K) (BK (v:=.ref a.bU) AfP T.fA rfl)) (λcl C fp pins s₂ H₂=>(A9 0 QB.nd QC.comp)) (λcl C fp pins s₂ H₂=>D9) (λcl C fp pins s₂ H₂=>(Aa 0 QC.comp)) (λcl C fp pins s₂ H₂=>(A7 Af)) (by rfl) (by intro _;rfl) (Sd rfl))
    (Ai (C6 XM rfl (C5 (B2 Uh Wl Wm FX (Aa 0 AfK) (Ac Ay Af))) (A9 2 nd Qy) (Ai (AG 3 nd Jk (B2 Uh Wl Wm FX (Aa 2 Qy) (Ac Ay Af)))
     (Ai (CK (Bh lD AfO hr.d C8 (Ac (Aa 3 Jk) Af)))
     (Ap (CK (B2 Vy V1 V2 Ey (Ck P w K (Aa 1 EK) (As Aw (Aa 3 Jk) Ag (λ_ _=>rfl))) (Ac (Bh lE AfN hr.d C8 (Ac (Aa 3 Jk) Af)) Af)))))))
    (Ai (AR (PW.pt (Cz (AK (Ca hu) (AH Bl Qz T.n_len Bg (Ac (Ck P w K (Aa 1 EK) Ay) Af)) Ag (AN _)) (Dh (AK (Ca hu) (AH Bl Qz T.n_len Bg (Ac (Ck P w K (Aa 1 EK) Ay) Af)) Ag (AN _))))) (Ap (CG CD AfM rfl T.ik T.dM (Ac Ay Af))) AQ)
    (Ap (AO (Fi lF AfL hr.d C8 (Ac (As Aw (Ck P w K (Aa 1 EK) Ay) Ag (λ_ _=>rfl)) (Ac (Ck P w K (Aa 1 EK) Ay) (Ac (As Aw (Ck P w K (Aa 1 EK) Ay) Ag (λ_ _=>rfl)) (Ac (Ck P w K (Aa 1 EK) Ay) Af)))))))))),?_⟩
  try dsimp only [aE,aF]
  walk_at"";refine AX a.bU BG rfl T.kd (λD nD=>?_);refine AdM (kvs:=BG) (λi σ H'=>∃(x:Option V)(as:List Addr),σ=[x]/\Ae H H'/\as.length=i/\as.Nodup/\(∀ b∈as,H' b=some (.lst [])/\H b=none/\b≠D)/\H' D=some (.dK (((BG.map (·.1)).take i).zip (as.map V.ref)))) ⟨none,[],rfl,(Ae.refl H).upd nD,rfl,UY,λb m=>absurd m (by simp),Ah⟩ ?_ ?_
  .intro i p σ H' hp zq;obtain ⟨x,as,rfl,sm,al,an,ah,hD⟩:=zq;walk_at"";refine ⟨AA,λb nb=>?_⟩;have bD:b≠D:=λz=>by rw [z,hD] at nb;cases nb
   have hk:(BG.map (·.1))[i]?=some p.1:=by rw [SK,hp];rfl
   have il:i<4:=(TL.mp hp).1;have et:(BG.map (·.1)).take (i+1)=(BG.map (·.1)).take i++[p.1]:=by rw [T9,hk];rfl
   have lt:((BG.map (·.1)).take i).length=(as.map V.ref).length:=by rw [SU,R5,R5,al];show min i 4=i;omega
   have lG:((BG.map (·.1)).take i++[p.1]).Nodup:=by rw [<- et];exact AfJ.sublist (Xg _ _)
   have vn:Bk (((BG.map (·.1)).take i).zip (as.map V.ref)) p.1=none:=by
    cases h:Bk (((BG.map (·.1)).take i).zip (as.map V.ref)) p.1 with
    | none=>rfl
    | some v =>
     have m:=AcS h;rw [List.map_fst_zip (by omega)] at m;exact absurd rfl ((VU.mp lG).2.2 p.1 m p.1 (by simp))
   refine ⟨_,p.1,rfl,(by rw [Ak bD.symm];exact hD),(by rw [List.length_zip,<- lt,SU,R8];omega),_,as++[b],rfl,(sm.upd nb).bN nD,(by rw [SF,al];rfl),?_,?_,?_⟩
   .refine VU.mpr ⟨an,Te.mpr ⟨by simp,UY⟩,λx hx y hy z=>?_⟩;rw [SA.mp hy] at z;have:=(ah x hx).1;rw [z,nb] at this;cases this
   .intro c hc;rcases SG.mp hc with m | m
    .obtain ⟨c1,c2,c3⟩:=ah c m;exact ⟨by rw [Ak c3,Ak (Be c1 nb)];exact c1,c2,c3⟩
    .rw [SA.mp m];exact ⟨by rw [Ak bD,Ah],sm.free nb,bD⟩
   .rw [Ah,Ib _ vn,et,Su,List.zip_append lt];rfl
  .intro σ H' zq;obtain ⟨x,as,rfl,sm,al,an,ah,hD⟩:=zq;obtain ⟨a1,a2,a3,a4,rfl⟩:∃ a1 a2 a3 a4,as=[a1,a2,a3,a4]:=by
    match as,al with
    | [a1,a2,a3,a4],_=>exact ⟨a1,a2,a3,a4,rfl⟩
   have bW:Bu H H' D a1 a2 a3 a4 [] [] [] []:=⟨hD,(ah a1 (by simp)).1,(ah a2 (by simp)).1,(ah a3 (by simp)).1,(ah a4 (by simp)).1,λt m=>absurd m (by simp),an,⟨(ah a1 (by simp)).2.1,(ah a2 (by simp)).2.1,(ah a3 (by simp)).2.1,(ah a4 (by simp)).2.1⟩,sm⟩;clear ah an hD
   walk_at"";refine ⟨by omega,λL nL=>?_⟩;have J:Txt.split text (Sa "\n")=Txt.split text CU:=rfl;rw [J];generalize ip:Txt.split text CU=rows at aD;have fD:∀ r∈rows,Ok r:=λr m=>F6 tok.ok (sep:=CU) (by rw [ip];exact m);have dO:Dr text=rows.map λr=>Txt.split r Ce:=by unfold Dr;rw [ip]
   have dP:L≠a1/\L≠a2/\L≠a3/\L≠a4:=⟨(Be bW.h1 nL).symm,(Be bW.h2 nL).symm,(Be bW.h3 nL).symm,(Be bW.h4 nL).symm⟩;have t1:=bW.same ((Ae.refl H').upd (o:=.lst (rows.map V.str)) nL);have hL:(upd H' L (.lst (rows.map V.str))) L=some (.lst (rows.map V.str)):=Ah;generalize upd H' L (.lst (rows.map V.str))=H1 at t1 hL ⊢;clear bW
   refine DJ L rfl ⟨⟨_,.of hL⟩,FG (K:=K) (a:=L) (xs:=rows.map V.str) (λi σ H2=>∃ x2 x3 ts B,σ=[some (.str text),some (.ref D),x2,x3]/\B6 ((rows.take i).map λr=>Txt.split r Ce)=some B/\B.length=min i rows.length/\Bu H H2 D a1 a2 a3 a4 (Cm B) (Cn B) (CV B) ts/\ts.map (·.2)=C3 B/\H2 L=some (.lst (rows.map V.str))) ⟨none,none,[],[],rfl,rfl,(by rw [Nat.zero_min];rfl),t1,rfl,hL⟩ (λi σ H2 _ ⟨_,_,_,_,_,_,_,_,_,h⟩=>.of h) ?_ ?_⟩
   .intro i y σ H2 hi zq;obtain ⟨x2,x3,ts,B,rfl,pr,cO,I,bC,ef⟩:=zq;rw [SK] at hi;obtain ⟨row,cL,rfl⟩:=UE.mp hi;have dN:=SV cL;have iq:=fD row dN;have rl:=iq.2;have ib:=(TL.mp cL).1;have et:(rows.take (i+1)).map (λr=>Txt.split r Ce)=(rows.take i).map (λr=>Txt.split r Ce)++[Txt.split row Ce]:=by rw [T9,cL,Su];rfl
    have tk:B.length<=1900:=by omega
    have zL:(Cm B).length<=1900:=Sy (Ui _ _) tk;have zS:(Cn B).length<=1900:=Sy (Ui _ _) tk;have zZ:(CV B).length<=1900:=Sy (Ui _ _) tk;have zG:(C3 B).length<=1900:=Sy (Ui _ _) tk;have zT:ts.length<=1900:=by rw [<- bC,R5] at zG;exact zG
    walk_at"";refine ⟨by omega,λW nW=>?_⟩;have ew:Txt.split row (Sa " ")=Txt.split row Ce:=rfl;rw [ew];obtain ⟨k,ws,fE⟩:=Ji row Ce;have dk:∀ z∈k :: ws,Ok z:=λz m=>F6 iq (sep:=Ce) (by rw [fE];exact m);have bad:BX (k :: ws)=none->Cw text=none:=λh=>Qq (by rw [dO];exact LF h (Sx.mpr ⟨row,dN,fE⟩));rw [fE] at et ⊢;have s4:=(Ae.refl H2).upd (o:=.lst ((k :: ws).map V.str)) nW;have O:=I.same s4;have cP:=s4 _ _ ef;have hW:(upd H2 W (.lst ((k :: ws).map V.str))) W=some (.lst ((k :: ws).map V.str)):=Ah;generalize upd H2 W (.lst ((k :: ws).map V.str))=H4 at O cP hW ⊢;clear s4
    walk_at"";refine BZ W k ws rfl hW dk (λck=>?_) (λck H5 s5=>?_)
    .have e0:BI ((k :: ws).map V.str) 0=some (.str k):=Gy (j:=0) rfl;walk_at"";refine Sd (BF (.of hW) e0 ?_);rcases Jg ck with ⟨x,x0,⟨dQ,J⟩ | ⟨dQ,J⟩ | ⟨dQ,J⟩⟩ | ⟨x,y,x0,y0,dQ,J⟩;all_goals
      obtain ⟨rfl,rfl⟩:=Vx dQ
     .walk_at"";refine Bx D (BD a1 a2 a3 a4) (.inr "long") (.ref a1) rfl rfl (.of O.d) (Ft ..) ?_;walk_at"";refine ⟨.inl ⟨rfl,_,.of O.h1⟩,?_⟩;walk_at"";refine DK W _ rfl hW dk ck ?_;rw [J];cases hx:A2 x with
      | none =>
       rw [hx] at J;rw [bad J] at q;exact λH5 s5=>q H5 (O.s.trans s5)
      | some n =>
       rw [hx] at J;intro H3 s3;have Y:=O.same s3;walk_at"";refine BZ a1 _ _ rfl rfl Y.h1 (by rw [R5,R8];omega) ?_;have pp:=Y.ql n;refine D5 _ _ ts (B++[.bf n]) rfl ⟨?_,?_,?_,?_,(by rw [Ak dP.1];exact s3 _ _ cP)⟩
       .rw [et];exact Eg J pr
       .rw [SF,cO];show min i rows.length+1=_;omega
       .rw [EG,EH,EI];show Bu _ _ _ _ _ _ _ (_++[n]) (_++[]) (_++[]) _;simp only [S5];exact pp
       .rw [EJ];show _=_++[];rw [S5];exact bC
     .walk_at"";refine Bx D (BD a1 a2 a3 a4) (.inr "seekers") (.ref a2) rfl rfl (.of O.d) (Fu ..) ?_;walk_at"";refine ⟨.inl ⟨rfl,_,.of O.h2⟩,?_⟩;walk_at"";refine DK W _ rfl hW dk ck ?_;rw [J];cases hx:A2 x with
      | none =>
       rw [hx] at J;rw [bad J] at q;exact λH5 s5=>q H5 (O.s.trans s5)
      | some n =>
       rw [hx] at J;intro H3 s3;have Y:=O.same s3;walk_at"";refine BZ a2 _ _ rfl rfl Y.h2 (by rw [R5,R8];omega) ?_;have pp:=Y.put2 n;refine D5 _ _ ts (B++[.bg n]) rfl ⟨?_,?_,?_,?_,(by rw [Ak dP.2.1];exact s3 _ _ cP)⟩
       .rw [et];exact Eg J pr
       .rw [SF,cO];show min i rows.length+1=_;omega
       .rw [EG,EH,EI];show Bu _ _ _ _ _ _ _ (_++[]) (_++[n]) (_++[]) _;simp only [S5];exact pp
       .rw [EJ];show _=_++[];rw [S5];exact bC
     .walk_at"";refine Bx D (BD a1 a2 a3 a4) (.inr "line") (.ref a3) rfl rfl (.of O.d) (Hh ..) ?_;walk_at"";refine ⟨.inl ⟨rfl,_,.of O.h3⟩,?_⟩;walk_at"";refine DK W _ rfl hW dk ck ?_;rw [J];walk_at"";refine BZ a3 _ _ rfl rfl O.h3 (by rw [R5,R8];omega) ?_;have pp:=O.put3 x;refine D5 _ _ ts (B++[.bx x]) rfl ⟨?_,?_,?_,?_,(by rw [Ak dP.2.2.1];exact cP)⟩
      .rw [et];exact Eg J pr
      .rw [SF,cO];show min i rows.length+1=_;omega
      .rw [EG,EH,EI];show Bu _ _ _ _ _ _ _ (_++[]) (_++[]) (_++[x]) _;simp only [S5];exact pp
      .rw [EJ];show _=_++[];rw [S5];exact bC
     .walk_at"";refine Bx D (BD a1 a2 a3 a4) (.inr "group") (.ref a4) rfl rfl (.of O.d) (Hi ..) ?_;walk_at"";refine ⟨.inl ⟨rfl,_,.of O.h4⟩,?_⟩;walk_at"";refine DK W _ rfl hW dk ck ?_;rw [J];cases hx:A2 y with
      | none =>
       rw [hx] at J;rw [bad J] at q;exact λH5 s5=>q H5 (O.s.trans s5)
      | some n =>
       rw [hx] at J;intro H3 t3 s3 nt jk;have Y:=O.same s3;walk_at"";refine BZ a4 _ _ rfl rfl Y.h4 (by rw [R5,R8];omega) ?_;have pp:=Y.qm (t3,x,n) jk;refine D5 _ _ (ts++[(t3,x,n)]) (B++[.cg x n]) rfl ⟨?_,?_,?_,?_,(by rw [Ak dP.2.2.2];exact s3 _ _ cP)⟩
       .rw [et];exact Eg J pr
       .rw [SF,cO];show min i rows.length+1=_;omega
       .rw [EG,EH,EI];show Bu _ _ _ _ _ _ _ (_++[]) (_++[]) (_++[]) _;simp only [S5];exact pp
       .rw [EJ,Su,bC];rfl
    .rw [bad (Lz ck)] at q;exact q H5 (O.s.trans s5)
   .intro σ H2 zq;obtain ⟨x2,x3,ts,B,rfl,pr,cO,I,bC,ef⟩:=zq;rw [R5,TF,<- dO] at pr;walk_at"";refine Bx D _ (.inr "long") _ rfl rfl (.of I.d) (Ft ..) ?_;walk_at"";refine R9 (AX _ _ rfl (.inl (.of I.h1)) ?_);walk_at"";rw [R5];by_cases c1:(Cm B).length=1
    .rw [decide_eq_true (show V.int (Cm B).length=V.int 1 by rw [c1];rfl)];refine Bv ?_;walk_at"";refine Bx D _ (.inr "seekers") _ rfl rfl (.of I.d) (Fu ..) ?_;walk_at"";refine R9 (AX _ _ rfl (.inl (.of I.h2)) ?_);walk_at"";rw [R5];by_cases c2:(Cn B).length=1
     .rw [decide_eq_true (show V.int (Cn B).length=V.int 1 by rw [c2];rfl)];obtain ⟨long,el⟩:∃ l,Cm B=[l]:=XR.mp c1;obtain ⟨sk,ir⟩:∃ l,Cn B=[l]:=XR.mp c2;rw [Qs pr el ir] at q;obtain ⟨q1,q2⟩:=q;have jm:∀ z∈CV B,Ok z/\True:=λz m=>⟨Qu fD dO pr m,trivial⟩;have iu:∀ t∈C3 B,Ok t.1:=λt m=>Qw fD dO pr m;have zZ:(CV B).length<=1900:=Sy (Ui _ _) (by omega);have zG:(C3 B).length<=1900:=Sy (Ui _ _) (by omega);have zT:ts.length<=1900:=by rw [<- bC,R5] at zG;exact zG
      rw [el,ir] at I;generalize CV B=zs at I jm zZ q1 q2;rw [<- bC] at q1 q2 iu;walk_at"";refine Bx D _ (.inr "long") _ rfl rfl (.of I.d) (Ft ..) ?_;walk_at"";refine Sd (Bx a1 _ _ _ rfl rfl (.of I.h1) rfl ?_);walk_at"";refine Bx D _ (.inr "line") _ rfl rfl (.of I.d) (Hh ..) ?_;walk_at"";refine Bx D _ (.inr "seekers") _ rfl rfl (.of I.d) (Fu ..) ?_;walk_at"";refine Sd (Bx a2 _ _ _ rfl rfl (.of I.h2) rfl ?_);walk_at"";refine Bx D _ (.inr "group") _ rfl rfl (.of I.d) (Hi ..) ?_;walk_at"";intro p dx nx bX lH;have s3:Ae H2 (upd (upd H2 dx (.own p)) p (.ins a.Plan dx [])):=((Ae.refl H2).upd bX).upd (by rw [Ak lH.symm];exact nx);have bQ:∀ t∈ts,Ok t.2.1:=λt m=>iu t.2 (Sx.mpr ⟨t,m,rfl⟩);refine J2 p long a3 sk a4 a.Plan dx zs ts rfl ⟨Ah,pc,⟨s3 _ _ I.h3,s3 _ _ I.h4,I.lay.same s3,λz m=>(jm z m).1,bQ,by omega,by omega⟩,λgd H3 lt gt zs' aq sx hp ai eL pm so pt st=>⟨rfl,?_⟩,λngd H3 sx=>?_⟩
      .have fp:H p=none:=I.s.free nx;have s4:Ae H H3:=λb o e=>sx b o (λz=>by rw [SA.mp z,fp] at e;cases e) (s3 _ _ (I.s _ _ e));have iw:BR H3 aq:=λt m=>by
        have e:=I.lay t (pt.mem_iff.mp m);exact sx _ _ (λz=>by rw [SA.mp z,nx] at e;cases e) (s3 _ _ e)
       exact q1 (Co.iff.mpr gd) H3 p zs' (aq.map (·.2)) s4 fp ⟨⟨dx,lt,gt,aq,hp,ai,eL,iw,rfl⟩,pc⟩ pm so (pt.map _) (Wg.mpr st)
      .exact q2 (λg=>ngd (Co.iff.mp g)) H3 (I.s.trans (s3.trans sx))
     .rw [decide_eq_false (show ¬ V.int (Cn B).length=V.int 1 from λe=>c2 (by have:=V.int.inj e;omega))];rw [Jj pr (.inr c2)] at q;walk_at"";exact ⟨AA,q H2 I.s⟩
    .rw [decide_eq_false (show ¬ V.int (Cm B).length=V.int 1 from λe=>c1 (by have:=V.int.inj e;omega))];rw [Jj pr (.inl c1)] at q;walk_at"";exact ⟨AA,q H2 I.s⟩
def EL (z:Str)(n:Nat):List Str:=((z.cps.toList.take n).filter (λc=>!B5 c)).map λc=>⟨#[c]⟩
theorem AfR {z:Str}(n:Nat)(h:z.cps.toList.length<=n):EL z n=[]↔Bs z:=by
 unfold EL;rw [Vg h,sT,Y5];constructor
 .intro h c m;have:=h c m;exact Eb.mp (by cases q:B5 c with | true=>rfl | false=>rw [q] at this;exact absurd rfl this)
 .intro h c m;rw [Eb.mpr (h c m)];decide
theorem QD {z:Str}:z=Sa ""↔z.length=0:=by
 constructor
 .intro e;rw [e];rfl
 .intro h;refine KW ?_;rw [show (Sa "").cps.toList=[] from by decide +kernel];exact VR.mp (by rw [<- C2];exact h)
theorem QE:A8 ["word"] ["word"] (Ab (top 99)):=.of
theorem F8:Nm (Ab (top 99)) "word":=.of
theorem QF:Gm (Ab (top 99)) "len":=.of
theorem AfS:Gm (Ab (top 99)) "int":=.of
def QG:Scope:={ kind:=.function,names:=[(".0",.local),("sign",.local)],isGenerator:=false,isCoroutine:=false,more:=[] }
theorem QH:A1 QG (Ab (top 99)) ["sign"] ["word"] [none]:=A1.mk' rfl (by decide +kernel) (by decide +kernel) (by decide +kernel) (by decide +kernel) rfl (by decide +kernel)
theorem LK:Nm QG "sign":=.of
theorem AfT (F:AW K "_law_small" "_law_small" (top 99) f fd)(T:TxtR P w K mg a):AE P w K mg base AI 1 f fd ["word"] Je:=by
 refine F.ok QE λaf A outer s H vs Q E hr h=>?_
 .obtain ⟨z,rfl,ok,q⟩:=h;have hu:=hr.units;have nd:=QE.nd;have zl:=ok.2;refine ⟨_,(@Ai _ _ _ _ _ (AR (PW.pt (Cz (AK (B4 hu) (Aa 0 F8) Ay (AN _)) (Cz (AK Gu (AH Bl QF T.n_len Bg (Ac (Aa 0 F8) Af)) Ag (AN _)) (Dh (AK (Ca hu) (EA rfl QH (J6 (Aa 0 F8)) (λI C fp pins s₂ H₂=>(A9 0 QH.nd LK.comp)) (λI C fp pins s₂ H₂=>(GH (AK (Kk K rfl) (Aa 0 LK.comp) Ay (by with_unfolding_all rfl)))) (λI C fp pins s₂ H₂=>(Aa 0 LK.comp))) (A7 Af) (AN _)))))) (Ap (AO Ci)) AQ)
    (Ap (AO (MK (PW.pt (JM (AK (B4 hu) (AH Bl QF T.n_len Bg (Ac (Aa 0 F8) Af)) Ag (AN _)) (JL (AK (B4 hu) (As Aw (Aa 0 F8) Ag (λ_ _=>rfl)) Ay (AN _))))) Ci (CF Ki AfS T.iY J8 (Ac (Aa 0 F8) Af)))))),?_⟩
  try dsimp only [aE,aF]
  have no:¬ (z.length=1\/z.length=2)\/¬ Bs z->∀ J,Ae H J->Q .ae J:=λc J s'=>by
   have g:A2 z=none:=by
    unfold A2;rw [if_neg (λh=>by
     rcases c with c | c
     .exact c h.1
     .exact c (Fq.mp h.2.1))]
   rw [g] at q;exact q J s'
  walk_at"";by_cases L:z=Sa ""
  .rw [decide_eq_true (congrArg V.str L)];have l0:=QD.mp L;walk_at"";exact no (.inl (by omega)) _ (.refl H)
  .rw [decide_eq_false (λe=>L (V.str.inj e))];have l0:z.length≠0:=λe=>L (QD.mpr e);walk_at"";refine Sd (BB z rfl (by rw [R8];omega) ?_);walk_at"";by_cases c2:(z.length:Int) > 2
   .rw [decide_eq_true c2];walk_at"";exact no (.inl (by omega)) _ (.refl H)
   .rw [decide_eq_false c2];have lI:z.length=1\/z.length=2:=by omega
    have zl2:z.cps.toList.length<=2:=by rw [<- C2];omega
    walk_at"";refine ⟨K4 ok.1,λD hD=>?_⟩;refine KH (z:=z) (λi σ p=>∃ x,σ=[x]/\Ae H p/\p D=some (.lst ((EL z i).map V.str))) ⟨none,rfl,(Ae.refl H).upd hD,Ah⟩ ?_ ?_
    .intro i c σ p hc zq;obtain ⟨x,rfl,O,B⟩:=zq;have I:c<128:=ok.1 c (SV hc);have fs:EL z (i+1)=EL z i++if (!B5 c)=true then [⟨#[c]⟩] else []:=Fo hc
     walk_at"";have e:D6 ⟨#[c]⟩ (Sa "0123456789")=B5 c:=K2 c I;rw [e];cases eX:B5 c with
     | true =>
      rw [eX] at fs;refine Bv ?_;refine BB _ rfl O ?_;rw [fs,if_neg (by decide),S5];exact B
     | false =>
      rw [eX] at fs;refine Bt ?_;walk_at"";refine ⟨_,B,?_,_,rfl,O.bN hD,?_⟩
      .have:=W4 (λc=>!B5 c) (z.cps.toList.take i);unfold EL;rw [R5,R5,R8];rw [SU] at this;omega
      .rw [Ah,fs,if_pos (by decide),Su];rfl
    .intro σ p zq;obtain ⟨x,rfl,O,B⟩:=zq;have hz:=AfR (z:=z) z.cps.toList.length (Sh _);have asc:∀ y∈EL z z.cps.toList.length,AS y:=λy hy=>by
      obtain ⟨c,hc,rfl⟩:=Sx.mp hy;intro d eQ;have:d=c:=by simpa using eQ
      rw [this];exact ok.1 c (UC (Ul.mp hc).1)
     generalize EL z z.cps.toList.length=Y at B hz asc;walk_at"";refine ⟨AA,λem fu=>?_⟩;have s3:=(Ae.refl p).upd (o:=.lst []) fu;have e3:(upd p em (.lst [])) em=some (.lst []):=Ah;generalize upd p em (.lst [])=H3 at s3 e3 ⊢;have kO:=s3 _ _ B;have dR:=O.trans s3;obtain ⟨la,de⟩:=EE asc;walk_at"";refine R9 ⟨.list (Y.map Tj),.list [],.lst (.of kO) (DS _),.lst (.of e3) .nil,la,rfl,(by rw [Fn];omega),?_⟩;rw [show UR (.list (Y.map Tj)) (.list [])=decide (Y=[]) from FZ (b:=[]) asc];by_cases cc:Y=[]
     .have dz:=hz.mp cc;obtain ⟨n,en,_⟩:=Ly lI dz;rw [decide_eq_true cc];walk_at"";refine Sd (BB z rfl (by rw [R8];omega) ?_);walk_at"";by_cases h2:z.length=2
      .rw [decide_eq_true (congrArg V.int (show (z.length:Int)=2 by omega))];walk_at"";obtain ⟨c',hc,ec⟩:=Qd h2;refine R9 (R9 (BZ z 0 c' rfl rfl (by rw [R8];omega) ec ?_));walk_at"";by_cases fB:c'=48
       .subst fB;rw [decide_eq_true (show V.str ⟨#[48]⟩=V.str "0" by decide +kernel)];have g:A2 z=none:=by
         unfold A2;rw [if_neg (λh=>h.2.2 ⟨h2,hc⟩)]
        rw [g] at q;walk_at"";exact q _ dR
       .have cn:¬ (V.str ⟨#[c']⟩=V.str "0"):=λe=>by
         have e1:(⟨#[c']⟩:Str)="0":=by injection e
         have e2:c'=48:=by have:=congrArg (λs:Str=>s.cps.toList) e1;have e3:[c']=[48]:=this;exact (Vx e3).1
         exact fB e2
        rw [decide_eq_false cn];have g:A2 z=some n:=by unfold A2;rw [if_pos ⟨lI,Fq.mpr dz,λh=>fB (by rw [hc] at h;exact TU h.2)⟩];exact en
        rw [g] at q;walk_at"";refine R9 (R9 (Bw z n rfl en (by omega) ?_));exact q _ dR
      .rw [decide_eq_false (show ¬ (V.int (z.length:Int)=V.int 2) from λe=>h2 (by have:=V.int.inj e;omega))];have g:A2 z=some n:=by
        unfold A2;rw [if_pos ⟨lI,Fq.mpr dz,λh=>h2 h.1⟩];exact en
       rw [g] at q;walk_at"";refine R9 (R9 (Bw z n rfl en (by omega) ?_));exact q _ dR
     .rw [decide_eq_false cc];walk_at"";exact no (.inr (λd=>cc (hz.mpr d))) _ dR
def QI (K:R0):Sp:=λvs H Q _=>∃ t:Str,vs=[.str t]/\F7 t /\
 match Cw t with
 | none=>∀ H',Ae H H'->Q .ae H'
 | some (long,zs,sk,gz)=>∀(H':Hp)(tp l g:Addr)(ts:List Pr),Ae H H'->H l=none->H g=none->l≠g->H' tp=some (.tup [.int long,.ref l,.int sk,.ref g])->ED H' l g zs ts->ts.map (·.2)=gz->Q (.ref tp) H'
theorem AfU (D H I J:Addr)(k:Str):(Bk (BD D H I J) (.inr k)).isSome=(Bk BG (.inr k)).isSome:=by
 rw [F3];by_cases d:k="long"
 .rw [if_pos d,d,Ft];rfl
 rw [if_neg d];by_cases g:k="seekers"
 .rw [if_pos g,g,Fu];rfl
 rw [if_neg g];by_cases p:k="line"
 .rw [if_pos p,p,Hh];rfl
 rw [if_neg p];by_cases B:k="group"
 .rw [if_pos B,B,Hi];rfl
 rw [if_neg B];unfold BD;rw [Cc (λc=>d (Ub c).symm),Cc (λc=>g (Ub c).symm),Cc (λc=>p (Ub c).symm),Cc (λc=>B (Ub c).symm)];rfl
theorem AfV {k:Str}{ws:List Str}:CH (k :: ws)=(!decide ((Sa "")∈k :: ws) && ((Bk BG (.inr k)).isSome && decide (((k :: ws).length:Int)=2+(if k="group" then 1 else 0)))):=by
 obtain ⟨J,L,D,O,H,I,_⟩:=Jf;unfold CH;dsimp only;rw [F3];by_cases d:k="long"
 .rw [if_pos d,if_neg (λe=>D (d.symm.trans e)),XS];rfl
 rw [if_neg d];by_cases g:k="seekers"
 .rw [if_pos g,if_neg (λe=>H (g.symm.trans e)),XS];rfl
 rw [if_neg g];by_cases p:k="line"
 .rw [if_pos p,if_neg (λe=>I (p.symm.trans e)),XS];rfl
 rw [if_neg p];by_cases B:k="group"
 .rw [if_pos B,if_pos B,XS];rfl
 rw [if_neg B];show false=(_ && (false && _));rw [Wz,WH]
theorem QJ:A8 ["text","found","row","words","number","thing"] ["text"] (Ab (top 100)):=.of
theorem AfW:Nm (Ab (top 100)) "text":=.of
theorem Eh:Nm (Ab (top 100)) "found":=.of
theorem QK:Nm (Ab (top 100)) "row":=.of
theorem Ds:Nm (Ab (top 100)) "words":=.of
theorem Jl:Nm (Ab (top 100)) "number":=.of
theorem Jm:Nm (Ab (top 100)) "thing":=.of
theorem LL:Gm (Ab (top 100)) "len":=.of
theorem AfX:Gm (Ab (top 100)) "_law_small":=.of
theorem AfY:Gm (Ab (top 100)) "int":=.of
theorem AfZ (F:AW K "_law_read" "_law_read" (top 100) f fd)(T:TxtR P w K mg a)(lJ:Bf P w K mg base AI 1 "_law_small" ["word"] Je):AE P w K mg base AI 2 f fd ["text"] (QI K):=by
 refine F.ok QJ λaf A outer s H vs Q E hr h=>?_
 .obtain ⟨text,rfl,tok,q⟩:=h;have hu:=hr.units;have nd:=QJ.nd;have tl:=tok.ok.2;have aD:=tok.aD;refine ⟨_,(@Ai _ _ _ _ _ (@AG _ _ _ 1 _ _ _ nd Eh (@AcR _ _ _ _ _ (Ig Ay (A7 Af) (Ig Ay (A7 Af) (Ig Ay (A7 Af) (Ig Ay (A7 Af) AcP)))) rfl rfl (by simp) (by decide)) rfl rfl)
    (Ai (C6 U3 rfl (C5 (B2 Uh Wl Wm FX (Aa 0 AfW) (Ac Ay Af))) (A9 2 nd QK) (Ai (AG 3 nd Ds (B2 Uh Wl Wm FX (Aa 2 QK) (Ac Ay Af)))
     (Ai (AR (PW.pt (Cz (AK HQ Ay (Aa 3 Ds) (by with_unfolding_all rfl)) (Cz (AK (KL (P:=P) (w:=w) (K:=K)) (As Aw (Aa 3 Ds) Ag (λ_ _=>rfl)) (Aa 1 Eh) (by with_unfolding_all rfl)) (Dh (AK (Ca hu) (AH Bl LL T.n_len Bg (Ac (Aa 3 Ds) Af)) (Aj AL Ag (CF Ki AfY T.iY J8 (Ac (Eu (B4 hu) (As Aw (Aa 3 Ds) Ag (λ_ _=>rfl)) Ay (AN _)) Af))) (AN _)))))) (Ap (AO Ci)) AQ)
     (Ai (AG 4 nd Jl (Bh lJ AfX hr.d Bj (Ac (As Aw (Aa 3 Ds) (AaJ AaO Ag) (λ_ _=>rfl)) Af)))
     (Ai (AR (PW.pt (JM (AK (Ca hu) (As Aw (Aa 3 Ds) Ag (λ_ _=>rfl)) Ay (AN _)) (JL (AK Gv (Aa 4 Jl) Ci (AN _))))) (Ap (AO Ci)) AQ)
     (Ai (AG 5 nd Jm (Aa 4 Jl))
     (Ai (AR (AK (B4 hu) (As Aw (Aa 3 Ds) Ag (λ_ _=>rfl)) Ay (AN _)) (Ap (AG 5 nd Jm (As Aw (Aa 3 Ds) Ag (λ_ _=>rfl)))) AQ)
     (Ai (AR (AK (B4 hu) (As Aw (Aa 3 Ds) Ag (λ_ _=>rfl)) Ay (AN _)) (Ap (AG 5 nd Jm (Dw (Ac (As Aw (Aa 3 Ds) Ag (λ_ _=>rfl)) (Ac (Aa 4 Jl) Af))))) AQ)
     (Ap (CK (B2 Vy V1 V2 Ey (Ck P w K (Aa 1 Eh) (As Aw (Aa 3 Ds) Ag (λ_ _=>rfl))) (Ac (Aa 5 Jm) Af))))))))))))
    (Ai (AR (PW.pt (Cz (AK (Ca hu) (AH Bl LL T.n_len Bg (Ac (Ck P w K (Aa 1 Eh) Ay) Af)) Ag (AN _)) (Dh (AK (Ca hu) (AH Bl LL T.n_len Bg (Ac (Ck P w K (Aa 1 Eh) Ay) Af)) Ag (AN _))))) (Ap (AO Ci)) AQ)
    (Ap (AO (Dw (Ac (As Aw (Ck P w K (Aa 1 Eh) Ay) Ag (λ_ _=>rfl)) (Ac (Ck P w K (Aa 1 Eh) Ay) (Ac (As Aw (Ck P w K (Aa 1 Eh) Ay) Ag (λ_ _=>rfl)) (Ac (Ck P w K (Aa 1 Eh) Ay) Af)))))))))),?_⟩
  try dsimp only [aE,aF]
  have bj:CN ["text","found","row","words","number","thing"] [V.str text]=[some (.str text),none,none,none,none,none]:=rfl;simp only [bj,SD,SE];walk_at"";intro D nD;have s1:=(Ae.refl H).upd (o:=.dK []) nD;have e1:(upd H D (.dK [])) D=some (.dK []):=Ah;generalize upd H D (.dK [])=G0 at s1 e1 ⊢;walk_at"";refine ⟨AA,λO n1=>?_⟩;have s2:=(Ae.refl G0).upd (o:=.lst []) n1;have k1:(upd G0 O (.lst [])) O=some (.lst []):=Ah;generalize upd G0 O (.lst [])=G1 at s2 k1 ⊢;walk_at"";refine ⟨AA,λY n2=>?_⟩;have s3:=(Ae.refl G1).upd (o:=.lst []) n2;have k2:(upd G1 Y (.lst [])) Y=some (.lst []):=Ah;generalize upd G1 Y (.lst [])=G2 at s3 k2 ⊢;walk_at"";refine ⟨AA,λI n3=>?_⟩;have s4:=(Ae.refl G2).upd (o:=.lst []) n3;have k3:(upd G2 I (.lst [])) I=some (.lst []):=Ah;generalize upd G2 I (.lst [])=G3 at s4 k3 ⊢;walk_at"";refine ⟨AA,λJ n4=>?_⟩;have B:=(Ae.refl G3).upd (o:=.lst []) n4;have k4:(upd G3 J (.lst [])) J=some (.lst []):=Ah;generalize upd G3 J (.lst [])=G4 at B k4 ⊢;walk_at"";refine  ⟨(s2.trans (s3.trans (s4.trans B))) _ _ e1,BD O Y I J,rfl,(by show 4<=15;decide),?_⟩;rw [show FT [] (BD O Y I J)=BD O Y I J from rfl];have D4:G4 D=some (.dK []):=(s2.trans (s3.trans (s4.trans B))) _ _ e1;have sD:∀{b:Addr}{xs:List V},G4 b=some (.lst xs)->(upd G4 D (.dK (BD O Y I J))) b=some (.lst xs):=λ{b xs} h=>by
   rw [Ak (λz=>by rw [z,D4] at h;cases h)];exact h
  have bW:Bu H (upd G4 D (.dK (BD O Y I J))) D O Y I J [] [] [] []:=by
   have g2:=s2 _ _ e1;have f1:H O=none:=s1.free n1;have f2:H Y=none:=s1.free (s2.free n2);have f3:H I=none:=s1.free (s2.free (s3.free n3));have f4:H J=none:=s1.free (s2.free (s3.free (s4.free n4)));refine ⟨Ah,sD ((s3.trans (s4.trans B)) _ _ k1),sD ((s4.trans B) _ _ k2),sD (B _ _ k3),sD k4,λt m=>absurd m (by simp),?_,⟨f1,f2,f3,f4⟩,λb o e=>?_⟩
   .have ix:O≠Y:=Be k1 n2;have h13:O≠I:=Be (s3 _ _ k1) n3;have h14:O≠J:=Be ((s3.trans s4) _ _ k1) n4;have h23:Y≠I:=Be k2 n3;have h24:Y≠J:=Be (s4 _ _ k2) n4;have h34:I≠J:=Be k3 n4;simp [ix,h13,h14,h23,h24,h34]
   .rw [Ak (λz=>by rw [z,nD] at e;cases e)];exact (s1.trans (s2.trans (s3.trans (s4.trans B)))) _ _ e
  generalize upd G4 D (.dK (BD O Y I J))=H' at bW ⊢;clear sD D4 k1 k2 k3 k4 s1 s2 s3 s4 B n1 n2 n3 n4 e1
  simp only [Ba,SD,SE];walk_at"";refine ⟨by omega,λL nL=>?_⟩;have er:Txt.split text (Sa "\n")=Txt.split text CU:=rfl;rw [er];generalize ip:Txt.split text CU=rows at aD;have fD:∀ r∈rows,Ok r:=λr m=>F6 tok.ok (sep:=CU) (by rw [ip];exact m);have dO:Dr text=rows.map λr=>Txt.split r Ce:=by unfold Dr;rw [ip]
  have dP:L≠O/\L≠Y/\L≠I/\L≠J:=⟨(Be bW.h1 nL).symm,(Be bW.h2 nL).symm,(Be bW.h3 nL).symm,(Be bW.h4 nL).symm⟩;have t1:=bW.same ((Ae.refl H').upd (o:=.lst (rows.map V.str)) nL);have hL:(upd H' L (.lst (rows.map V.str))) L=some (.lst (rows.map V.str)):=Ah;generalize upd H' L (.lst (rows.map V.str))=H1 at t1 hL ⊢;clear bW
  refine DJ L rfl ⟨⟨_,.of hL⟩,FG (K:=K) (a:=L) (xs:=rows.map V.str) (λi σ H2=>∃ x2 x3 x4 x5 ts p,σ=[some (.str text),some (.ref D),x2,x3,x4,x5]/\B6 ((rows.take i).map λr=>Txt.split r Ce)=some p/\p.length=min i rows.length/\Bu H H2 D O Y I J (Cm p) (Cn p) (CV p) ts/\ts.map (·.2)=C3 p/\H2 L=some (.lst (rows.map V.str))) ⟨none,none,none,none,[],[],rfl,rfl,(by rw [Nat.zero_min];rfl),t1,rfl,hL⟩ (λi σ H2 _ ⟨_,_,_,_,_,_,_,_,_,_,_,h⟩=>.of h) ?_ ?_⟩
  .intro i y σ H2 hi zq;obtain ⟨x2,x3,x4,x5,ts,p,rfl,pr,cO,au,bC,ef⟩:=zq;rw [SK] at hi;obtain ⟨row,cL,rfl⟩:=UE.mp hi;have dN:=SV cL;have iq:=fD row dN;have rl:=iq.2;have ib:=(TL.mp cL).1;have et:(rows.take (i+1)).map (λr=>Txt.split r Ce)=(rows.take i).map (λr=>Txt.split r Ce)++[Txt.split row Ce]:=by rw [T9,cL,Su];rfl
   have tk:p.length<=1900:=by omega
   have zL:(Cm p).length<=1900:=Sy (Ui _ _) tk;have zS:(Cn p).length<=1900:=Sy (Ui _ _) tk;have zZ:(CV p).length<=1900:=Sy (Ui _ _) tk;have zG:(C3 p).length<=1900:=Sy (Ui _ _) tk;have zT:ts.length<=1900:=by rw [<- bC,R5] at zG;exact zG
   simp only [Ba,SD,SE];walk_at"";refine ⟨by omega,λW nW=>?_⟩;have ew:Txt.split row (Sa " ")=Txt.split row Ce:=rfl;rw [ew];obtain ⟨k,ws,fE⟩:=Ji row Ce;have dk:∀ z∈k :: ws,Ok z:=λz m=>F6 iq (sep:=Ce) (by rw [fE];exact m);have bad:BX (k :: ws)=none->Cw text=none:=λh=>Qq (by rw [dO];exact LF h (Sx.mpr ⟨row,dN,fE⟩));rw [fE] at et ⊢;have s4:=(Ae.refl H2).upd (o:=.lst ((k :: ws).map V.str)) nW;have tw:=au.same s4;have cP:=s4 _ _ ef;have hW:(upd H2 W (.lst ((k :: ws).map V.str))) W=some (.lst ((k :: ws).map V.str)):=Ah;generalize upd H2 W (.lst ((k :: ws).map V.str))=H4 at tw cP hW ⊢;clear s4
   have e0:BI ((k :: ws).map V.str) 0=some (.str k):=Gy (j:=0) rfl;have no:CH (k :: ws)=false->∀ H',Ae H H'->Q .ae H':=λc=>by
    rw [bad (Lz c)] at q;exact q
   have cz:=AfV (k:=k) (ws:=ws);simp only [Ba,SD,SE];walk_at"";refine R9 (DK W _ rfl (.inl (.of hW)) rfl (G9 _) ?_);rw [IZ];by_cases c1:(Sa "")∈k :: ws
   .rw [decide_eq_true c1] at cz ⊢;rw [show (!true && ((Bk BG (.inr k)).isSome && decide (((k :: ws).length:Int)=2+(if k="group" then 1 else 0))))=false from rfl] at cz;walk_at"";exact no cz _ tw.s
   rw [decide_eq_false c1] at cz ⊢;rw [Bool.not_false,Wb] at cz;walk_at"";refine Sd (BF (.of hW) e0 ?_);walk_at"";refine E8 D (BD O Y I J) (.inr k) rfl rfl (.of tw.d) ?_;rw [AfU];cases hv:(Bk BG (.inr k)).isSome with
   | false =>
    rw [hv,Wz] at cz;walk_at"";exact no cz _ tw.s
   | true =>
    rw [hv,Wb] at cz;walk_at"";refine R9 (AX _ _ rfl (.inl (.of hW)) ?_);walk_at"";refine Sd (BF (.of hW) e0 ?_);walk_at"";refine Sd (DJ _ rfl ?_);walk_at"";rw [R5];have eg:(if decide (V.str k=V.str "group")=true then (1:Int) else 0)=if k="group" then 1 else 0:=by
     by_cases c:k="group"
     .rw [if_pos c,if_pos (decide_eq_true (congrArg V.str c))]
     .rw [if_neg c,if_neg (by rw [decide_eq_false (λe=>c (V.str.inj e))];decide)]
    rw [eg];by_cases c3:((k :: ws).length:Int)=2+(if k="group" then 1 else 0)
    .rw [decide_eq_true c3] at cz;rw [decide_eq_true (congrArg V.int c3)];refine Bv ?_;clear c3 eg
     rcases Jg cz with ⟨x,x0,⟨dQ,er⟩ | ⟨dQ,er⟩ | ⟨dQ,er⟩⟩ | ⟨x,y,x0,y0,dQ,er⟩;all_goals
      obtain ⟨rfl,rfl⟩:=Vx dQ
     .walk_at"";walk_at"";refine ⟨dk x (by simp),λH5 B=>?_⟩;have jn:=B _ _ hW;simp only [Ba,SD,SE];walk_at"";cases hx:A2 x with
      | none =>
       rw [hx] at er;rw [bad er] at q;walk_at"";exact q _ (tw.s.trans B)
      | some n =>
       rw [hx] at er;have g:=tw.same B;walk_at"";refine Bx D (BD O Y I J) (.inr _) (.ref O) rfl rfl (.of g.d) (Ft ..) ?_;walk_at"";refine ⟨.inl ⟨rfl,_,.of g.h1⟩,?_⟩;walk_at"";refine BZ O _ _ rfl rfl g.h1 (by rw [R5,R8];omega) ?_;have pp:=g.ql n;refine Dx _ _ _ _ ts (p++[.bf n]) rfl ⟨?_,?_,?_,?_,(by rw [Ak dP.1];exact B _ _ cP)⟩
       .rw [et];exact Eg er pr
       .rw [SF,cO];show min i rows.length+1=_;omega
       .rw [EG,EH,EI];show Bu _ _ _ _ _ _ _ (_++[n]) (_++[]) (_++[]) _;simp only [S5];exact pp
       .rw [EJ];show _=_++[];rw [S5];exact bC
     .walk_at"";walk_at"";refine ⟨dk x (by simp),λH5 B=>?_⟩;have jn:=B _ _ hW;simp only [Ba,SD,SE];walk_at"";cases hx:A2 x with
      | none =>
       rw [hx] at er;rw [bad er] at q;walk_at"";exact q _ (tw.s.trans B)
      | some n =>
       rw [hx] at er;have g:=tw.same B;walk_at"";refine Bx D (BD O Y I J) (.inr _) (.ref Y) rfl rfl (.of g.d) (Fu ..) ?_;walk_at"";refine ⟨.inl ⟨rfl,_,.of g.h2⟩,?_⟩;walk_at"";refine BZ Y _ _ rfl rfl g.h2 (by rw [R5,R8];omega) ?_;have pp:=g.put2 n;refine Dx _ _ _ _ ts (p++[.bg n]) rfl ⟨?_,?_,?_,?_,(by rw [Ak dP.2.1];exact B _ _ cP)⟩
       .rw [et];exact Eg er pr
       .rw [SF,cO];show min i rows.length+1=_;omega
       .rw [EG,EH,EI];show Bu _ _ _ _ _ _ _ (_++[]) (_++[n]) (_++[]) _;simp only [S5];exact pp
       .rw [EJ];show _=_++[];rw [S5];exact bC
     .walk_at"";walk_at"";refine ⟨dk x (by simp),λH5 B=>?_⟩;have jn:=B _ _ hW;simp only [Ba,SD,SE];walk_at"";have g:=tw.same B;refine Bx D (BD O Y I J) (.inr _) (.ref I) rfl rfl (.of g.d) (Hh ..) ?_;walk_at"";refine ⟨.inl ⟨rfl,_,.of g.h3⟩,?_⟩;walk_at"";refine BZ I _ _ rfl rfl g.h3 (by rw [R5,R8];omega) ?_;have pp:=g.put3 x;refine Dx _ _ _ _ ts (p++[.bx x]) rfl ⟨?_,?_,?_,?_,(by rw [Ak dP.2.2.1];exact B _ _ cP)⟩
      .rw [et];exact Eg er pr
      .rw [SF,cO];show min i rows.length+1=_;omega
      .rw [EG,EH,EI];show Bu _ _ _ _ _ _ _ (_++[]) (_++[]) (_++[x]) _;simp only [S5];exact pp
      .rw [EJ];show _=_++[];rw [S5];exact bC
     .walk_at"";walk_at"";refine ⟨dk y (by simp),λH5 B=>?_⟩;have jn:=B _ _ hW;simp only [Ba,SD,SE];walk_at"";cases hx:A2 y with
      | none =>
       rw [hx] at er;rw [bad er] at q;walk_at"";exact q _ (tw.s.trans B)
      | some n =>
       rw [hx] at er;walk_at"";refine ⟨AA,λt3 nt3=>?_⟩;rw [show upd H5 t3 (.tup [.str x,OZ (some n)])=upd H5 t3 (.tup [.str x,.int n]) from rfl];have s6:=(Ae.refl H5).upd (o:=.tup [.str x,.int n]) nt3;have jk:(upd H5 t3 (.tup [.str x,.int n])) t3=some (.tup [.str x,.int n]):=Ah;generalize upd H5 t3 (.tup [.str x,.int n])=H6 at s6 jk ⊢;have g:=tw.same (B.trans s6);have hW6:=s6 _ _ jn;walk_at"";refine Bx D (BD O Y I J) (.inr _) (.ref J) rfl rfl (.of g.d) (Hi ..) ?_;walk_at"";refine ⟨.inl ⟨rfl,_,.of g.h4⟩,?_⟩;walk_at"";refine BZ J _ _ rfl rfl g.h4 (by rw [R5,R8];omega) ?_;have pp:=g.qm (t3,x,n) jk;refine Dx _ _ _ _ (ts++[(t3,x,n)]) (p++[.cg x n]) rfl ⟨?_,?_,?_,?_,(by rw [Ak dP.2.2.2];exact s6 _ _ (B _ _ cP))⟩
       .rw [et];exact Eg er pr
       .rw [SF,cO];show min i rows.length+1=_;omega
       .rw [EG,EH,EI];show Bu _ _ _ _ _ _ _ (_++[]) (_++[]) (_++[]) _;simp only [S5];exact pp
       .rw [EJ,Su,bC];rfl
    .rw [decide_eq_false c3] at cz;rw [decide_eq_false (λe=>c3 (V.int.inj e))];refine Bt ?_;walk_at"";exact no cz _ tw.s
  .intro σ H2 zq;obtain ⟨x2,x3,x4,x5,ts,p,rfl,pr,cO,au,bC,ef⟩:=zq;rw [R5,TF,<- dO] at pr;walk_at"";refine Bx D _ (.inr "long") _ rfl rfl (.of au.d) (Ft ..) ?_;walk_at"";refine R9 (AX _ _ rfl (.inl (.of au.h1)) ?_);walk_at"";rw [R5];by_cases c1:(Cm p).length=1
   .rw [decide_eq_true (show V.int (Cm p).length=V.int 1 by rw [c1];rfl)];refine Bv ?_;walk_at"";refine Bx D _ (.inr "seekers") _ rfl rfl (.of au.d) (Fu ..) ?_;walk_at"";refine R9 (AX _ _ rfl (.inl (.of au.h2)) ?_);walk_at"";rw [R5];by_cases c2:(Cn p).length=1
    .rw [decide_eq_true (show V.int (Cn p).length=V.int 1 by rw [c2];rfl)];obtain ⟨long,el⟩:∃ l,Cm p=[l]:=XR.mp c1;obtain ⟨sk,ir⟩:∃ l,Cn p=[l]:=XR.mp c2;rw [Qs pr el ir] at q;have jm:∀ z∈CV p,Ok z:=λz m=>Qu fD dO pr m;have iu:∀ t∈C3 p,Ok t.1:=λt m=>Qw fD dO pr m;have zZ:(CV p).length<=1900:=Sy (Ui _ _) (by omega);have zG:(C3 p).length<=1900:=Sy (Ui _ _) (by omega);have zT:ts.length<=1900:=by rw [<- bC,R5] at zG;exact zG
     rw [el,ir] at au;rw [<- bC] at q iu;walk_at"";refine Bx D _ (.inr "long") _ rfl rfl (.of au.d) (Ft ..) ?_;walk_at"";refine Sd (Bx O _ _ _ rfl rfl (.of au.h1) rfl ?_);walk_at"";refine Bx D _ (.inr "line") _ rfl rfl (.of au.d) (Hh ..) ?_;walk_at"";refine Bx D _ (.inr "seekers") _ rfl rfl (.of au.d) (Fu ..) ?_;walk_at"";refine Sd (Bx Y _ _ _ rfl rfl (.of au.h2) rfl ?_);walk_at"";refine Bx D _ (.inr "group") _ rfl rfl (.of au.d) (Hi ..) ?_;walk_at"";refine ⟨AA,λtp ntp=>?_⟩;have s6:=(Ae.refl H2).upd (o:=.tup [.int long,.ref I,.int sk,.ref J]) ntp;have bQ:∀ t∈ts,Ok t.2.1:=λt m=>iu t.2 (Sx.mpr ⟨t,m,rfl⟩);exact q _ tp I J ts (au.s.trans s6) au.f.2.2.1 au.f.2.2.2 au.ne.2.2 Ah ⟨s6 _ _ au.h3,s6 _ _ au.h4,au.lay.same s6,jm,bQ,by omega,by omega⟩ rfl
    .rw [decide_eq_false (show ¬ V.int (Cn p).length=V.int 1 from λe=>c2 (by have:=V.int.inj e;omega))];rw [Jj pr (.inr c2)] at q;walk_at"";exact q H2 au.s
   .rw [decide_eq_false (show ¬ V.int (Cm p).length=V.int 1 from λe=>c1 (by have:=V.int.inj e;omega))];rw [Jj pr (.inl c1)] at q;walk_at"";exact q H2 au.s
inductive Ahx where
 | jam (b:Bool) (w:Str) (k:Int)
 | line (d:LW) (z:Str)
inductive Er where
 | aeY | aeZ | ae0
theorem At.sub {H:Hp}{C C':Bm}(t:At H C)(s:C'.Sublist C):At H C':=⟨λc m=>t.at_ c (s.subset m),(s.map _).nodup t.nd⟩
theorem HT.sub {K:R0}{a:An}{H:Hp}{X:HX}{R d:Bm}(t:HT K a H X R)(s:d.Sublist R):HT K a H X d:=⟨t.t.sub ((Wj _).append ((Wj _).append ((Wj _).append ((Wj _).append s)))),t.ok⟩
def QL (K:R0)(a:An)(sel:HX->List V):Sp:=λvs H Q _=>∃(X:HX)(R:Bm),vs=[.ref X.h]/\HT K a H X R/\∀ l,H l=none->Q (.ref l) (upd H l (.lst (sel X)))
theorem Af0:A8 ["self"] ["self"] (Ab (Au (top 48) 25)):=.of
theorem Af1:Nm (Ab (Au (top 48) 25)) "self":=.of
theorem Af2:Gm (Ab (Au (top 48) 25)) "list":=.of
theorem Af3 (F:AW K "waiting" "Hall.waiting" (Au (top 48) 25) f fd)(T:TxtH P w K mg a):AE P w K mg base AI 1 f fd ["self"] (QL K a λX=>X.q.map V.str):=by
 refine F.ok Af0 λd A outer s H vs Q E g h=>?_
 .obtain ⟨X,R,rfl,t,q⟩:=h;refine ⟨_,(@Ap _ _ _ (AO (CF (Kg rfl) Af2 T.gM J9 (Ac (Cj (Aa 0 Af1) rfl) Af)))),?_⟩;try dsimp only [aE,aF]
  walk_at"";refine B8 X.h a.ak X.dx _ _ rfl t.t.fQ T.hc.cls T.hc.qu rfl ?_;walk_at"";exact .inl ⟨X.qa,_,rfl,.inl (.of t.t.q),q⟩
section
variable {K:R0}{a:An}{H:Hp}{X:HX}{R:Bm}
end
noncomputable def F9 (z:Str):Ln:=⟨z,"rests","",0,none,.none,[]⟩
noncomputable def C4 (p:Str×Int):Gr:=⟨p.1,Ss p.2.toNat .ae,Ss p.2.toNat false,Ss p.2.toNat 0⟩
noncomputable def Fv (n places:Int):Sk:=⟨Ss n.toNat .ae,Ss n.toNat false,Ss n.toNat 0,places,0,Ss n.toNat 0,Ss n.toNat 0⟩
noncomputable def LM (long:Int)(zs:List Str)(n:Int)(gs:List (Str×Int)):PS:=⟨long,zs.map F9,gs.map C4,Fv n zs.length,[],[]⟩
theorem At.init {H d:Hp}{p:Addr}{o o':HO}{C N:Bm}(t:At H ((p,o) :: C))(s:Cv [p] H d)(J:d p=some o')(hn:∀ c∈N,H c.1=none/\d c.1=some c.2)(L:(N.map (·.1)).Nodup):At d ((p,o') :: (N++C)):=by
 have g:=Te.mp t.nd;refine ⟨λc m=>?_,Te.mpr ⟨λm=>?_,?_⟩⟩
 .rcases Si.mp m with rfl | m
  .exact J
  .rcases SG.mp m with m | m
   .exact (hn c m).2
   .exact s _ _ (λz=>g.1 (Sx.mpr ⟨c,m,SA.mp z⟩)) (t.at_ c (SI _ m))
 .obtain ⟨c,mc,D⟩:=Sx.mp m;rcases SG.mp mc with mc | mc
  .have:=(hn c mc).1;rw [show c.1=p from D,t.hd] at this;cases this
  .exact g.1 (Sx.mpr ⟨c,mc,D⟩)
 .rw [Su];refine VU.mpr ⟨L,g.2,λx hx y hy e=>?_⟩;obtain ⟨c,mc,rfl⟩:=Sx.mp hx;obtain ⟨O,B,rfl⟩:=Sx.mp hy;have I:=(hn c mc).1;rw [e,t.at_ O (SI _ B)] at I;cases I
structure Jn (a:An)(H:Hp)(D:Addr)(zs:List Str)(i:Nat)(L:List LX)(C:Bm):Prop where
 t:At H ((D,.dK (L.map λx=>(.inr x.l.num,.ref x.p))) :: (L.flatMap (DD a)++C))
 len:L.length=i
 l:L.map (·.l)=(zs.take i).map F9
 x:∀(j:Nat)(x:LX),L[j]?=some x->x.i=j/\x.hv=[]/\x.wv=.ae
theorem Jn.push {a:An}{H g:Hp}{D x d l:Addr}{zs:List Str}{i:Nat}{L:List LX}{C:Bm}{z:Str}(m:Jn a H D zs i L C)(J:zs[i]?=some z)(Y:zs.Nodup)(s:Ae H g)(nx:g x=none)(bX:g d=none)(dS:d≠x)(nl:(upd (upd g d (.own x)) x (.ins a.Line d [])) l=none) :
  Jn a (upd (upd (upd (upd (upd g d (.own x)) x (.ins a.Line d [])) l (.lst [])) x (.ins a.Line d (DT z i l "rests" "" 0 .ae .ae))) D (.dK (By (L.map λx=>((.inr x.l.num:Aq),V.ref x.p)) (.inr z) (.ref x)))) D zs (i+1) (L++[⟨x,d,l,i,.ae,[],F9 z⟩]) C:=by
 have no:z ∉ L.map (·.l.num):=λh=>by
  have e:L.map (·.l.num)=zs.take i:=by have:=congrArg (W5 Ln.num) m.l;rw [Tt,Tt] at this;rw [show (λx:LX=>x.l.num)=Ln.num∘(λx:LX=>x.l) from rfl,this,show Ln.num∘F9=id from rfl,List.map_id]
  rw [e] at h;obtain ⟨j,B,I⟩:=Xt h;rw [SU] at B;have eY:zs[j]?=some z:=by rw [sW] at I;rw [SH (by omega),I]
  exact Ll Y eY J (by omega) rfl
 have s1:Ae g (upd g d (.own x)):=(Ae.refl g).upd bX;have t1:=(m.t.same (λb o e=>s1 _ _ (s _ _ e))).new (b:=x) (u:=.ins a.Line d []) (by rw [Ak dS.symm];exact nx);have t2:=t1.new (u:=.lst []) nl;have t3:=At.set (P:=[_]) (o':=.ins a.Line d (DT z i l "rests" "" 0 .ae .ae)) t2;have t4:=At.set (P:=[_,_]) (o':=.dK (By (L.map λx=>((.inr x.l.num:Aq),V.ref x.p)) (.inr z) (.ref x))) t3;have t5:=At.perm (C':=(x,.ins a.Line d (DT z i l "rests" "" 0 .ae .ae)) :: (l,.lst []) :: _) t4 (.swap _ _ _);have O:=At.swap (P:=[_,_]) (M:=(D,_) :: L.flatMap (DD a)) (R:=C) t5;refine ⟨?_,by rw [SF,m.len];rfl,?_,λj y B=>?_⟩
 .have ek:By (L.map λx=>((.inr x.l.num:Aq),V.ref x.p)) (.inr z) (.ref x)=(L.map λx=>((.inr x.l.num:Aq),V.ref x.p))++[(.inr z,.ref x)]:=Ib _ (IY (f:=λx:LX=>x.l.num) (v:=λx=>V.ref x.p) no);rw [ek] at O ⊢;rw [sX,Su,To];exact O
 .rw [Su,m.l,T9,J,Su];rfl
 .by_cases lt:j<L.length
  .rw [Zk lt] at B;exact m.x j y B
  .have jl:=(TL.mp B).1;rw [SF,TR] at jl;have I:j=L.length:=by omega
   subst I;rw [List.getElem?_concat_length] at B;cases B;exact ⟨m.len.symm,rfl,rfl⟩
structure Jo (a:An)(H:Hp)(G:Addr)(gs:List (Str×Int))(i:Nat)(L:List RX)(C:Bm):Prop where
 t:At H ((G,.dK (L.map λx=>(.inr x.g.pre,.ref x.p))) :: (L.flatMap (Ec a)++C))
 len:L.length=i
 g:L.map (·.g)=(gs.take i).map C4
theorem Jo.push {a:An}{H J:Hp}{G p d B D I:Addr}{O:List (Str×Int)}{i:Nat}{L:List RX}{C:Bm}{q:Str×Int}(m:Jo a H G O i L C)(Y:O[i]?=some q)(nd:(O.map (·.1)).Nodup)(np:H p=none)(bX:H d=none)(dS:d≠p)(s:Cv [p] (upd (upd H d (.own p)) p (.ins a.aU d [])) J)(ep:J p=some (.ins a.aU d (GY B D I)))(na:(upd (upd H d (.own p)) p (.ins a.aU d [])) B=none)(nb:(upd (upd H d (.own p)) p (.ins a.aU d [])) D=none)(nc:(upd (upd H d (.own p)) p (.ins a.aU d [])) I=none)(ea:J B=some (.lst (C4 q).hs))(eb:J D=some (.lst ((C4 q).js.map V.bl)))(ec:J I=some (.lst ((C4 q).ts.map V.int)))(ab:B≠D)(ac:B≠I)(bc:D≠I) :
  Jo a (upd J G (.dK (By (L.map λx=>((.inr x.g.pre:Aq),V.ref x.p)) (.inr q.1) (.ref p)))) G O (i+1) (L++[⟨p,d,B,D,I,C4 q⟩]) C:=by
 have no:q.1 ∉ L.map (·.g.pre):=λh=>by
  have e:L.map (·.g.pre)=(O.take i).map (·.1):=by have:=congrArg (W5 Gr.pre) m.g;rw [Tt,Tt] at this;exact this
  rw [e,VA] at h;obtain ⟨j,hj,ej⟩:=Xt h;rw [SU,R5] at hj;have eY:(O.map (·.1))[j]?=some q.1:=by rw [sW] at ej;rw [SH (by rw [R5];omega),ej]
  exact Ll nd eY (j:=i) (y:=q.1) (by rw [SK,Y];rfl) (by omega) rfl
 have s1:Ae H (upd H d (.own p)):=(Ae.refl H).upd bX;have t1:=(m.t.same s1).new (b:=p) (u:=.ins a.aU d []) (by rw [Ak dS.symm];exact np);have t2:=t1.init (N:=[(B,.lst (C4 q).hs),(D,.lst ((C4 q).js.map V.bl)),(I,.lst ((C4 q).ts.map V.int))]) s ep (λc mc=>by
  simp only [Si,Tz,or_false] at mc;rcases mc with rfl | rfl | rfl
  .exact ⟨na,ea⟩
  .exact ⟨nb,eb⟩
  .exact ⟨nc,ec⟩) (by simp [ab,ac,bc])
 have t3:=At.set (P:=[_,_,_,_]) (o':=.dK (By (L.map λx=>((.inr x.g.pre:Aq),V.ref x.p)) (.inr q.1) (.ref p))) t2;have t4:=At.swap (P:=[_,_,_,_]) (M:=(G,_) :: L.flatMap (Ec a)) (R:=C) t3;refine ⟨?_,by rw [SF,m.len];rfl,?_⟩
 .have ek:By (L.map λx=>((.inr x.g.pre:Aq),V.ref x.p)) (.inr q.1) (.ref p)=(L.map λx=>((.inr x.g.pre:Aq),V.ref x.p))++[(.inr q.1,.ref p)]:=Ib _ (IY (f:=λx:RX=>x.g.pre) (v:=λx=>V.ref x.p) no);rw [ek] at t4 ⊢;rw [sX,Su,To];exact t4
 .rw [Su,m.g,T9,Y,Su];rfl
def QM (K:R0)(a:An):Sp:=λvs H Q _=>∃(h dx pl aW lt gt:Addr)(long n:Int)(zs:List Str)(ts:List Pr)(R:Bm),vs=[.ref h,.ref pl]/\At H ((h,.ins a.ak dx []) :: R)/\(pl,.ins a.Plan aW (DB long lt n gt))∈R/\G5 K a.Plan/\H lt=some (.tup (zs.map V.str))/\H gt=some (.tup (ts.map AD))/\BR H ts/\zs.Nodup/\(ts.map (·.2.1)).Nodup/\(∀ t∈ts,t.2.1≠Sa ""/\0<=t.2.2/\t.2.2<=1000)/\ts.length<=1000/\zs.length<=60/\0<=n/\n<=60 /\
 ∀ H' X,X.h=h->X.S=LM long zs n (ts.map (·.2))->HT K a H' X R->Av H H'->Q .ae H'
theorem Af4:A8 ["self","plan"] ["self","plan"] (Ab (Au (top 48) 0)):=.of
theorem Ga:Nm (Ab (Au (top 48) 0)) "self":=.of
theorem Hj:Nm (Ab (Au (top 48) 0)) "plan":=.of
theorem Af5:Gm (Ab (Au (top 48) 0)) "AT_SEEKERS":=.of
theorem Af6:Gm (Ab (Au (top 48) 0)) "Seekers":=.of
theorem Af7:Gm (Ab (Au (top 48) 0)) "len":=.of
theorem Af8:Gm (Ab (Au (top 48) 0)) "enumerate":=.of
noncomputable def Jp:Scope:={ kind:=.function,names:=[(".0",.local),("prefix",.local),("many",.local),("Group",.globalImplicit)],isGenerator:=false,isCoroutine:=false,more:=[] }
theorem LN:A1 Jp (Ab (Au (top 48) 0)) ["prefix","many"] ["self","plan"] [none,none]:=A1.mk' rfl (by decide +kernel) (by decide +kernel) (by decide +kernel) (by decide +kernel) rfl (by decide +kernel)
theorem QN:Nm Jp "prefix":=.of
theorem QO:Nm Jp "many":=.of
theorem Af9:Gm Jp "Group":=.of
noncomputable def Jq:Scope:={ kind:=.function,names:=[(".0",.local),("place",.local),("number",.local),("Line",.globalImplicit)],isGenerator:=false,isCoroutine:=false,more:=[] }
theorem LO:A1 Jq (Ab (Au (top 48) 0)) ["place","number"] ["self","plan"] [none,none]:=A1.mk' rfl (by decide +kernel) (by decide +kernel) (by decide +kernel) (by decide +kernel) rfl (by decide +kernel)
theorem QP:Nm Jq "place":=.of
theorem LP:Nm Jq "number":=.of
theorem Aga:Gm Jq "Line":=.of
theorem Agb (F:AW K "__init__" "Hall.__init__" (Au (top 48) 0) f fd)(T:TxtH P w K mg a)(abb:Dk P w K mg base AI 2 a.Line "Line" ["self","number","place"] (PH a))(abc:Dk P w K mg base AI 2 a.aU "Group" ["self","many"] (Iu K a))(abd:Dk P w K mg base AI 2 a.aZ "Seekers" ["self","many","places"] (O2 K a)):AE P w K mg base AI 4 f fd ["self","plan"] (QM K a):=by
 refine F.ok Af4 λaf A outer s H vs Q E hr h=>?_
 .obtain ⟨h,I,pl,aW,lt,gt,B,n,zs,ts,R,rfl,t,jo,pc,ai,eL,lay,nz,ng,gk,gz,zl,n0,n1,q⟩:=h;have hu:=hr.units;refine ⟨_,(@Ai _ _ _ _ _ (Bz (Aa 0 Ga) (Cj (Aa 1 Hj) rfl) rfl)
    (Ai (Bz (Aa 0 Ga) (OG rfl LO (AdZ Af8 T.oC (Ac (Cj (Aa 1 Hj) rfl) Af)) (λcl C fp pins s₂ H₂=>(GI (X:=AF _ _ _ cl C fp pins s₂ H₂) K rfl 2 rfl (BW (A9 0 LO.nd QP.comp) (BW (A9 1 LO.nd LP.comp) DZ)) rfl rfl)) (λcl C fp pins s₂ H₂=>D9) (λcl C fp pins s₂ H₂=>(Aa 1 LP.comp)) (λcl C fp pins s₂ H₂=>(Fi abb Aga.comp hr.d Bj (Ac (Aa 1 LP.comp) (Ac (Aa 0 QP.comp) Af))))) rfl)
    (Ai (Bz (Aa 0 Ga) (OG rfl LN (AaD (Cj (Aa 1 Hj) rfl)) (λcl C fp pins s₂ H₂=>(GI (X:=AF _ _ _ cl C fp pins s₂ H₂) K rfl 2 rfl (BW (A9 0 LN.nd QN.comp) (BW (A9 1 LN.nd QO.comp) DZ)) rfl rfl)) (λcl C fp pins s₂ H₂=>D9) (λcl C fp pins s₂ H₂=>(Aa 0 QN.comp)) (λcl C fp pins s₂ H₂=>(Fi abc Af9.comp hr.d Bj (Ac (Aa 1 QO.comp) Af)))) rfl)
    (Ai (AcO (YA (Nat.add_le_add_left (by decide) _) hu) (Cj (Aa 0 Ga) rfl) (KI Af5 T.pO) (Fi abd Af6 hr.d Bj (Ac (Cj (Aa 1 Hj) rfl) (Ac (AH Bl Af7 T.n_len Bg (Ac (Cj (Aa 1 Hj) rfl) Af)) Af))) rfl)
    (Ai (Bz (Aa 0 Ga) (A7 Af) rfl)
    (Ap (Bz (Aa 0 Ga) (A7 Af) rfl))))))),?_⟩
  try dsimp only [aE,aF]
  walk_at"";refine B8 pl a.Plan aW _ _ rfl (t.tl.get jo) pc.cls pc.l rfl ?_;walk_at"";refine A0 h a.ak I _ rfl t.hd T.hc.cls T.hc.lo (Tp rfl) ?_;have t1:=t.fY (o':=.ins a.ak I (Ao "long" (.int B) []));have p1:Av H (upd H h (.ins a.ak I (Ao "long" (.int B) []))):=.chg t.hd rfl;generalize upd H h (.ins a.ak I (Ao "long" (.int B) []))=H1 at t1 p1 ⊢;walk_at"";refine B8 pl a.Plan aW _ _ rfl (t1.tl.get jo) pc.cls pc.n rfl ?_;walk_at"";refine AX lt _ rfl (.of (p1.t ai)) (λD nD=>?_);refine Ad0 (xs:=zs.map V.str) (λi σ H2=>∃ x y L,σ=[x,y]/\Jn a H2 D zs i L ((h,.ins a.ak I (Ao "long" (.int B) [])) :: R)/\Av H H2) ⟨none,none,[],rfl,⟨t1.new nD,rfl,rfl,λj x h=>by simp at h⟩,p1.trans (.new nD)⟩ (λi σ H2 _ ⟨_,_,_,_,_,p⟩=>.of (p.t ai)) ?_ ?_
  .rintro i v tt σ H2 hx ⟨x0,y0,L,rfl,m,p2⟩ nt;rw [SK] at hx;obtain ⟨z,hz,rfl⟩:=UE.mp hx;have s3:=(Ae.refl H2).upd (o:=.tup [.int i,.str z]) nt;have e3:(upd H2 tt (.tup [.int i,.str z])) tt=some (.tup [.int i,.str z]):=Ah;generalize upd H2 tt (.tup [.int i,.str z])=H3 at s3 e3 ⊢;walk_at"";refine Bw tt _ rfl (.of e3) rfl ?_;walk_at"";intro x dU nx bX dS;refine D5 x dU z i rfl ⟨Ah,λl nl=>⟨rfl,?_⟩⟩;have fk:H3 l=none:=by
    have z1:∀{G:Hp}{b c:Addr}{o:HO},(upd G b o) c=none->G c=none:=λ{G b c o} e=>by
     by_cases z:c=b
     .rw [z,Ah] at e;cases e
     .rw [Ak z] at e;exact e
    exact z1 (z1 nl)
   have sC:Ae H3 (upd (upd (upd (upd H3 dU (.own x)) x (.ins a.Line dU [])) l (.lst [])) x (.ins a.Line dU (DT z i l "rests" "" 0 .ae .ae))):=λb o e=>by
    rw [Ak (Be e nx),Ak (Be e fk),Ak (Be e nx),Ak (Be e bX)];exact e
   have r:=m.push hz nz s3 nx bX dS nl;have hD:=sC _ _ (s3 _ _ m.t.hd);walk_at"";refine CZ _ (.inr z) rfl ⟨hD,?_,_,_,_,rfl,r,p2.trans ((Av.of s3).trans ((Av.of sC).trans (.chg hD rfl)))⟩;rw [R8,R5,m.len];have:=(TL.mp hz).1;omega
  .intro σ H2 zq;obtain ⟨x0,y0,L,rfl,m,p2⟩:=zq;rw [R5] at m;have ml:=m.l;rw [TF] at ml;have ji:H2 h=some (.ins a.ak I (Ao "long" (.int B) [])):=m.t.get (by simp);walk_at"";refine A0 h a.ak I _ rfl ji T.hc.cls T.hc.li (Tp rfl) ?_;have t3:=At.set (P:=(D,_) :: L.flatMap (DD a)) (o':=.ins a.ak I (Ao "lines" (.ref D) (Ao "long" (.int B) []))) m.t;have p3:Av H (upd H2 h (.ins a.ak I (Ao "lines" (.ref D) (Ao "long" (.int B) [])))):=p2.trans (.chg ji rfl);generalize upd H2 h (.ins a.ak I (Ao "lines" (.ref D) (Ao "long" (.int B) [])))=H3 at t3 p3 ⊢;have abe:H3 pl=some (.ins a.Plan aW (DB B lt n gt)):=t3.get (S6 _ (SI _ jo));walk_at"";refine B8 pl a.Plan aW _ _ rfl abe pc.cls pc.g rfl ?_;refine BB gt rfl ⟨_,.of (p3.t eL)⟩ (λG nG=>?_);refine Ad1 (xs:=ts.map AD) (λi σ H4=>∃ x y J,σ=[x,y]/\Jo a H4 G (ts.map (·.2)) i J ((D,.dK (L.map λx=>(.inr x.l.num,.ref x.p))) :: L.flatMap (DD a)++(h,.ins a.ak I (Ao "lines" (.ref D) (Ao "long" (.int B) []))) :: R)/\Av H H4) ⟨none,none,[],rfl,⟨t3.new nG,rfl,rfl⟩,p3.trans (.new nG)⟩ (λi σ H4 _ ⟨_,_,_,_,_,p⟩=>.of (p.t eL)) ?_ ?_
   .intro i v σ H4 hx zq;obtain ⟨x0,y0,J,rfl,eM,p4⟩:=zq;rw [SK] at hx;obtain ⟨O,fS,rfl⟩:=UE.mp hx;have g3:=gk O (SV fS);have iy:=p4.t (lay O (SV fS));walk_at"";refine ⟨O.1,_,rfl,.of iy,rfl,?_⟩;walk_at"";intro x dU nx bX dS;refine ⟨x,O.2.2,a.aU,dU,rfl,Ah,T.gc,g3.2.1,g3.2.2,λH5 ra rb rc s5 e5 na nb nc ea eb ec ab ac bc=>⟨rfl,?_⟩⟩;have r:=eM.push (q:=O.2) (by rw [SK,fS];rfl) (by rw [Tt];exact ng) nx bX dS s5 e5 na nb nc ea eb ec ab ac bc;have s4:Ae H4 H5:=λb o e=>s5 b o (λz=>by rw [SA.mp z,nx] at e;cases e) (by rw [Ak (Be e nx),Ak (Be e bX)];exact e);have hG:=s4 _ _ eM.t.hd;walk_at"";refine ⟨_,.inr O.2.1,rfl,hG,?_,_,_,_,rfl,r,p4.trans ((Av.of s4).trans (.chg hG rfl))⟩;rw [R8,R5,eM.len];have:=(TL.mp fS).1;omega
   .intro σ H4 zq;obtain ⟨x0,y0,J,rfl,eM,p4⟩:=zq;rw [R5] at eM;have gl:=eM.g;rw [show (ts.map (·.2)).take ts.length=ts.map (·.2) by rw [Vg (by rw [R5];exact Sh _)]] at gl;have t4:=eM.t;have fX:H4 h=some (.ins a.ak I (Ao "lines" (.ref D) (Ao "long" (.int B) []))):=t4.get (by simp);generalize hdl:(HO.dK (L.map λx=>((.inr x.l.num:Aq),V.ref x.p)))=dl at t4;walk_at"";refine A0 h a.ak I _ rfl fX T.hc.cls T.hc.sw (Tp rfl) ?_;have t4':At H4 (((G,.dK (J.map λx=>(.inr x.g.pre,.ref x.p))) :: (J.flatMap (Ec a)++((D,dl) :: L.flatMap (DD a))))++(h,.ins a.ak I (Ao "lines" (.ref D) (Ao "long" (.int B) []))) :: R):=by
     rw [V4,To];exact t4
    have t5:=At.set (o':=.ins a.ak I (Ao "switches" (.ref G) (Ao "lines" (.ref D) (Ao "long" (.int B) [])))) t4';have p5:Av H (upd H4 h (.ins a.ak I (Ao "switches" (.ref G) (Ao "lines" (.ref D) (Ao "long" (.int B) []))))):=p4.trans (.chg fX rfl);generalize upd H4 h (.ins a.ak I (Ao "switches" (.ref G) (Ao "lines" (.ref D) (Ao "long" (.int B) []))))=H5 at t5 p5 ⊢;have qo:H5 pl=some (.ins a.Plan aW (DB B lt n gt)):=t5.get (S6 _ (SI _ jo));walk_at"";refine B8 pl a.Plan aW _ _ rfl qo pc.cls pc.s rfl ?_;walk_at"";refine B8 pl a.Plan aW _ _ rfl qo pc.cls pc.n rfl ?_;walk_at"";refine R9 (AX lt _ rfl (.inr (.of (p5.t ai))) ?_);walk_at"";rw [R5];intro x dU nx bX dS;have t6:=(t5.same ((Ae.refl H5).upd (o:=.own x) bX)).new (b:=x) (u:=.ins a.aZ dU []) (by rw [Ak dS.symm];exact nx);refine B8 x n zs.length a.aZ dU rfl Ah T.sc n0 (by omega) (λH7 ra rb rc rs cv x7 k7 na nb nc ns nw=>⟨rfl,?_⟩);have s7:Ae H5 H7:=λb o e=>x7 b o (λz=>by rw [SA.mp z,nx] at e;cases e) (by rw [Ak (Be e nx),Ak (Be e bX)];exact e);obtain ⟨ay,ke⟩:=k7.ins;obtain ⟨sx,jq⟩:∃ sx:SX,sx=⟨x,ay,ra,rb,rc,rs,cv,Fv n zs.length⟩:=⟨_,rfl⟩;have t7:At H7 (Fp a sx++(((G,.dK (J.map λx=>(.inr x.g.pre,.ref x.p))) :: (J.flatMap (Ec a)++((D,dl) :: L.flatMap (DD a))))++(h,.ins a.ak I (Ao "switches" (.ref G) (Ao "lines" (.ref D) (Ao "long" (.int B) [])))) :: R)):=by
     rw [jq];exact t6.init (N:=[(ra,.lst (Ss n.toNat .ae)),(rb,.lst ((Ss n.toNat false).map V.bl)),(rc,.lst ((Ss n.toNat 0).map V.int)),(rs,.lst ((Ss n.toNat 0).map V.int)),(cv,.lst ((Ss n.toNat 0).map V.int))]) x7 ke (λc mc=>by
      simp only [Si,Tz,or_false] at mc;rcases mc with rfl | rfl | rfl | rfl | rfl
      .exact ⟨na,k7.ha⟩
      .exact ⟨nb,k7.hb⟩
      .exact ⟨nc,k7.hc⟩
      .exact ⟨ns,k7.hs_⟩
      .exact ⟨nw,k7.hw⟩) k7.ap
    have g7:=s7 _ _ (t5.get (S6 _ SS));have qp:=s7 _ _ (t5.get (V5 _ SS));walk_at"";refine B8 h a.ak I _ _ rfl g7 T.hc.cls T.hc.sw rfl ?_;walk_at"";refine AX G _ rfl (.inl ⟨_,.inr "",qp,rfl,(by rw [R5,eM.len,R8];omega),rfl⟩) ?_;have nos:Bk (J.map λx=>((.inr x.g.pre:Aq),V.ref x.p)) (.inr (Sa ""))=none:=IY (f:=λx:RX=>x.g.pre) (v:=λx=>V.ref x.p) λmm=>by
     have e:J.map (·.g.pre)=ts.map (·.2.1):=by have:=congrArg (W5 Gr.pre) gl;rw [Tt,Tt,Tt] at this;exact this
     rw [e] at mm;obtain ⟨O,mt,et⟩:=Sx.mp mm;exact (gk O mt).1 et
    rw [Ib _ nos];have t8:=At.set (P:=Fp a sx) (o':=.dK ((J.map λx=>((.inr x.g.pre:Aq),V.ref x.p))++[(.inr (Sa ""),.ref x)])) t7;have p8:Av H (upd H7 G (.dK ((J.map λx=>((.inr x.g.pre:Aq),V.ref x.p))++[(.inr (Sa ""),.ref x)]))):=p5.trans ((Av.of s7).trans (.chg qp rfl));generalize upd H7 G (.dK ((J.map λx=>((.inr x.g.pre:Aq),V.ref x.p))++[(.inr (Sa ""),.ref x)]))=H8 at t8 p8 ⊢;generalize hkv:HO.dK ((J.map λx=>((.inr x.g.pre:Aq),V.ref x.p))++[(.inr (Sa ""),.ref x)])=jr at t8;have t9:At H8 ((h,.ins a.ak I (Ao "switches" (.ref G) (Ao "lines" (.ref D) (Ao "long" (.int B) [])))) :: (D,dl) :: (G,jr) :: (Fp a sx++(J.flatMap (Ec a)++(L.flatMap (DD a)++R)))):=by
     have u1:At H8 ((Fp a sx++((G,jr) :: (J.flatMap (Ec a)++((D,dl) :: L.flatMap (DD a)))))++(h,.ins a.ak I (Ao "switches" (.ref G) (Ao "lines" (.ref D) (Ao "long" (.int B) [])))) :: R):=by rw [To];exact t8
     have u2:=u1.front;have u3:At H8 (((h,.ins a.ak I (Ao "switches" (.ref G) (Ao "lines" (.ref D) (Ao "long" (.int B) [])))) :: (Fp a sx++((G,jr) :: J.flatMap (Ec a))))++(D,dl) :: (L.flatMap (DD a)++R)):=by rw [To,V4,To,V4] at u2;rw [V4,To,V4];exact u2
     have u4:=u3.front;have u5:At H8 (((D,dl) :: (h,.ins a.ak I (Ao "switches" (.ref G) (Ao "lines" (.ref D) (Ao "long" (.int B) [])))) :: Fp a sx)++(G,jr) :: (J.flatMap (Ec a)++(L.flatMap (DD a)++R))):=by rw [V4,To,V4] at u4;exact u4
     have u6:=u5.front;exact u6.perm (((Xy _ _ _).trans (Xz _ (Xy _ _ _))).trans (Xy _ _ _))
    walk_at"";refine ⟨AA,λY qq=>?_⟩;have ta:=t9.new (u:=.lst (([]:List Str).map V.str)) qq;have pa:Av H (upd H8 Y (.lst [])):=p8.trans (.new qq);change At (upd H8 Y (.lst [])) _ at ta;generalize upd H8 Y (.lst [])=Ha at ta pa ⊢;walk_at"";refine A0 h a.ak I _ rfl ta.tl.hd T.hc.cls T.hc.qu (Tp rfl) ?_;have tb:=At.set (P:=[_]) (o':=.ins a.ak I (Ao "queue" (.ref Y) (Ao "switches" (.ref G) (Ao "lines" (.ref D) (Ao "long" (.int B) []))))) ta;have pb:=pa.trans (Av.chg (u:=.ins a.ak I (Ao "queue" (.ref Y) (Ao "switches" (.ref G) (Ao "lines" (.ref D) (Ao "long" (.int B) []))))) ta.tl.hd rfl);generalize upd Ha h (.ins a.ak I (Ao "queue" (.ref Y) (Ao "switches" (.ref G) (Ao "lines" (.ref D) (Ao "long" (.int B) [])))))=Hb at tb pb ⊢;walk_at"";refine ⟨AA,λda qr=>?_⟩;have tc:=tb.new (u:=.lst []) qr;have qt:Av H (upd Hb da (.lst [])):=pb.trans (.new qr);generalize upd Hb da (.lst [])=Hc at tc qt ⊢;walk_at"";refine A0 h a.ak I _ rfl tc.tl.tl.hd T.hc.cls T.hc.dn (Tp rfl) ?_;have td:=At.set (P:=[_,_]) (o':=.ins a.ak I (IW B D G Y da)) tc;have pd:=qt.trans (Av.chg (u:=.ins a.ak I (IW B D G Y da)) tc.tl.tl.hd rfl);change At (upd Hc h (.ins a.ak I (Ao "done" (.ref da) (Ao "queue" (.ref Y) (Ao "switches" (.ref G) (Ao "lines" (.ref D) (Ao "long" (.int B) []))))))) _ at td;change Av H (upd Hc h (.ins a.ak I (Ao "done" (.ref da) (Ao "queue" (.ref Y) (Ao "switches" (.ref G) (Ao "lines" (.ref D) (Ao "long" (.int B) []))))))) at pd;generalize upd Hc h (.ins a.ak I (Ao "done" (.ref da) (Ao "queue" (.ref Y) (Ao "switches" (.ref G) (Ao "lines" (.ref D) (Ao "long" (.int B) []))))))=Hd at td pd ⊢;have te:=At.swap (P:=[_,_]) (M:=[_,_,_]) (At.perm (C':=(Y,_) :: (da,_) :: _) td (.swap _ _ _));have eS:(⟨h,I,D,G,Y,da,B,L,J,sx,[],[]⟩:HX).S=LM B zs n (ts.map (·.2)):=by show (⟨B,L.map (·.l),J.map (·.g),sx.k,[],[]⟩:PS)=_;rw [ml,gl,jq];rfl
    refine q Hd ⟨h,I,D,G,Y,da,B,L,J,sx,[],[]⟩ rfl eS ⟨?_,?_⟩ pd
    .subst jq;rw [<- hkv,<- hdl] at te;exact te
    .have en:L.map (·.l.num)=zs:=by
      have:=congrArg (W5 Ln.num) ml;rw [Tt,Tt,show Ln.num∘F9=id from rfl,List.map_id] at this;exact this
     have eg:J.map (·.g.pre)=ts.map (·.2.1):=by have:=congrArg (W5 Gr.pre) gl;rw [Tt,Tt,Tt] at this;exact this
     have one:∀ g∈J,∃ O∈ts,g.g=C4 O.2:=λg iz=>by
      have:g.g∈(ts.map (·.2)).map C4:=by rw [<- gl];exact Sx.mpr ⟨g,iz,rfl⟩
      obtain ⟨q2,m2,e2⟩:=Sx.mp this;obtain ⟨O,m3,e3⟩:=Sx.mp m2;exact ⟨O,m3,by rw [e3,e2]⟩
     refine ⟨by show (L.map (·.l.num)).Nodup;rw [en];exact nz,by show (J.map (·.g.pre)).Nodup;rw [eg];exact ng,λg iz=>?_,λj y hj=>?_,λg iz=>?_,?_⟩
     .obtain ⟨O,m3,e3⟩:=one g iz;rw [e3];exact (gk O m3).1
     .obtain ⟨y1,y2,y3⟩:=m.x j y hj;have:y.l∈zs.map F9:=by rw [<- ml];exact Sx.mpr ⟨y,SV hj,rfl⟩
      obtain ⟨z,_,ez⟩:=Sx.mp this;exact ⟨y1,by rw [y2,<- ez];trivial,by rw [y3,<- ez];exact .ae,by rw [<- ez];rfl,by rw [<- ez];exact S7 _⟩
     .obtain ⟨O,m3,e3⟩:=one g iz;have:=gk O m3;rw [e3];exact ⟨by simp [C4],by simp [C4],by simp only [C4,Ud];omega⟩
     .show PK sx.k;rw [jq];exact ⟨by simp [Fv],by simp [Fv],by simp [Fv],by simp [Fv],by simp only [Fv,Ud];omega⟩
theorem At.add {H d:Hp}{C:Bm}{b:Addr}{u:HO}(t:At H C)(s:Ae H d)(n:H b=none)(h:d b=some u):At d ((b,u) :: C):=⟨λc m=>by
 rcases Si.mp m with rfl | m
 .exact h
 .exact s _ _ (t.at_ c m),Te.mpr ⟨t.free n,t.nd⟩⟩
theorem QQ {a:An}{X:HX}{R:Bm}:Ed a X R=Ed a X []++R:=by unfold Ed;simp only [To,S5]
theorem HT.setIn {K:R0}{a:An}{H:Hp}{X:HX}{R P':Bm}{r:Addr}{u u':HO}(t:HT K a H X (P'++(r,u) :: R))(k:IT u=false):HT K a (upd H r u') X (P'++(r,u') :: R)/\Av H (upd H r u'):=by have d:=t.t;rw [QQ,<- To] at d;have B:H r=some u:=d.get (S6 _ SS);have p:Av H (upd H r u'):=.chg B k;have g:=At.set (o':=u') d;rw [To,<- QQ] at g;exact ⟨⟨g,t.ok.aQ p⟩,p⟩
structure KpC (K:R0)(C:Addr):Prop where
 cls:B7 K C
 pl:Bn K C "plan"
 ha:Bn K C "own_hall"
 tb:Bn K C "taken_back"
structure DkC (K:R0)(C:Addr):Prop where
 cls:B7 K C
 kp:Bn K C "keeper"
structure TxtX (P:R7)(w:R3)(K:R0)(mg:Str->Option Value)(a:An):Prop extends Afk P w K mg a,TxtR P w K mg a where
 qv:mg "zip"=none
 kc:KpC K a.Keeper
 dc:DkC K a.aV
 pc:G5 K a.Plan
 eN:mg "NoRow"=some (.ref a.aO)
 jt:Ts K a.aO [.type "ValueError",.type "Exception",.type "BaseException",.type "object"] "ValueError.__new__"=true
 iA:mg "ROWS"=some (.ref a.dD)
 rows:∃ kvs tw,EB P w K a.dD kvs/\Bk kvs (.inr "waiting")=some (.ref tw)/\∀ H,A5 K H tw []
 ju:mg "ANSWERS"=some (.ref a.d8)
 qw:∃ t,mg "NONE_WORD"=some (S2 "none" t)
def Fw (pl h tb:Addr):List (Str×V):=[("plan",.ref pl),("own_hall",.ref h),("taken_back",.ref tb)]
theorem Co.perm {long sk:Int}{zs zs':List Str}{gz gz':List (Str×Int)}(g:Co long sk zs gz)(p:zs'.Perm zs)(q:gz'.Perm gz):Co long sk zs' gz':=by obtain ⟨d,⟨B,D,H⟩,I,J,L⟩:=g;exact ⟨d,⟨by rw [p.length_eq];exact B,λz m=>D z (p.mem_iff.mp m),p.nodup_iff.mpr H⟩,by rw [q.length_eq];exact I,λt m=>J t (q.mem_iff.mp m),(q.map _).nodup_iff.mpr L⟩
def QR (K:R0)(a:An):Sp:=λvs H Q _=>∃(k ay p:Addr)(R:Bm)(long sk:Int)(zs:List Str)(gz:List (Str×Int)),vs=[.ref k,.ref p]/\At H ((k,.ins a.Keeper ay []) :: R)/\LG K H a.Plan p long sk zs gz/\Co long sk zs gz /\
 ∀ H' X pl tb,HT K a H' X ((k,.ins a.Keeper ay (Fw pl X.h tb)) :: R)->X.q=[]->Av H H'->Q .ae H'
theorem QS:A8 ["self","plan"] ["self","plan"] (Ab (Au (top 61) 0)):=.of
theorem Jr:Nm (Ab (Au (top 61) 0)) "self":=.of
theorem Js:Nm (Ab (Au (top 61) 0)) "plan":=.of
theorem Agc:Gm (Ab (Au (top 61) 0)) "Hall":=.of
theorem Agd:Gm (Ab (Au (top 61) 0)) "Plan":=.of
theorem QT:Gm (Ab (Au (top 61) 0)) "list":=.of
theorem Age (F:AW K "__init__" "Keeper.__init__" (Au (top 61) 0) f fd)(T:TxtX P w K mg a)(lF:Dk P w K mg base (Bd P w) 3 a.Plan "Plan" ["self","long","lines","seekers","groups"] (Lb a K))(abf:Dk P w K mg base AI 4 a.ak "Hall" ["self","plan"] (QM K a)):AE P w K mg base (Bd P w) 6 f fd ["self","plan"] (QR K a):=by
 refine F.cw QS λaf A outer s H vs Q E hr h=>?_
 .obtain ⟨k,D,p,R,B,Y,zs,gz,rfl,t,J,gd,q⟩:=h;have hu:=hr.units;have nd:=QS.nd;obtain ⟨aW,lt,gt,ts,hp,ai,eL,lay,rfl⟩:=J.ins;have L:DR B Y zs ts:=Co.iff.mp gd;refine ⟨_,(@Ai _ _ _ _ _ (Bz (Aa 0 Jr) (Fi lF Agd hr.d C8 (Ac (Cj (Aa 1 Js) rfl) (Ac (CF (Kg rfl) QT T.gM J9 (Ac (Cj (Aa 1 Js) rfl) Af)) (Ac (Cj (Aa 1 Js) rfl) (Ac (CF (Kg rfl) QT T.gM J9 (Ac (Cj (Aa 1 Js) rfl) Af)) Af))))) rfl)
    (Ai (Bz (Aa 0 Jr) (Fi abf Agc hr.d Bj (Ac (Cj (Aa 0 Jr) rfl) Af)) rfl)
    (Ap (Bz (Aa 0 Jr) (A7 Af) rfl)))),?_⟩
  try dsimp only [aE,aF]
  walk_at"";refine B8 p a.Plan aW _ _ rfl hp J.pc.cls J.pc.l rfl ?_;walk_at"";refine B8 p a.Plan aW _ _ rfl hp J.pc.cls J.pc.n rfl ?_;walk_at"";refine Sd (AX lt _ rfl (.inr (.of ai)) (λl1 n1=>?_));have s1:=(Ae.refl H).upd (o:=.lst (zs.map V.str)) n1;have e1:(upd H l1 (.lst (zs.map V.str))) l1=some (.lst (zs.map V.str)):=Ah;have c1:=t.add s1 n1 e1;generalize upd H l1 (.lst (zs.map V.str))=H1 at s1 e1 c1 ⊢;walk_at"";refine B8 p a.Plan aW _ _ rfl (s1 _ _ hp) J.pc.cls J.pc.s rfl ?_;walk_at"";refine B8 p a.Plan aW _ _ rfl (s1 _ _ hp) J.pc.cls J.pc.g rfl ?_;walk_at"";refine Sd (AX gt _ rfl (.inr (.of (s1 _ _ eL))) (λl2 n2=>?_));have s2:=(Ae.refl H1).upd (o:=.lst (ts.map AD)) n2;have e2:(upd H1 l2 (.lst (ts.map AD))) l2=some (.lst (ts.map AD)):=Ah;have c2:=c1.add s2 n2 e2;generalize upd H1 l2 (.lst (ts.map AD))=H2 at s2 e2 c2 ⊢;have fW:=s1.trans s2;walk_at"";intro pl I npl qx ndq;have qy:(upd H2 I (.own pl)) pl=none:=by rw [Ak (S3 ndq)];exact npl
  have c3:=(c2.new (u:=.own pl) qx).new (u:=.ins a.Plan I []) qy;have s3:Ae H2 (upd (upd H2 I (.own pl)) pl (.ins a.Plan I [])):=((Ae.refl H2).upd qx).upd qy;have e3:(upd (upd H2 I (.own pl)) pl (.ins a.Plan I [])) pl=some (.ins a.Plan I []):=Ah;generalize upd (upd H2 I (.own pl)) pl (.ins a.Plan I [])=H3 at c3 s3 e3 ⊢;have qz:BR H3 ts:=(lay.same fW).same s3;obtain ⟨g1,⟨⟨z1,z2⟩,oz,nz⟩,lg,og,ng⟩:=id L;have dj:∀ z∈zs,Ok z:=λz m=>⟨(oz z m).2.asc,by have:=(oz z m).1;omega⟩;have bQ:∀ t∈ts,Ok t.2.1:=λt m=>⟨(og t m).2.1.asc,by have:=(og t m).1;omega⟩;refine J2 pl B l1 Y l2 a.Plan I zs ts rfl ⟨e3,T.pc,⟨s3 _ _ (s2 _ _ e1),s3 _ _ e2,qz,dj,bQ,by omega,by omega⟩,λ_ H4 lK lL jv iB x4 e4 abg abh g5 ae1 qA _=>?_,λng=>absurd L ng⟩;have t4:=At.init (N:=[]) c3 x4 e4 (λc m=>nomatch m) .nil;have p4:Av H3 H4:=At.aQ (C:=[(pl,.ins a.Plan I [])]) (c3.sub (.cons₂ _ (List.nil_sublist _))) x4 (λw m=>by simpa using m) (λc m=>by rw [SA.mp m];rfl);have abi:BR H4 iB:=λt m=>p4.t (qz t (qA.mem_iff.mp m));walk_at"";have qB:H4 k=some (.ins a.Keeper D []):=t4.tl.tl.tl.tl.hd;refine A0 k a.Keeper D _ rfl qB T.kc.cls T.kc.pl (Tp rfl) ?_;rw [show Ao "plan" (.ref pl) []=[((Sa "plan"),V.ref pl)] from rfl];have t5:=At.set (P:=[(pl,HO.ins a.Plan I (DB B lK Y lL)),(I,.own pl),(l2,.lst (ts.map AD)),(l1,.lst (zs.map V.str))]) (o':=.ins a.Keeper D [("plan",.ref pl)]) t4;have p5:Av H4 (upd H4 k (.ins a.Keeper D [((Sa "plan"),V.ref pl)])):=.chg qB rfl;generalize upd H4 k (.ins a.Keeper D [((Sa "plan"),V.ref pl)])=H5 at t5 p5 ⊢;have hk5:H5 k=some (.ins a.Keeper D [("plan",.ref pl)]):=t5.tl.tl.tl.tl.hd;walk_at"";refine B8 k a.Keeper D _ _ rfl hk5 T.kc.cls T.kc.pl rfl ?_;walk_at"";intro h O nh qC i8;have qD:(upd H5 O (.own h)) h=none:=by rw [Ak (S3 i8)];exact nh
  have t6:=(t5.new (u:=.own h) qC).new (u:=.ins a.ak O []) qD;have s6:Ae H5 (upd (upd H5 O (.own h)) h (.ins a.ak O [])):=((Ae.refl H5).upd qC).upd qD;generalize upd (upd H5 O (.own h)) h (.ins a.ak O [])=H6 at t6 s6 ⊢;have jw:Av H4 H6:=p5.trans (.of s6);have g4:DR B Y jv iB:=by have:=gd.perm (zs':=jv) (gz':=iB.map (·.2)) g5 (qA.map _);exact Co.iff.mp this
  obtain ⟨f1,⟨⟨y1,y2⟩,oy,ny⟩,ly,ogy,ngy⟩:=id g4;refine ⟨h,O,pl,I,lK,lL,B,Y,jv,iB,_,rfl,t6,by simp,T.pc,jw.t abg,jw.t abh,λt m=>jw.t (abi t m),ny,ngy,λt m=>?_,by omega,y2,by omega,by omega,λH7 X eh eS t7 p7=>?_⟩
  .have:=ogy t m;refine ⟨λc=>?_,by omega,by omega⟩;rw [c] at this;exact absurd this.1.1 (by decide)
  have eq0:X.q=[]:=by
   have:X.S.q=(LM B jv Y (iB.map (·.2))).q:=by rw [eS]
   exact this
  have qE:HT K a H7 X ([(O,HO.own h),(pl,.ins a.Plan I (DB B lK Y lL)),(I,.own pl),(l2,.lst (ts.map AD)),(l1,.lst (zs.map V.str))]++(k,.ins a.Keeper D [("plan",.ref pl)]) :: R):=t7;have t8:HT K a H7 X ((k,.ins a.Keeper D [("plan",.ref pl)]) :: R):=qE.sub (List.sublist_append_right _ _);have hk7:H7 k=some (.ins a.Keeper D [("plan",.ref pl)]):=t8.t.rest.hd;clear t7 qE t6 t5 t4
  walk_at"";refine A0 k a.Keeper D _ rfl hk7 T.kc.cls T.kc.ha (Tp rfl) ?_;rw [show Ao "own_hall" (.ref h) [((Sa "plan"),V.ref pl)]=[((Sa "plan"),V.ref pl),((Sa "own_hall"),.ref h)] from rfl];obtain ⟨t9,p9⟩:=HT.setIn (P':=[]) (u':=.ins a.Keeper D [((Sa "plan"),V.ref pl),((Sa "own_hall"),.ref h)]) t8 rfl;generalize upd H7 k (.ins a.Keeper D [((Sa "plan"),V.ref pl),((Sa "own_hall"),.ref h)])=H9 at t9 p9 ⊢;walk_at"";refine ⟨AA,λtb qF=>?_⟩;have tA:=t9.same ((Ae.refl H9).upd (o:=.lst []) qF);have sA:=(Ae.refl H9).upd (o:=.lst []) qF;generalize upd H9 tb (.lst [])=HA at tA sA ⊢;have hkA:HA k=some (.ins a.Keeper D [((Sa "plan"),V.ref pl),((Sa "own_hall"),.ref h)]):=tA.t.rest.hd;walk_at"";refine A0 k a.Keeper D _ rfl hkA T.kc.cls T.kc.tb (Tp rfl) ?_;rw [show Ao "taken_back" (.ref tb) [((Sa "plan"),V.ref pl),((Sa "own_hall"),.ref h)]=Fw pl h tb from rfl];obtain ⟨tB,pB⟩:=HT.setIn (P':=[]) (u':=.ins a.Keeper D (Fw pl h tb)) tA rfl;rw [<- eh] at tB pB ⊢;exact q _ X pl tb tB eq0 ((Av.of fW).trans ((Av.of s3).trans (p4.trans (jw.trans (p7.trans (p9.trans ((Av.of sA).trans pB)))))))
def QU (K:R0)(a:An):Sp:=λvs H Q E=>∃(d bp:Addr)(t:Str)(R:Bm),vs=[.ref d,.str t]/\At H ((d,.ins a.aV bp []) :: R)/\F7 t /\
 match Cw t with
 | none=>∀ H',Ae H H'->E (.ref a.ax) none H'
 | some (long,zs,sk,gz)=>(Co long sk zs gz->∀ H' X k ay pl tb,HT K a H' X ((k,.ins a.Keeper ay (Fw pl X.h tb)) :: (d,.ins a.aV bp [("keeper",.ref k)]) :: R)->X.q=[]->Av H H'->Q .ae H')/\(¬ Co long sk zs gz->∀ H',Ae H H'->E (.ref a.av) none H')
theorem QV:A8 ["self","text"] ["self","text"] (Ab (Au (top 91) 0)):=.of
theorem Agf:Nm (Ab (Au (top 91) 0)) "self":=.of
theorem Agg:Nm (Ab (Au (top 91) 0)) "text":=.of
theorem Agh:Gm (Ab (Au (top 91) 0)) "Keeper":=.of
theorem Agi:Gm (Ab (Au (top 91) 0)) "read_plan":=.of
theorem Agj (F:AW K "__init__" "Desk.__init__" (Au (top 91) 0) f fd)(T:TxtX P w K mg a)(gf:Bf P w K mg base (Bd P w) 5 "read_plan" ["text"] (LH K a))(L:Dk P w K mg base (Bd P w) 6 a.Keeper "Keeper" ["self","plan"] (QR K a)):AE P w K mg base (Bd P w) 8 f fd ["self","text"] (QU K a):=by
 refine F.cw QV λaf A outer s H vs Q E O h=>?_
 .obtain ⟨d,Y,z,R,rfl,t,tok,q⟩:=h;have hu:=O.units;have nd:=QV.nd;refine ⟨_,(@Ap _ _ _ (Bz (Aa 0 Agf) (Fi L Agh O.d C8 (Ac (Bh gf Agi O.d C8 (Ac (Aa 1 Agg) Af)) Af)) rfl)),?_⟩;try dsimp only [aE,aF]
  walk_at"";refine ⟨tok,?_⟩;cases er:Cw z with
  | none =>
   rw [er] at q;exact q
  | some pp =>
   obtain ⟨B,zs,sk,gz⟩:=pp;rw [er] at q;obtain ⟨q1,q2⟩:=q;refine ⟨λgd I p zs' J s1 np pa pm _ pg _=>?_,q2⟩;walk_at"";intro k g nk qG lG;have qH:(upd I g (.own k)) k=none:=by rw [Ak (S3 lG)];exact nk
   have t2:=((t.same s1).new (u:=.own k) qG).new (u:=.ins a.Keeper g []) qH;have D:Ae I (upd (upd I g (.own k)) k (.ins a.Keeper g [])):=((Ae.refl I).upd qG).upd qH;generalize upd (upd I g (.own k)) k (.ins a.Keeper g [])=H2 at t2 D ⊢;have pa2:LG K H2 a.Plan p B sk zs' J:=by obtain ⟨dx,lt,gt,ts,h1,h2,h3,h4,h5⟩:=pa.ins;exact ⟨⟨dx,lt,gt,ts,D _ _ h1,D _ _ h2,D _ _ h3,h4.same D,h5⟩,pa.pc⟩
   refine NF k g p _ B sk zs' J rfl ⟨t2,pa2,gd.perm pm pg,λH3 X pl tb t3 eq p3=>?_⟩;have f9:H3 d=some (.ins a.aV Y []):=t3.t.rest.tl.tl.hd;walk_at"";refine A0 d a.aV Y _ rfl f9 T.dc.cls T.dc.kp (Tp rfl) ?_;rw [show Ao "keeper" (.ref k) []=[((Sa "keeper"),V.ref k)] from rfl];obtain ⟨t4,p4⟩:=HT.setIn (P':=[(k,HO.ins a.Keeper g (Fw pl X.h tb)),(g,.own k)]) (u':=.ins a.aV Y [((Sa "keeper"),V.ref k)]) t3 rfl;exact q1 gd _ X k g pl tb (t4.sub (.cons₂ _ (.cons _ (.refl _)))) eq ((Av.of (s1.trans D)).trans (p3.trans p4))
def BC:Str:="waiting"
def QW:Sp:=λvs H Q _=>vs=[.str BC]/\∀ H' l,Ae H H'->H l=none->H' l=some (.lst [.str BC])->Q (.ref l) H'
def QX (K:R0):Sp:=λvs H Q _=>∃ l,vs=[.ref l]/\AZ K H l []/\Q (.str "none") H
def QY (K:R0)(a:An):Sp:=λvs H Q _=>∃(k ay pl tb ws:Addr)(X:HX)(R:Bm),vs=[.ref k,.ref ws]/\HT K a H X ((k,.ins a.Keeper ay (Fw pl X.h tb)) :: R)/\X.q=[]/\∀ H',Ae H H'->Q (.str "none") H'
def QZ (K:R0)(a:An):Sp:=λvs H Q _=>∃(d bp k ay pl tb:Addr)(X:HX)(R:Bm),vs=[.ref d,.str BC]/\HT K a H X ((k,.ins a.Keeper ay (Fw pl X.h tb)) :: (d,.ins a.aV bp [("keeper",.ref k)]) :: R)/\X.q=[]/\∀ H',Ae H H'->Q (.str "none") H'
theorem Q0:A8 ["row","words","kinds","kind","word"] ["row"] (Ab (top 66)):=.of
theorem Q2:Nm (Ab (top 66)) "row":=.of
theorem Ei:Nm (Ab (top 66)) "words":=.of
theorem Jt:Nm (Ab (top 66)) "kinds":=.of
theorem Q3:Nm (Ab (top 66)) "kind":=.of
theorem Q4:Nm (Ab (top 66)) "word":=.of
theorem Agk:Gm (Ab (top 66)) "zip":=.of
theorem Agl:Gm (Ab (top 66)) "check_word":=.of
theorem LQ:Gm (Ab (top 66)) "len":=.of
theorem LR:Gm (Ab (top 66)) "NoRow":=.of
theorem Q5:Gm (Ab (top 66)) "ROWS":=.of
theorem Agm:Gm (Ab (top 66)) "isinstance":=.of
theorem Agn:Gm (Ab (top 66)) "str":=.of
theorem Ago {f:Addr}{O:Sr}{lM:Sp}(F:AW K "read_words" "read_words" (top 66) f O)(T:TxtX P w K mg a)(lO:Bf P w K mg base (Bd P w) 3 "check_word" ["kind","word"] lM):AE P w K mg base (Bd P w) 4 f O ["row"] QW:=by
 refine F.cw Q0 λaf A outer s H vs Q E Y h=>?_
 .obtain ⟨rfl,q⟩:=h;have hu:=Y.units;have B:=Q0.nd;obtain ⟨g,tw,kd,vw,I⟩:=T.rows;refine ⟨_,(@Ai _ _ _ _ _ (AR (Cs (Dg (AH DN Agm T.cK DO (Ac (Aa 0 Q2) (Ac (HU (v:=.ty "str") Agn T.ig HR rfl) Af))))) (Ap (CG CD LR rfl T.jt T.eN (Ac Ay Af))) AQ)
    (Ai (AG 1 B Ei (B2 Uh Wl Wm FX (Aa 0 Q2) (Ac Ay Af)))
    (Ai (AR (AK (KL (P:=P) (w:=w) (K:=K)) (As Aw (Aa 1 Ei) Ag (λ_ _=>rfl)) (BK (v:=.ref a.dD) Q5 T.iA rfl) (by with_unfolding_all rfl)) (Ap (CG CD LR rfl T.jt T.eN (Ac (Ff (BJ Ay (BJ (Fd (As Aw (Aa 1 Ei) Ag (λ_ _=>rfl))) Fe))) Af))) AQ)
    (Ai (AG 2 B Jt (Ck P w K (BK (v:=.ref a.dD) Q5 T.iA rfl) (As Aw (Aa 1 Ei) Ag (λ_ _=>rfl))))
    (Ai (AR (PW.pt (Cz (AK (Ca hu) (AH Bl LQ T.n_len Bg (Ac (Aa 1 Ei) Af)) (Aj AL Ag (AH Bl LQ T.n_len Bg (Ac (Aa 2 Jt) Af))) (AN _)) (Dh (AK HQ Ay (Aa 1 Ei) (by with_unfolding_all rfl))))) (Ap (CG CD LR rfl T.jt T.eN (Ac (Ff (BJ Ay (BJ (Fd (As Aw (Aa 1 Ei) Ag (λ_ _=>rfl))) (BJ Ay (BJ (HY (Aj AL Ag (AH Bl LQ T.n_len Bg (Ac (Aa 2 Jt) Af)))) (BJ Ay Fe)))))) Af))) AQ)
    (Ai (C6 XM rfl (Aea Agk T.qv (Ac (Aa 2 Jt) (Ac (BH BP (Aa 1 Ei) (BE Ag) BM) Af))) (Gn rfl (BW (A9 3 B Q3) (BW (A9 4 B Q4) DZ))) (Ap (CK (Bh lO Agl Y.d C8 (Ac (Aa 3 Q3) (Ac (Aa 4 Q4) Af))))))
    (Ap (AO (Aa 1 Ei))))))))),?_⟩
  try dsimp only [aE,aF]
  have bj:CN ["row","words","kinds","kind","word"] [V.str BC]=[some (.str BC),none,none,none,none]:=rfl;simp only [bj,SD,SE];have ew:Txt.split BC (Sa " ")=[BC]:=AdQ (c:=32) (rows:=[BC]) (by decide) (by simp) (λr m=>by rw [SA.mp m];decide +kernel);have e0:BI [V.str BC] 0=some (.str BC):=Gy (j:=0) rfl;walk_at"";refine Sd (B0 _ _ _ _ true rfl ⟨.of (.str _),rfl,Aen K,?_⟩);walk_at"";refine ⟨(by show 7<=1000000;decide),λl nl=>?_⟩;rw [ew];have s1:=(Ae.refl H).upd (o:=.lst [V.str BC]) nl;have p:(upd H l (.lst [V.str BC])) l=some (.lst [V.str BC]):=Ah;rw [show [BC].map V.str=[V.str BC] from rfl];generalize upd H l (.lst [V.str BC])=J at s1 p ⊢;simp only [Ba,SD,SE];walk_at"";refine E8 a.dD g (.inr BC) rfl rfl (.inr kd) ?_;rw [show Bk g (.inr BC)=some (.ref tw) from vw];walk_at"";refine Bx a.dD g (.inr BC) _ rfl rfl (.inr kd) vw ?_;simp only [Ba,SD,SE];walk_at"";refine R9 (AX _ _ rfl (.inl (.of p)) ?_);walk_at"";refine R9 (AX _ _ rfl (.inr (I _)) ?_);walk_at"";refine R9 (DK l _ rfl (.inl (.of p)) rfl (G9 [BC]) ?_);rw [show Ex (V.str (Sa "")) [V.str BC]=false from by decide +kernel];walk_at"";refine R9 (AX l _ rfl (.of p) (λD n2=>?_));have L:=(Ae.refl J).upd (o:=.lst (CC [V.str BC] (some 1) none)) n2;have fO:(upd J D (.lst (CC [V.str BC] (some 1) none))) D=some (.lst (CC [V.str BC] (some 1) none)):=Ah;generalize upd J D (.lst (CC [V.str BC] (some 1) none))=H2 at L fO ⊢;walk_at"";refine B3 tw D _ rfl ⟨I _,.of fO,Aeb (I _) ?_⟩;walk_at"";exact q H2 l (s1.trans L) nl (L _ _ p)
theorem Agp:A8 ["things"] ["things"] (Ab (top 70)):=.of
theorem Q6:Nm (Ab (top 70)) "things":=.of
theorem Agq:Gm (Ab (top 70)) "parts_of":=.of
theorem Agr:Gm (Ab (top 70)) "NONE_WORD":=.of
theorem Ags {f:Addr}{g:Sr}{B:Sp}(F:AW K "written" "written" (top 70) f g)(T:TxtX P w K mg a)(D:Bf P w K mg base AI 2 "parts_of" ["things"] B):AE P w K mg base AI 3 f g ["things"] (QX K):=by
 refine F.ok Agp λJ A outer s H vs Q E p h=>?_
 .obtain ⟨l,rfl,I,q⟩:=h;have hu:=p.units;refine ⟨_,(@Ap _ _ _ (AO (MK (AaV (Aa 0 Q6) (by intro _;rfl)) (B2 Uh Wn Wo FW Ay (Ac (Bh D Agq p.d Bj (Ac (Aa 0 Q6) Af)) Af)) (KI Agr T.qw)))),?_⟩;try dsimp only [aE,aF]
  walk_at"";refine  ⟨false,.inl ⟨[],I,rfl⟩,?_⟩;refine Bv ?_;walk_at"";exact q
theorem Agt:A8 ["keeper","words"] ["keeper","words"] (Ab (top 84)):=.of
theorem Agu:Nm (Ab (top 84)) "keeper":=.of
theorem Agv:Gm (Ab (top 84)) "written":=.of
theorem Agw (F:AW K "ask_waiting" "ask_waiting" (top 84) f fd)(T:TxtX P w K mg a)(D:Bf P w K mg base AI 3 "written" ["things"] (QX K))(g:Fh P w K mg base AI 1 a.ak "waiting" ["self"] (QL K a λX=>X.q.map V.str)):AE P w K mg base AI 4 f fd ["keeper","words"] (QY K a):=by
 refine F.ok Agt λY A outer s H vs Q E p h=>?_
 .obtain ⟨k,I,pl,tb,ws,X,R,rfl,t,eq,q⟩:=h;have hu:=p.units;have B:=T.hc.cls;refine ⟨_,(@Ap _ _ _ (AO (Bh D Agv p.d Bj (Ac (AcA g B (Cj (Aa 0 Agu) rfl) p.d Bj) Af)))),?_⟩;try dsimp only [aE,aF]
  walk_at"";refine B8 k a.Keeper I _ _ rfl t.t.rest.hd T.kc.cls T.kc.ha rfl ?_;walk_at"";refine E8 X.h X.dx _ rfl t.t.fQ rfl ?_;walk_at"";refine AX X _ rfl t (λl J=>?_);rw [show (λX:HX=>X.q.map V.str) X=[] from by show X.q.map V.str=[];rw [eq];rfl];have L:=(Ae.refl H).upd (o:=.lst []) J;have O:(upd H l (.lst [])) l=some (.lst []):=Ah;walk_at"";exact ⟨.of O,q _ L⟩
theorem Q7:A8 ["self","row","words","answer"] ["self","row"] (Ab (Au (top 91) 1)):=.of
theorem Agx:Nm (Ab (Au (top 91) 1)) "self":=.of
theorem Agy:Nm (Ab (Au (top 91) 1)) "row":=.of
theorem LS:Nm (Ab (Au (top 91) 1)) "words":=.of
theorem Q8:Nm (Ab (Au (top 91) 1)) "answer":=.of
theorem Agz:Gm (Ab (Au (top 91) 1)) "ANSWERS":=.of
theorem AgA:Gm (Ab (Au (top 91) 1)) "read_words":=.of
theorem AgB {f g:Addr}{J L:Sr}(F:AW K "say" "Desk.say" (Au (top 91) 1) f J)(T:TxtX P w K mg a)(lS:∃ kvs,EB P w K a.d8 kvs/\Bk kvs (.inr BC)=some (.ref g))(lT:Bf P w K mg base (Bd P w) 4 "read_words" ["row"] QW)(p:AE P w K mg base AI 4 g L ["keeper","words"] (QY K a))(B:Td K (.ref g)=true)(D:Ct K L ["keeper","words"] []):AE P w K mg base (Bd P w) 6 f J ["self","row"] (QZ K a):=by
 refine F.cw Q7 λaf A outer s H vs Q E I h=>?_
 .obtain ⟨d,bp,k,ay,pl,tb,X,R,rfl,t,eq,q⟩:=h;have hu:=I.units;have O:=Q7.nd;obtain ⟨kvs,kd,va⟩:=lS;refine ⟨_,(@Ai _ _ _ _ _ (AG 2 O LS (Bh lT AgA I.d C8 (Ac (Aa 1 Agy) Af)))
    (Ai (AG 3 O Q8 (Ck P w K (BK (v:=.ref a.d8) Agz T.ju rfl) (As Aw (Aa 2 LS) Ag (λ_ _=>rfl))))
    (Ap (AO (Aed p B D I.d Bj (Aa 3 Q8) (Ac (Cj (Aa 0 Agx) rfl) (Ac (Aa 2 LS) Af))))))),?_⟩
  try dsimp only [aE,aF]
  walk_at"";intro H1 l V nl hl;have Y:=t.same V;walk_at"";refine Bx a.d8 kvs (.inr BC) _ rfl rfl (.inr kd) va ?_;walk_at"";refine B8 d a.aV bp _ _ rfl Y.t.rest.tl.hd T.dc.cls T.dc.kp rfl ?_;walk_at"";exact ⟨k,ay,pl,tb,l,X,_,rfl,Y,eq,λH2 s2=>q H2 (V.trans s2)⟩
structure Q9 (K:R0)(a:An)(C:Addr)(b1 b2:Bool):Prop where
 e:DL K C
 m:Xj K (.ref C) (.ref a.d7)=some true
 t:TQ K (.ref C) (.ref a.ax)=some b1
 b:TQ K (.ref C) (.ref a.av)=some b2
 v:TQ K (.ref C) (.type "ValueError")=some true
 o:Wc K (.ref C) [.ref a.aN,.ref a.aL,.ref a.aO,.ref a.aK,.ref a.aM]=some false
structure Ju (P:R7)(w:R3)(K:R0)(mg:Str->Option Value)(a:An):Prop extends TxtX P w K mg a where
 lU:mg "ValueError"=none
 iC:mg "HallError"=some (.ref a.d7)
 ft:Q9 K a a.ax true false
 fb:Q9 K a a.av false true
def Ra (p:Qp):Prop:=Co p.1 p.2.2.1 p.2.1 p.2.2.2
def BU (b:Bool):List V:=[.bl b,.bl (!b),.bl true,.bl false]
def Rb (K:R0)(a:An):Sp:=λvs H Q _=>∃(t:Str)(R:Bm),vs=[.str t]/\F7 t/\At H R /\
 (Cw t=none->∀ H' l,At H' ((l,.lst (BU true)) :: R)->Av H H'->Q (.ref l) H') /\
 (∀ p,Cw t=some p->¬ Ra p->∀ H' l,At H' ((l,.lst (BU false)) :: R)->Av H H'->Q (.ref l) H') /\
 (∀ p,Cw t=some p->Ra p->∀ H',At H' R->Av H H'->Q (.str "none") H')
theorem Rc:A8 ["text","told","e"] ["text"] (Ab (top 102)):=.of
theorem AgC:Nm (Ab (top 102)) "text":=.of
theorem Hk:Nm (Ab (top 102)) "told":=.of
theorem Hl:Nm (Ab (top 102)) "e":=.of
theorem AgD:Gm (Ab (top 102)) "Desk":=.of
theorem AgE:Gm (Ab (top 102)) "HallError":=.of
theorem Jv:Gm (Ab (top 102)) "isinstance":=.of
theorem AgF:Gm (Ab (top 102)) "NotSo":=.of
theorem AgG:Gm (Ab (top 102)) "NoSwitch":=.of
theorem AgH:Gm (Ab (top 102)) "NoRow":=.of
theorem AgI:Gm (Ab (top 102)) "NoLine":=.of
theorem AgJ:Gm (Ab (top 102)) "NoFigure":=.of
theorem AgK:Gm (Ab (top 102)) "ValueError":=.of
theorem AgL:Gm (Ab (top 102)) "BadPlan":=.of
theorem AgM:Gm (Ab (top 102)) "NoText":=.of
theorem AgN (F:AW K "_law_desk_made" "_law_desk_made" (top 102) f fd)(T:Ju P w K mg a)(abq:Dk P w K mg base (Bd P w) 8 a.aV "Desk" ["self","text"] (QU K a))(lX:Fh P w K mg base (Bd P w) 6 a.aV "say" ["self","row"] (QZ K a)):AE P w K mg base AI 10 f fd ["text"] (Rb K a):=by
 refine F.ok Rc λaf A outer s H vs Q E hr h=>?_
 .obtain ⟨z,R,rfl,tok,t,q1,q2,q3⟩:=h;have hu:=hr.units;have nd:=Rc.nd;have abr:=T.dc.cls;refine ⟨_,(@Ai _ _ _ _ _ (AG 1 nd Hk Ci)
    (Ai (NT 2 AgE Hl T.iC nd (λEw pins W hp ho=>(Ap (AG 1 nd Hk (AcD lX abr (AdB abq AgD hr.d hp (Ac (Aa 0 AgC) Af)) hr.d hp (Ac Ay Af))))) (λp=>(Ai (AG 1 nd Hk (A7 (Ac (AH DN Jv T.cK DO (Ac (Aa 2 Hl) (Ac (BK (v:=.ref a.ax) AgM T.dM rfl) Af))) (Ac (AH DN Jv T.cK DO (Ac (Aa 2 Hl) (Ac (BK (v:=.ref a.av) AgL T.bV rfl) Af))) (Ac (AH DN Jv T.cK DO (Ac (Aa 2 Hl) (Ac (HU (v:=.ty "ValueError") AgK T.lU NS rfl) Af))) Af)))))
     (Ap (CK (B2 Vy V1 V2 Ey (Aa 1 Hk) (Ac (AH DN Jv T.cK DO (Ac (Aa 2 Hl) (Ac (Dw (Ac (BK (v:=.ref a.aN) AgJ T.hV rfl) (Ac (BK (v:=.ref a.aL) AgI T.hJ rfl) (Ac (BK (v:=.ref a.aO) AgH T.eN rfl) (Ac (BK (v:=.ref a.aK) AgG T.gN rfl) (Ac (BK (v:=.ref a.aM) AgF T.hU rfl) Af)))))) Af))) Af)))))))
    (Ap (AO (Aa 1 Hk))))),?_⟩
  try dsimp only [aE,aF]
  have bj:CN ["text","told","e"] [V.str z]=[some (.str z),none,none]:=rfl;simp only [bj,SD,SE];walk_at"";intro Ew pins;walk_at"";intro d L c9 qJ lH;have qK:(upd H L (.own d)) d=none:=by rw [Ak (S3 lH)];exact c9
  have t1:=(t.new (u:=.own d) qJ).new (u:=.ins a.aV L []) qK;have s1:Ae H (upd (upd H L (.own d)) d (.ins a.aV L [])):=((Ae.refl H).upd qJ).upd qK;generalize upd (upd H L (.own d)) d (.ins a.aV L [])=H1 at t1 s1 ⊢;refine D5 d L z _ rfl ⟨t1,tok,?_⟩;cases er:Cw z with
  | none =>
   intro I s2;refine ⟨T.ft.m,λp fF=>?_⟩;have J:=(Ae.refl I).upd (o:=BN p (Sg a.ax)) fF;have B:(upd I p (BN p (Sg a.ax))) p=some (BN p (Sg a.ax)):=Ah;generalize upd I p (BN p (Sg a.ax))=O at J B ⊢;walk_at"";refine Sd (B0 _ _ _ _ _ rfl ⟨.exc B T.ft.e,rfl,T.ft.t,?_⟩);walk_at"";refine Sd (B0 _ _ _ _ _ rfl ⟨.exc B T.ft.e,rfl,T.ft.b,?_⟩);walk_at"";refine Sd (B0 _ _ _ _ _ rfl ⟨.exc B T.ft.e,rfl,T.ft.v,?_⟩);refine ⟨AA,λg cQ=>?_⟩;have t3:=((t1.same s2).same J).tl.tl;have t4:=t3.new (u:=.lst [V.bl true,V.bl false,V.bl true]) cQ;have s4:=(Ae.refl O).upd (o:=.lst [V.bl true,V.bl false,V.bl true]) cQ;have bE:(upd O g (.lst [V.bl true,V.bl false,V.bl true])) g=some (.lst [V.bl true,V.bl false,V.bl true]):=Ah;generalize upd O g (.lst [V.bl true,V.bl false,V.bl true])=H4 at t4 s4 bE ⊢;walk_at"";refine ⟨.inl ⟨rfl,_,.of bE⟩,?_⟩;walk_at"";refine ⟨AA,λY fH=>?_⟩;have D:=(Ae.refl H4).upd (o:=.tup [V.ref a.aN,V.ref a.aL,V.ref a.aO,V.ref a.aK,V.ref a.aM]) fH;have bG:(upd H4 Y (.tup [V.ref a.aN,V.ref a.aL,V.ref a.aO,V.ref a.aK,V.ref a.aM])) Y=some (.tup [V.ref a.aN,V.ref a.aL,V.ref a.aO,V.ref a.aK,V.ref a.aM]):=Ah;generalize upd H4 Y (.tup [V.ref a.aN,V.ref a.aL,V.ref a.aO,V.ref a.aK,V.ref a.aM])=H5 at D bG ⊢;have cj:=D _ _ bE;refine R9 (Dx p _ Y _ _ _ rfl ⟨D _ _ (s4 _ _ B),T.ft.e,bG,rfl,T.ft.o,?_⟩);walk_at"";refine BZ g _ _ rfl rfl cj (by show 3<sizeLine;decide) ?_;have t6:=(t4.same D).fY (o':=.lst ([V.bl true,V.bl false,V.bl true]++[.bl false]));have p6:Av H5 (upd H5 g (.lst ([V.bl true,V.bl false,V.bl true]++[.bl false]))):=.chg cj rfl;have cR:Av I (upd H5 g (.lst ([V.bl true,V.bl false,V.bl true]++[.bl false]))):=(Av.of (J.trans (s4.trans D))).trans p6;generalize upd H5 g (.lst ([V.bl true,V.bl false,V.bl true]++[.bl false]))=H6 at t6 p6 cR ⊢;have t6:At H6 ((g,.lst (BU true)) :: _):=t6;walk_at"";exact q1 er H6 g t6 ((Av.of (s1.trans s2)).trans cR)
  | some pp =>
   obtain ⟨long,zs,sk,gz⟩:=pp;refine ⟨λgd I X k ay pl tb t2 eq p2=>?_,λng I s2=>?_⟩
   .walk_at"";refine E8 d L _ rfl t2.t.rest.tl.hd rfl ?_;walk_at"";refine NF d L k ay pl tb X _ rfl ⟨t2,eq,λO J=>?_⟩;walk_at"";exact q3 _ er gd O (t2.same J).t.rest.tl.tl.tl ((Av.of s1).trans (p2.trans (.of J)))
   .refine ⟨T.fb.m,λp fF=>?_⟩;have J:=(Ae.refl I).upd (o:=BN p (Sg a.av)) fF;have B:(upd I p (BN p (Sg a.av))) p=some (BN p (Sg a.av)):=Ah;generalize upd I p (BN p (Sg a.av))=O at J B ⊢;walk_at"";refine Sd (B0 _ _ _ _ _ rfl ⟨.exc B T.fb.e,rfl,T.fb.t,?_⟩);walk_at"";refine Sd (B0 _ _ _ _ _ rfl ⟨.exc B T.fb.e,rfl,T.fb.b,?_⟩);walk_at"";refine Sd (B0 _ _ _ _ _ rfl ⟨.exc B T.fb.e,rfl,T.fb.v,?_⟩);refine ⟨AA,λg cQ=>?_⟩;have t3:=((t1.same s2).same J).tl.tl;have t4:=t3.new (u:=.lst [V.bl false,V.bl true,V.bl true]) cQ;have s4:=(Ae.refl O).upd (o:=.lst [V.bl false,V.bl true,V.bl true]) cQ;have bE:(upd O g (.lst [V.bl false,V.bl true,V.bl true])) g=some (.lst [V.bl false,V.bl true,V.bl true]):=Ah;generalize upd O g (.lst [V.bl false,V.bl true,V.bl true])=H4 at t4 s4 bE ⊢;walk_at"";refine ⟨.inl ⟨rfl,_,.of bE⟩,?_⟩;walk_at"";refine ⟨AA,λY fH=>?_⟩;have D:=(Ae.refl H4).upd (o:=.tup [V.ref a.aN,V.ref a.aL,V.ref a.aO,V.ref a.aK,V.ref a.aM]) fH;have bG:(upd H4 Y (.tup [V.ref a.aN,V.ref a.aL,V.ref a.aO,V.ref a.aK,V.ref a.aM])) Y=some (.tup [V.ref a.aN,V.ref a.aL,V.ref a.aO,V.ref a.aK,V.ref a.aM]):=Ah;generalize upd H4 Y (.tup [V.ref a.aN,V.ref a.aL,V.ref a.aO,V.ref a.aK,V.ref a.aM])=H5 at D bG ⊢;have cj:=D _ _ bE;refine R9 (Dx p _ Y _ _ _ rfl ⟨D _ _ (s4 _ _ B),T.fb.e,bG,rfl,T.fb.o,?_⟩);walk_at"";refine BZ g _ _ rfl rfl cj (by show 3<sizeLine;decide) ?_;have t6:=(t4.same D).fY (o':=.lst ([V.bl false,V.bl true,V.bl true]++[.bl false]));have p6:Av H5 (upd H5 g (.lst ([V.bl false,V.bl true,V.bl true]++[.bl false]))):=.chg cj rfl;have cR:Av I (upd H5 g (.lst ([V.bl false,V.bl true,V.bl true]++[.bl false]))):=(Av.of (J.trans (s4.trans D))).trans p6;generalize upd H5 g (.lst ([V.bl false,V.bl true,V.bl true]++[.bl false]))=H6 at t6 p6 cR ⊢;have t6:At H6 ((g,.lst (BU false)) :: _):=t6;walk_at"";exact q2 _ er ng H6 g t6 ((Av.of (s1.trans s2)).trans cR)
def Cf:A3->Str
 | .bf n=>"long "++CT n
 | .bg n=>"seekers "++CT n
 | .bx z=>"line "++z
 | .cg z n=>"group "++z++" "++CT n
structure Gb (z:Str):Prop where
 dig:Bs z
 lo:1<=z.length
 hi:z.length<=20
def EM (long ag:Int)(zs:List Str)(gz:List (Str×Int)):List A3:=.bf long :: .bg ag :: (zs.map .bx++gz.map λg=>.cg g.1 g.2)
def Rf:Sp:=λvs H Q _=>∃(t:Addr)(long:Int)(l:Addr)(ag:Int)(g:Addr)(zs:List Str)(ts:List Pr),vs=[.ref t]/\H t=some (.tup [.int long,.ref l,.int ag,.ref g])/\H l=some (.lst (zs.map V.str))/\H g=some (.lst (ts.map AD))/\BR H ts/\Cd long/\Cd ag/\zs.length<=60/\ts.length<=40/\(∀ z∈zs,Gb z)/\(∀ t∈ts,Gb t.2.1/\Cd t.2.2)/\(ts.map (·.2.1)).Nodup /\
 ∀(H':Hp)(r:Addr)(zs':List Str)(aq:List Pr),Ae H H'->H r=none->H' r=some (.lst (((EM long ag zs' (aq.map (·.2))).map Cf).map V.str))->zs'.Perm zs->zs'.Pairwise BQ->aq.Perm ts->aq.Pairwise (λx y=>BQ x.2.1 y.2.1)->Q (.ref r) H'
theorem Rg:A8 ["parts","long","lines","seekers","groups","rows"] ["parts"] (Ab (top 97)):=.of
theorem AgO:Nm (Ab (top 97)) "parts":=.of
theorem Rh:Nm (Ab (top 97)) "long":=.of
theorem Ri:Nm (Ab (top 97)) "lines":=.of
theorem Rj:Nm (Ab (top 97)) "seekers":=.of
theorem Rk:Nm (Ab (top 97)) "groups":=.of
theorem Rl:Nm (Ab (top 97)) "rows":=.of
theorem Rm:Gm (Ab (top 97)) "sorted":=.of
theorem Rn:Gm (Ab (top 97)) "str":=.of
def Jw:Scope:={ kind:=.function,names:=[(".0",.local),("prefix",.local),("many",.local),("str",.globalImplicit)],isGenerator:=false,isCoroutine:=false,more:=[] }
theorem LU:A1 Jw (Ab (top 97)) ["prefix","many"] ["parts","long","lines","seekers","groups","rows"] [none,none]:=A1.mk' rfl (by decide +kernel) (by decide +kernel) (by decide +kernel) (by decide +kernel) rfl (by decide +kernel)
theorem Ro:Nm Jw "prefix":=.of
theorem Rp:Nm Jw "many":=.of
theorem AgP:Gm Jw "str":=.of
def Rq:Scope:={ kind:=.function,names:=[(".0",.local),("line",.local)],isGenerator:=false,isCoroutine:=false,more:=[] }
theorem Rr:A1 Rq (Ab (top 97)) ["line"] ["parts","long","lines","seekers","groups","rows"] [none]:=A1.mk' rfl (by decide +kernel) (by decide +kernel) (by decide +kernel) (by decide +kernel) rfl (by decide +kernel)
theorem Rt:Nm Rq "line":=.of
theorem AgQ (F:AW K "_law_plan_rows" "_law_plan_rows" (top 97) f fd)(T:TxtR P w K mg a):AE P w K mg base AI 1 f fd ["parts"] Rf:=by
 refine F.ok Rg λaf A outer s H vs Q E hr h=>?_
 .obtain ⟨t,d,l,p,g,zs,ts,rfl,ht,hl,hg,lay,iD,iE,zl,tl,zo,to,tnd,q⟩:=h;have hu:=hr.units;have nd:=Rg.nd;have nl:=iD.len;have ns:=iE.len;have el:(Sa "long ").length=5:=by decide +kernel
  have es:(Sa "seekers ").length=8:=by decide +kernel
  refine ⟨_,(@Ai _ _ _ _ _ (MQ (Aa 0 AgO) (Gn rfl (BW (A9 1 nd Rh) (BW (A9 2 nd Ri) (BW (A9 3 nd Rj) (BW (A9 4 nd Rk) DZ))))))
    (Ai (AG 5 nd Rl (Aj AL (A7 (Ac (Aj AL Ay (CF JT Rn T.ig HR (Ac (Aa 1 Rh) Af))) (Ac (Aj AL Ay (CF JT Rn T.ig HR (Ac (Aa 3 Rj) Af))) Af))) (EA rfl Rr (C5 (AH GJ Rm T.cM DP (Ac (Aa 2 Ri) Af))) (λcl C fp pins s₂ H₂=>(A9 0 Rr.nd Rt.comp)) (λcl C fp pins s₂ H₂=>D9) (λcl C fp pins s₂ H₂=>(Aj AL Ay (Aa 0 Rt.comp))))))
    (Ap (AO (Aj AL (Aa 5 Rl) (EA rfl LU (C5 (AH Ku Rm T.cM DP (Ac (Aa 4 Rk) Af))) (λcl C fp pins s₂ H₂=>(GI (X:=AF _ _ _ cl C fp pins s₂ H₂) K rfl 2 rfl (BW (A9 0 LU.nd Ro.comp) (BW (A9 1 LU.nd Rp.comp) DZ)) rfl rfl)) (λcl C fp pins s₂ H₂=>D9) (λcl C fp pins s₂ H₂=>(Aj AL (Aj AL (Aj AL Ay (Aa 0 Ro.comp)) Ay) (CF JT AgP.comp T.ig HR (Ac (Aa 1 Rp.comp) Af)))))))))),?_⟩
  try dsimp only [aE,aF]
  walk_at"";refine Bw t _ rfl (.of ht) rfl ?_;walk_at"";refine ⟨iD.small,?_⟩;refine R9 (Sd (Bw _ _ rfl rfl (by show (Sa "long ").length+(CT d).length<=_;rw [el,R8];omega) ?_));walk_at"";refine ⟨iE.small,?_⟩;refine R9 (Sd (Bw _ _ rfl rfl (by show (Sa "seekers ").length+(CT p).length<=_;rw [es,R8];omega) ?_));walk_at"";refine ⟨AA,λr1 nr1=>?_⟩;have s1:=(Ae.refl H).upd (o:=.lst [.str (Cf (.bf d)),.str (Cf (.bg p))]) nr1;have h1:(upd H r1 (.lst [.str (Cf (.bf d)),.str (Cf (.bg p))])) r1=some (.lst (([.bf d,.bg p].map Cf).map V.str)):=Ah;have e1:(V.str (Sa "long "++Sa (toString d)))=.str (Cf (.bf d)):=rfl;have e2:(V.str (Sa "seekers "++Sa (toString p)))=.str (Cf (.bg p)):=rfl;rw [e1,e2];generalize upd H r1 (.lst [.str (Cf (.bf d)),.str (Cf (.bg p))])=H1 at s1 h1 ⊢;walk_at"";refine Bw l zs rfl (.of (s1 _ _ hl)) (by omega) (λl2 zs' cy pm so=>?_);have s2:=s1.upd (o:=.lst (zs'.map V.str)) cy;have h2:(upd H1 l2 (.lst (zs'.map V.str))) l2=some (.lst (zs'.map V.str)):=Ah;have ix:=((Ae.refl H1).upd (o:=.lst (zs'.map V.str)) cy) _ _ h1;generalize upd H1 l2 (.lst (zs'.map V.str))=H2 at s2 h2 ix ⊢;have zl':zs'.length<=60:=by rw [pm.length_eq];exact zl
  walk_at"";refine ⟨⟨_,.of h2⟩,λD nD=>?_⟩;refine FQ (K:=K) (a:=l2) (xs:=zs'.map V.str) (λi σ L=>∃ x,σ=[x]/\Ae H2 L/\L D=some (.lst ((((zs'.take i).map A3.bx).map Cf).map V.str))) ⟨none,rfl,(Ae.refl H2).upd nD,Ah⟩ (λi σ L _ ⟨_,_,O,_⟩=>.of (O _ _ h2)) ?_ ?_
  .intro i x σ L I Y;obtain ⟨x0,rfl,O,J⟩:=Y;rw [SK] at I;cases hk:zs'[i]? with
   | none=>rw [hk] at I;cases I
   | some z =>
    rw [hk] at I;cases I;have zh:=(zo z (pm.mem_iff.mp (SV hk))).hi;walk_at"";refine R9 (Sd (Bw _ _ rfl rfl (by rw [show (Sa "line ").length=5 from by decide +kernel,R8];omega) ?_));refine ⟨_,J,?_,_,rfl,O.bN nD,?_⟩
    .rw [R5,R5,R5,SU,R8];omega
    .rw [Ah,T9,hk,Su,Su,Su];rfl
  .intro σ3 H3 Y;obtain ⟨x0,rfl,s3,J⟩:=Y;rw [R5,TF] at J;refine R9 (R9 (A0 r1 D _ _ rfl rfl (s3 _ _ ix) J (by rw [R5,R5,R5,R5,R5,R8];simp;omega) (λr2 nr2=>?_)));rw [<- Su,<- Su];have s4:=(s2.trans s3).upd (o:=.lst (((([.bf d,.bg p]:List A3)++zs'.map A3.bx).map Cf).map V.str)) nr2;have h4:(upd H3 r2 (.lst (((([.bf d,.bg p]:List A3)++zs'.map A3.bx).map Cf).map V.str))) r2=some (.lst (((([.bf d,.bg p]:List A3)++zs'.map A3.bx).map Cf).map V.str)):=Ah;generalize upd H3 r2 (.lst (((([.bf d,.bg p]:List A3)++zs'.map A3.bx).map Cf).map V.str))=H4 at s4 h4 ⊢;clear J ix h1 e1 e2
   walk_at"";refine CZ g ts rfl ⟨.of (s4 _ _ hg),lay.same s4,tnd,by omega,λl5 B iZ pt st=>?_⟩;have s5:=s4.upd (o:=.lst (B.map AD)) iZ;have h5:(upd H4 l5 (.lst (B.map AD))) l5=some (.lst (B.map AD)):=Ah;have qL:=((Ae.refl H4).upd (o:=.lst (B.map AD)) iZ) _ _ h4;generalize upd H4 l5 (.lst (B.map AD))=H5 at s5 h5 qL ⊢;have tl':B.length<=40:=by rw [pt.length_eq];exact tl
   have iw:BR H5 B:=λt m=>s5 _ _ (lay t (pt.mem_iff.mp m));walk_at"";refine ⟨⟨_,.of h5⟩,λD2 qM=>?_⟩;refine FQ (K:=K) (a:=l5) (xs:=B.map AD) (λi σ L=>∃ x y,σ=[x,y]/\Ae H5 L/\L D2=some (.lst ((((B.take i).map λt=>A3.cg t.2.1 t.2.2).map Cf).map V.str))) ⟨none,none,rfl,(Ae.refl H5).upd qM,Ah⟩ (λi σ L _ ⟨_,_,_,O,_⟩=>.of (O _ _ h5)) ?_ ?_
   .intro i x σ L I Y;obtain ⟨x0,y0,rfl,O,J⟩:=Y;rw [SK] at I;cases hk:B[i]? with
    | none=>rw [hk] at I;cases I
    | some t =>
     rw [hk] at I;cases I;have tm:=SV hk;obtain ⟨go1,go2⟩:=to t (pt.mem_iff.mp tm);have zh:=go1.hi;have zn:=go2.len;have eg:(Sa "group ").length=6:=by decide +kernel
     have eb:(Sa " ").length=1:=by decide +kernel
     refine ⟨t.1,_,rfl,.of (O _ _ (iw t tm)),rfl,?_⟩;walk_at"";refine R9 (Sd (Bw _ _ rfl rfl (by rw [eg,R8];omega) ?_));refine R9 (Sd (Bw _ _ rfl rfl (by rw [AV,eg,eb,R8];omega) ?_));walk_at"";refine ⟨go2.small,?_⟩;refine R9 (Sd (Bw _ _ rfl rfl (by show (Sa "group "++t.2.1++Sa " ").length+(CT t.2.2).length<=_;rw [AV,AV,eg,eb,R8];omega) ?_));refine ⟨_,J,?_,_,_,rfl,O.bN qM,?_⟩
     .rw [R5,R5,R5,SU,R8];omega
     .rw [Ah,T9,hk,Su,Su,Su];rfl
   .intro σ6 H6 Y;obtain ⟨x0,y0,rfl,s6,J⟩:=Y;rw [R5,TF] at J;have lr:(([.bf d,.bg p]:List A3)++zs'.map A3.bx).length<=62:=by rw [SF,R5];show 2+_<=62;omega
    refine R9 (R9 (A0 r2 D2 _ _ rfl rfl (s6 _ _ qL) J (by rw [R5,R5,R5,R5,R5,R8];omega) (λr3 qN=>?_)));rw [<- Su,<- Su];have er:(([.bf d,.bg p]:List A3)++zs'.map A3.bx)++(B.map λt=>A3.cg t.2.1 t.2.2)=EM d p zs' (B.map (·.2)):=by simp [EM]
    rw [er];exact q _ r3 zs' B ((s5.trans s6).upd qN) ((s5.trans s6).free qN) Ah pm so pt st
structure RT (x:Str):Prop where
 a:AS x
 l:x.length<=13
 n:10 ∉ x.cps.toList
theorem RT.app {x y:Str}(hx:AS x/\10 ∉ x.cps.toList)(hy:AS y/\10 ∉ y.cps.toList)(l:x.length+y.length<=13):RT (x++y):=by
 refine ⟨λc m=>?_,by rw [AV];exact l,λm=>?_⟩
 .rw [Dc] at m;rcases SG.mp m with m | m
  .exact hx.1 c m
  .exact hy.1 c m
 .rw [Dc] at m;rcases SG.mp m with m | m
  .exact hx.2 m
  .exact hy.2 m
theorem Hm {z:Str}(h:Bs z):AS z/\10 ∉ z.cps.toList:=⟨h.asc,λm=>by have:=h 10 m;omega⟩
theorem AgR {long sk:Int}{zs:List Str}{gz:List (Str×Int)}(g:Cd long)(p:Cd sk)(H:∀ z∈zs,Gb z/\z.length<=4)(I:∀ t∈gz,(Gb t.1/\t.1.length<=4)/\Cd t.2):∀ x∈(EM long sk zs gz).map Cf,RT x:=λx m=>by
 have J:AS (Sa "long ")/\10 ∉ (Sa "long ").cps.toList:=⟨by unfold AS;decide +kernel,by decide +kernel⟩;have L:AS (Sa "seekers ")/\10 ∉ (Sa "seekers ").cps.toList:=⟨by unfold AS;decide +kernel,by decide +kernel⟩;have O:AS (Sa "line ")/\10 ∉ (Sa "line ").cps.toList:=⟨by unfold AS;decide +kernel,by decide +kernel⟩;have V:AS (Sa "group ")/\10 ∉ (Sa "group ").cps.toList:=⟨by unfold AS;decide +kernel,by decide +kernel⟩;have Y:AS (Sa " ")/\10 ∉ (Sa " ").cps.toList:=⟨by unfold AS;decide +kernel,by decide +kernel⟩;have l1:(Sa "long ").length=5:=by decide +kernel
 have l2:(Sa "seekers ").length=8:=by decide +kernel
 have l3:(Sa "line ").length=5:=by decide +kernel
 have l4:(Sa "group ").length=6:=by decide +kernel
 have l5:(Sa " ").length=1:=by decide +kernel
 obtain ⟨r,mr,rfl⟩:=Sx.mp m;unfold EM at mr;rcases Si.mp mr with rfl | mr
 .exact .app J (Hm g.dig) (by have:=g.len;omega)
 rcases Si.mp mr with rfl | mr
 .exact .app L (Hm p.dig) (by have:=p.len;omega)
 rcases SG.mp mr with mr | mr
 .obtain ⟨z,mz,rfl⟩:=Sx.mp mr;obtain ⟨this,l4z⟩:=H z mz;exact .app O (Hm this.dig) (by omega)
 .obtain ⟨t,mt,rfl⟩:=Sx.mp mr;obtain ⟨⟨g1,d⟩,g2⟩:=I t mt;have B:RT (Sa "group "++t.1):=.app V (Hm g1.dig) (by have:=d;omega);have D:RT (Sa "group "++t.1++Sa " "):=.app ⟨B.a,B.n⟩ Y (by rw [AV];have:=d;omega);exact .app (x:=Sa "group "++t.1++Sa " ") ⟨D.a,D.n⟩ (Hm g2.dig) (by rw [AV,AV];have:=d;have:=g2.len;omega)
theorem AgS {long sk:Int}{zs:List Str}{gz:List (Str×Int)}:((EM long sk zs gz).map Cf).length=2+zs.length+gz.length:=by unfold EM;rw [R5,TX,TX,SF,R5,R5];omega
def BV (z:Str):Nat:=z.cps.toList.count 10
def BL (ps:List Str):Nat:=(ps.map λp=>p.length+1).sum
def BY (e:Nat)(ps:List Str):Nat:=(ps.map λp=>BV p+e).sum
theorem LV (x y:Str):BV (x++y)=BV x+BV y:=by unfold BV;rw [Dc,List.count_append]
theorem LY {sep:Str}(h:sep.length=1):∀{ps:List Str},ps≠[]->(S9 sep ps).length+1=BL ps
 | [p],_=>by unfold BL;simp;rfl
 | p :: q :: r,_=>by
  have ih:=LY h (ps:=q :: r) (by simp);rw [Jh,AV,AV,h];show p.length+1+(S9 sep (q :: r)).length+1=(p.length+1)+BL (q :: r);omega
theorem LZ {sep:Str}{e:Nat}(h:BV sep=e):∀{ps:List Str},ps≠[]->BV (S9 sep ps)+e=BY e ps
 | [p],_=>by unfold BY;simp;rfl
 | p :: q :: r,_=>by
  have ih:=LZ h (ps:=q :: r) (by simp);rw [Jh,LV,LV,h];show BV p+e+BV (S9 sep (q :: r))+e=(BV p+e)+BY e (q :: r);omega
theorem Cy (a b:List Str):BL (a++b)=BL a+BL b:=by unfold BL;rw [Su,sY]
theorem Ej (e:Nat)(a b:List Str):BY e (a++b)=BY e a+BY e b:=by unfold BY;rw [Su,sY]
theorem Gd (p:Str):BL [p]=p.length+1:=by unfold BL;simp
theorem L4 (e:Nat)(p:Str):BY e [p]=BV p+e:=by unfold BY;simp
theorem Ru {p:Str}:∀{ps:List Str},p∈ps->p.length+1<=BL ps
 | q :: r,m=>by
  show _<=(q.length+1)+BL r;rcases Si.mp m with rfl | m
  .omega
  .have:=Ru m;omega
theorem Rv {e:Nat}{p:Str}:∀{ps:List Str},p∈ps->BV p+e<=BY e ps
 | q :: r,m=>by
  show _<=(BV q+e)+BY e r;rcases Si.mp m with rfl | m
  .omega
  .have:=Rv (e:=e) m;omega
theorem L5 (ps:List Str)(n:Nat):BL (ps.take n)+BL (ps.drop n)=BL ps:=by rw [<- Cy,sZ]
theorem L6 (e:Nat)(ps:List Str)(n:Nat):BY e (ps.take n)+BY e (ps.drop n)=BY e ps:=by rw [<- Ej,sZ]
theorem AgT (ps:List Str)(n:Nat):BL (ps.drop (n+1))<=BL (ps.drop n):=by have:=L5 (ps.drop n) 1;rw [ti] at this;omega
theorem AgU (e:Nat)(ps:List Str)(n:Nat):BY e (ps.drop (n+1))<=BY e (ps.drop n):=by have:=L6 e (ps.drop n) 1;rw [ti] at this;omega
structure TB (z:Str)(L c:Nat):Prop where
 a:AS z
 l:z.length<=L
 n:BV z<=c
theorem TB.up {z:Str}{L c L' c':Nat}(h:TB z L c)(d:L<=L')(g:c<=c'):TB z L' c':=⟨h.a,Sy h.l d,Sy h.n g⟩
theorem TB.app {x y:Str}{L c L' c':Nat}(hx:TB x L c)(hy:TB y L' c'):TB (x++y) (L+L') (c+c'):=by
 refine ⟨λd m=>?_,by rw [AV];have:=hx.l;have:=hy.l;omega,by rw [LV];have:=hx.n;have:=hy.n;omega⟩;rw [Dc] at m;rcases SG.mp m with m | m
 .exact hx.a d m
 .exact hy.a d m
theorem TB.cut {z:Str}{L c:Nat}(h:TB z L c)(lo hi:Option Int):TB (B9 z lo hi) L c:=by
 have sub:(B9 z lo hi).cps.toList.Sublist z.cps.toList:=by show ((DM z.cps.toList lo hi).toArray.toList).Sublist _;unfold DM;exact (Xg _ _).trans (List.drop_sublist _ _)
 exact ⟨λd m=>h.a d (sub.subset m),Sy (NJ z lo hi) h.l,Sy (sub.count_le 10) h.n⟩
theorem TB.part {z sep p:Str}{L c:Nat}(h:TB z L c)(m:p∈Txt.split z sep):AS p:=λd hd=>h.a d ((LD m).1 d hd)
theorem Rw {z sep:Str}{e:Nat}(B:sep.length=1)(D:BV sep=e):BL (Txt.split z sep)=z.length+1/\BY e (Txt.split z sep)=BV z+e:=by
 obtain ⟨k,r,H⟩:=Ji z sep;have d:Txt.split z sep≠[]:=by rw [H];simp
 have g:=LY B d;have p:=LZ D d;rw [YX] at g p;exact ⟨g.symm,p.symm⟩
theorem TB.join {sep:Str}{e L c:Nat}{ps:List Str}(D:sep.length=1)(H:BV sep=e)(g:∀ p∈ps,AS p)(hs:AS sep)(J:BL ps<=L)(hc:BY e ps<=c):TB (S9 sep ps) L c:=by
 cases ps with
 | nil=>exact ⟨λd m=>by simp [S9] at m;exact absurd m (by decide +revert),S7 _,S7 _⟩
 | cons p r =>
  have O:=LY D (ps:=p :: r) (by simp);have V:=LZ H (ps:=p :: r) (by simp);refine ⟨?_,by omega,by omega⟩;have B:∀ ps:List Str,ps≠[]->(∀ p∈ps,AS p)->AS (S9 sep ps):=by
   intro ps;induction ps with
   | nil=>intro h;exact absurd rfl h
   | cons p r ih =>
    intro _ g;cases r with
    | nil=>exact g p SS
    | cons q r =>
     intro d m;rw [Jh,Dc,Dc] at m;rcases SG.mp m with m | m
     .rcases SG.mp m with m | m
      .exact g p SS d m
      .exact hs d m
     .exact ih (by simp) (λx I=>g x (SI _ I)) d m
  exact B _ (by simp) g
theorem AgV {z:Str}{L c:Nat}(h:TB z L c):(Txt.split z CU).length<=c+1:=by
 have:=(Rw (z:=z) (sep:=CU) (e:=1) rfl rfl).2;have k:∀ ps:List Str,ps.length<=BY 1 ps:=by
  intro ps;induction ps with
  | nil=>exact S7 _
  | cons p r ih=>show r.length+1<=(BV p+1)+BY 1 r;omega
 have:=k (Txt.split z CU);have:=h.n;omega
theorem TB.tok {z:Str}{L c:Nat}(h:TB z L c)(d:L<=20000)(g:c<=1800):F7 z:=⟨⟨h.a,Sy h.l d⟩,Sy (AgV h) (by omega)⟩
structure Rx (P:R7)(w:R3)(K:R0)(mg:Str->Option Value)(a:An):Prop extends TxtR P w K mg a where
 abt:mg "max"=none
def Jx:Str:=" !\"#$&'()*+,-./0123456789:;<=>?@ABCDEFGHIJKLMNOPQRSTUVWXYZ[\\]^_`abcdefghijklmnopqrstuvwxyz{|}~\n"
theorem AgW:AS Jx/\Jx.length=95:=⟨by unfold AS;decide +kernel,by decide +kernel⟩
def Jy:Str:=" \n0159"
theorem AgX:AS Jy/\Jy.length=6:=⟨by unfold AS;decide +kernel,by decide +kernel⟩
def Ek:List Str:=["long","seekers","line","group","2","60","61","00",""]
theorem AgY:∀ x∈Ek,(∀ c∈x.cps.toList,c<128)/\x.length<=7/\BV x=0:=by decide +kernel
theorem TB.one {c:Nat}(h:c<128):TB ⟨#[c]⟩ 1 1:=⟨λd m=>by simp at m;omega,Sh 1,by
 show List.count 10 [c]<=1;exact Sy tq (Sh 1)⟩
theorem TB.abu {z:Str}{L c:Nat}(h:TB z L c):TB (B9 z none (some 1)) 1 1:=by
 have e:=Lm (z:=z) (k:=1) (by decide);refine ⟨(h.cut none (some 1)).a,?_,?_⟩
 .rw [C2,e,SU];exact Xl _ _
 .unfold BV;rw [e];exact Sy tq (by rw [SU];exact Xl _ _)
theorem Ry {z:Str}{i:Int}(h:AS z)(d:0<=i)(g:i<z.length):∃ c,BI z.cps.toList i=some c/\c<128:=by obtain ⟨v,p,B⟩:=Ez (xs:=z.cps.toList) d (by rw [<- C2];exact g);exact ⟨v,p,h v (SV B)⟩
theorem Hn (xs:List V)(k:Int)(d:0<=k):CC xs none (some k)=xs.take k.toNat:=by
 unfold CC HT.aA;dsimp only;rw [if_neg (by omega),Xn,Xo];by_cases c:k.toNat<=xs.length
 .rw [XN c]
 .rw [XO (by omega),Vg (Sh _),Vg (by omega)]
theorem Ho (xs:List V)(k:Int)(d:0<=k):CC xs (some k) none=xs.drop k.toNat:=by
 unfold CC HT.aA;dsimp only;rw [if_neg (by omega)];by_cases c:k.toNat<=xs.length
 .rw [XN c,Vg (by rw [Ue];exact Sh _)]
 .rw [XO (by omega),Nat.sub_self,List.take_zero,List.drop_eq_nil_of_le (by omega)]
theorem Hq (ps:List Str):(ps.map (·.length)).sum+ps.length=BL ps:=by
 induction ps with
 | nil=>rfl
 | cons p r ih =>
  show p.length+(r.map (·.length)).sum+(r.length+1)=(p.length+1)+BL r;omega
def Rz:Sp:=λvs H Q _=>∃(z:Str)(r:Addr)(r0 r1 r2 r3 r4:Int)(L c:Nat),vs=[.str z,.ref r]/\H r=some (.lst ([r0,r1,r2,r3,r4].map V.int))/\(0<=r0/\0<=r1/\0<=r2/\0<=r3/\0<=r4)/\(r0<30000/\r1<30000/\r2<30000/\r3<30000/\r4<30000)/\TB z L c/\L<=9000/\∀ H' z',Ae H H'->TB z' (2 * L+10) (2 * c+2)->Q (.str z') H'
theorem RA:A8 ["text","row","signs","way","at","stop","sign","mark","some","other","word"] ["text","row"] (Ab (top 101)):=.of
theorem DV:Nm (Ab (top 101)) "text":=.of
theorem Dd:Nm (Ab (top 101)) "row":=.of
theorem L7:Nm (Ab (top 101)) "signs":=.of
theorem Ge:Nm (Ab (top 101)) "way":=.of
theorem CW:Nm (Ab (top 101)) "at":=.of
theorem L8:Nm (Ab (top 101)) "stop":=.of
theorem RB:Nm (Ab (top 101)) "sign":=.of
theorem Gf:Nm (Ab (top 101)) "mark":=.of
theorem De:Nm (Ab (top 101)) "some":=.of
theorem L9:Nm (Ab (top 101)) "other":=.of
theorem RC:Nm (Ab (top 101)) "word":=.of
theorem Hr:Gm (Ab (top 101)) "len":=.of
theorem AgZ:Gm (Ab (top 101)) "max":=.of
theorem Ag0 (F:AW K "_law_spoilt" "_law_spoilt" (top 101) f fd)(T:Rx P w K mg a):AE P w K mg base AI 1 f fd ["text","row"] Rz:=by
 refine F.ok RA λaf A outer s H vs Q E hr h=>?_
 .obtain ⟨z,r,r0,r1,r2,r3,r4,L,c,rfl,hR,⟨p0,p1,p2,p3,p4⟩,⟨b0,b1,b2,b3,b4⟩,tb,l9,q⟩:=h;have hu:=hr.units;have nd:=RA.nd;have zl:=tb.l;refine ⟨_,(@Ai _ _ _ _ _ (AG 2 nd L7 Ay)
    (Ai (AG 3 nd Ge (Aj A6 (As Aw (Aa 1 Dd) Ag (λ_ _=>rfl)) Ag))
    (Ai (AG 4 nd CW (Aj A6 (As Aw (Aa 1 Dd) Ag (λ_ _=>rfl)) (Aj AL (AH Bl Hr T.n_len Bg (Ac (Aa 0 DV) Af)) Ag)))
    (Ai (AG 5 nd L8 (Aj AL (Aj AL (Aa 4 CW) Ag) (Aj A6 (As Aw (Aa 1 Dd) Ag (λ_ _=>rfl)) Ag)))
    (Ai (AG 6 nd RB (As Aw (A7 (Ac (As Aw (Aa 2 L7) (Aj A6 (As Aw (Aa 1 Dd) Ag (λ_ _=>rfl)) (AH Bl Hr T.n_len Bg (Ac (Aa 2 L7) Af))) (λ_ _=>rfl)) (Ac (BH BP (BH BP (Aa 0 DV) (BE (Aj A6 (As Aw (Aa 1 Dd) Ag (λ_ _=>rfl)) (AH (AaX rfl) AgZ T.abt Acl (Ac Ag (Ac (AH Bl Hr T.n_len Bg (Ac (Aa 0 DV) Af)) Af))))) BM) BM (BE Ag)) (Ac (As Aw Ay (Aj A6 (As Aw (Aa 1 Dd) Ag (λ_ _=>rfl)) Ag) (λ_ _=>rfl)) Af)))) (Aj A6 (Aj D0 (As Aw (Aa 1 Dd) Ag (λ_ _=>rfl)) Ag) Ag) (λ_ _=>rfl)))
    (Ai (AR (AK M7 (Aa 3 Ge) Ag (AN _)) (Ap (AO (Aj AL (Aj AL (BH BP (Aa 0 DV) BM (BE (Aa 4 CW))) (Aa 6 RB)) (BH BP (Aa 0 DV) (BE (Aj AL (Aa 4 CW) (Aa 3 Ge))) BM)))) AQ)
    (Ai (AR (AK (B4 hu) (Aa 3 Ge) Ag (AN _)) (Ap (AO (Aj AL (BH BP (Aa 0 DV) BM (BE (Aa 4 CW))) (BH BP (Aa 0 DV) (BE (Aa 5 L8)) BM)))) AQ)
    (Ai (AR (AK (B4 hu) (Aa 3 Ge) Ag (AN _)) (Ap (AO (Aj AL (BH BP (Aa 0 DV) BM (BE (Aa 5 L8))) (BH BP (Aa 0 DV) (BE (Aa 4 CW)) BM)))) AQ)
    (Ai (AG 7 nd Gf (As Aw (A7 (Ac Ay (Ac Ay Af))) (Aj A6 (Aa 3 Ge) Ag) (λ_ _=>rfl)))
    (Ai (AG 8 nd De (B2 Uh Wl Wm FX (Aa 0 DV) (Ac (Aa 7 Gf) Af)))
    (Ai (AG 4 nd CW (Aj A6 (As Aw (Aa 1 Dd) Ag (λ_ _=>rfl)) (AH Bl Hr T.n_len Bg (Ac (Aa 8 De) Af))))
    (Ai (AG 9 nd L9 (Aj A6 (As Aw (Aa 1 Dd) Ag (λ_ _=>rfl)) (AH Bl Hr T.n_len Bg (Ac (Aa 8 De) Af))))
    (Ai (AR (AK (B4 hu) (Aj A6 (As Aw (Aa 1 Dd) Ag (λ_ _=>rfl)) Ag) Ag (AN _)) (Ap (AO (B2 Uh Wn Wo FW (Aa 7 Gf) (Ac (Aj AL (BH BP (Aa 8 De) BM (BE (Aa 4 CW))) (BH BP (Aa 8 De) (BE (Aj AL (Aa 4 CW) Ag)) BM)) Af)))) AQ)
    (Ai (AR (AK (B4 hu) (Aj A6 (As Aw (Aa 1 Dd) Ag (λ_ _=>rfl)) Ag) Ag (AN _)) (Ap (AO (B2 Uh Wn Wo FW (Aa 7 Gf) (Ac (Aj AL (Aj AL (BH BP (Aa 8 De) BM (BE (Aa 4 CW))) (A7 (Ac (As Aw (Aa 8 De) (Aa 9 L9) (λ_ _=>rfl)) Af))) (BH BP (Aa 8 De) (BE (Aa 4 CW)) BM)) Af)))) AQ)
    (Ai (AR (AK (B4 hu) (Aj A6 (As Aw (Aa 1 Dd) Ag (λ_ _=>rfl)) Ag) Ag (AN _)) (Ai (AG 10 nd RC (As Aw (A7 (FO rfl)) (Aj A6 (As Aw (Aa 1 Dd) Ag (λ_ _=>rfl)) Ag) (λ_ _=>rfl)))
     (Ap (AO (B2 Uh Wn Wo FW (Aa 7 Gf) (Ac (Aj AL (Aj AL (BH BP (Aa 8 De) BM (BE (Aa 4 CW))) (A7 (Ac (Aa 10 RC) Af))) (BH BP (Aa 8 De) (BE (Aj AL (Aa 4 CW) Ag)) BM)) Af))))) AQ)
    (Ap (AO (B2 Uh Wn Wo FW (Aa 7 Gf) (Ac (Aj AL (Aj AL (BH BP (Aa 8 De) BM (BE (Aa 4 CW))) (A7 (Ac (As Aw (Aa 8 De) (Aa 9 L9) (λ_ _=>rfl)) Af))) (BH BP (Aa 8 De) (BE (Aj AL (Aa 4 CW) Ag)) BM)) Af))))))))))))))))))),?_⟩
  try dsimp only [aE,aF]
  have bj:CN ["text","row","signs","way","at","stop","sign","mark","some","other","word"] [V.str z,V.ref r]=[some (.str z),some (.ref r),none,none,none,none,none,none,none,none,none]:=rfl;simp only [bj,SD,SE];walk_at"";rw [show Sa " !\"#$&'()*+,-./0123456789:;<=>?@ABCDEFGHIJKLMNOPQRSTUVWXYZ[\\]^_`abcdefghijklmnopqrstuvwxyz{|}~\n"=Jx from rfl];refine Sd (BB z rfl (by rw [R8];omega) ?_);simp only [Ba,SD,SE];walk_at"";simp only [Ba,SD,SE];have abv:=U1 r1 (show (z.length:Int)+1≠0 by omega);have abw:=U2 r1 (show (0:Int)<(z.length:Int)+1 by omega);generalize r1 % ((z.length:Int)+1)=at_ at abv abw ⊢;obtain ⟨sgA,jx⟩:=AgW;refine Sd (BB Jx rfl (by rw [jx,R8];decide) ?_);rw [jx];walk_at"";obtain ⟨c1,e1,D⟩:=Ry (i:=r3 % ((95:Nat):Int)) sgA (by omega) (by rw [jx];omega);refine R9 (R9 (BZ _ _ _ rfl rfl (by rw [jx,R8];decide) e1 ?_));walk_at"";refine Sd (BB z rfl (by rw [R8];omega) ?_);walk_at"";have jy:=tb.cut (some (r3 % if (z.length:Int) > 1 then (z.length:Int) else 1)) none;generalize (r3 % if (z.length:Int) > 1 then (z.length:Int) else 1)=kk at jy ⊢;have lc1:=jy.l;refine Sd (BB _ rfl (by rw [R8];omega) ?_);walk_at"";refine Sd (BB _ rfl (by rw [R8];omega) ?_);have lZ:=jy.abu;generalize B9 (B9 z (some kk) none) none (some 1)=iF at lZ ⊢;walk_at"";obtain ⟨fwA,qO⟩:=AgX;obtain ⟨c3,e3,I⟩:=Ry (z:=Jy) (i:=r3 % 6) fwA (by omega) (by rw [qO];omega);refine R9 (R9 (BZ Jy _ _ rfl rfl (by rw [qO,R8];decide) e3 ?_));walk_at"";refine ⟨AA,λb nb=>?_⟩;have s1:=(Ae.refl H).upd (o:=.lst [.str ⟨#[c1]⟩,.str iF,.str ⟨#[c3]⟩]) nb;have bz:(upd H b (.lst [.str ⟨#[c1]⟩,.str iF,.str ⟨#[c3]⟩])) b=some (.lst [.str ⟨#[c1]⟩,.str iF,.str ⟨#[c3]⟩]):=Ah;generalize upd H b (.lst [.str ⟨#[c1]⟩,.str iF,.str ⟨#[c3]⟩])=H1 at s1 bz ⊢;have qP:=s1 _ _ hR;obtain ⟨sg,asg,qQ⟩:∃ sg,BI [V.str ⟨#[c1]⟩,.str iF,.str ⟨#[c3]⟩] (r0 / 9 % 3)=some (.str sg)/\TB sg 1 1:=by
   rcases (show r0 / 9 % 3=0\/r0 / 9 % 3=1\/r0 / 9 % 3=2 by omega) with e | e | e<;>rw [e]
   .exact ⟨_,rfl,.one D⟩
   .exact ⟨_,rfl,lZ⟩
   .exact ⟨_,rfl,.one I⟩
  walk_at"";refine Sd (BF (.of bz) asg ?_);simp only [Ba,SD,SE];clear bz nb e1 e3 jy lZ lc1
  have ts:=qQ.l;have cl:∀ lo hi,(B9 z lo hi).length<=9000:=λlo hi=>Sy (tb.cut lo hi).l l9;walk_at"";by_cases w2:r0 % 9<2
  .refine CP (decide_eq_true w2) ?_;walk_at"";refine Sd (BB _ rfl (by rw [R8];omega) ?_);walk_at"";refine R9 (Sd (Bw _ _ rfl rfl (by have:=cl none (some at_);rw [R8];omega) ?_));walk_at"";refine Sd (BB _ rfl (by rw [R8];omega) ?_);refine R9 (Sd (Bw _ _ rfl rfl (by have:=cl none (some at_);have:=cl (some (at_+r0 % 9)) none;rw [AV,R8];omega) ?_));exact q _ _ s1 ((((tb.cut _ _).app qQ).app (tb.cut _ _)).up (by omega) (by omega))
  refine CQ (decide_eq_false w2) ?_;walk_at"";by_cases w3:r0 % 9=2
  .refine CP (decide_eq_true (congrArg V.int w3)) ?_;walk_at"";refine Sd (BB _ rfl (by rw [R8];omega) ?_);walk_at"";refine Sd (BB _ rfl (by rw [R8];omega) ?_);refine R9 (Sd (Bw _ _ rfl rfl (by have:=cl none (some at_);have:=cl (some (at_+1+r2 % 3)) none;rw [R8];omega) ?_));exact q _ _ s1 (((tb.cut _ _).app (tb.cut _ _)).up (by omega) (by omega))
  refine CQ (decide_eq_false (λe=>w3 (V.int.inj e))) ?_;walk_at"";by_cases w4:r0 % 9=3
  .refine CP (decide_eq_true (congrArg V.int w4)) ?_;walk_at"";refine Sd (BB _ rfl (by rw [R8];omega) ?_);walk_at"";refine Sd (BB _ rfl (by rw [R8];omega) ?_);refine R9 (Sd (Bw _ _ rfl rfl (by have:=cl none (some (at_+1+r2 % 3));have:=cl (some at_) none;rw [R8];omega) ?_));exact q _ _ s1 (((tb.cut _ _).app (tb.cut _ _)).up (by omega) (by omega))
  refine CQ (decide_eq_false (λe=>w4 (V.int.inj e))) ?_;walk_at"";refine ⟨AA,λmb qR=>?_⟩;have s2:=(Ae.refl H1).upd (o:=.lst [.str " ",.str "\n"]) qR;have e2:(upd H1 mb (.lst [.str " ",.str "\n"])) mb=some (.lst [.str " ",.str "\n"]):=Ah;generalize upd H1 mb (.lst [.str " ",.str "\n"])=H2 at s2 e2 ⊢;have qS:=s2 _ _ qP;obtain ⟨mk,qT,dm,e,iG,jz,e1⟩:∃ mk,BI [V.str " ",V.str "\n"] (r0 % 9 % 2)=some (.str mk)/\mk.length=1/\∃ e,BV mk=e/\AS mk/\e<=1:=by
   rcases (show r0 % 9 % 2=0\/r0 % 9 % 2=1 by omega) with x | x<;>rw [x]
   .exact ⟨_,rfl,by decide +kernel,0,by decide +kernel,by unfold AS;decide +kernel,by decide⟩
   .exact ⟨_,rfl,by decide +kernel,1,by decide +kernel,by unfold AS;decide +kernel,by decide⟩
  walk_at"";refine Sd (BF (.of e2) qT ?_);simp only [Ba,SD,SE];walk_at"";refine ⟨(by rw [dm];rfl),by omega,λsa qU=>?_⟩;obtain ⟨k0,ws0,jA⟩:=Ji z mk;have cS:∀ p∈Txt.split z mk,AS p:=λp m=>tb.part m;obtain ⟨sl,sc⟩:=Rw (z:=z) dm iG;generalize Txt.split z mk=ps at jA cS sl sc ⊢;have psn:0<ps.length:=by rw [jA];simp
  have psl:ps.length<=BL ps:=by
   clear jA cS sl sc psn
   induction ps with
   | nil=>exact S7 _
   | cons p r ih=>show r.length+1<=(p.length+1)+BL r;omega
  have s3:=(Ae.refl H2).upd (o:=.lst (ps.map V.str)) qU;have e3:(upd H2 sa (.lst (ps.map V.str))) sa=some (.lst (ps.map V.str)):=Ah;generalize upd H2 sa (.lst (ps.map V.str))=H3 at s3 e3 ⊢;have jB:=s3 _ _ qS;have dR:=s1.trans (s2.trans s3);have tn:=tb.n;simp only [Ba,SD,SE];clear e2 qR qU qS qP jA qT
  walk_at"";refine R9 (AX _ _ rfl (.inl (.of e3)) ?_);rw [R5];walk_at"";have AM:=U1 r1 (show (ps.length:Int)≠0 by omega);have ma:=U2 r1 (show (0:Int)<(ps.length:Int) by omega);have ot0:=U1 r2 (show (ps.length:Int)≠0 by omega);have ot1:=U2 r2 (show (0:Int)<(ps.length:Int) by omega);obtain ⟨g,ao,mo⟩:∃ g,BI (ps.map V.str) (r2 % (ps.length:Int))=some (.str g)/\g∈ps:=by obtain ⟨v,x1,x2⟩:=Ez (xs:=ps.map V.str) ot0 (by rw [R5];exact ot1);rw [SK] at x2;obtain ⟨y,hy,rfl⟩:=UE.mp x2;exact ⟨y,x1,SV hy⟩
  simp only [Ba,SD,SE];refine R9 (AX _ _ rfl (.inl (.of e3)) ?_);rw [R5];walk_at"";generalize r1 % (ps.length:Int)=d at AM ma ⊢;have wl:=Ru mo;have wc:=Rv (e:=e) mo;have wa:=cS g mo;have ae2:=L5 ps d.toNat;have ae3:=L6 e ps d.toNat;have ldr:=AgT ps d.toNat;have cdr:=AgU e ps d.toNat;simp only [Ba,SD,SE];by_cases m0:r4 % 4=0
  .refine CP (decide_eq_true (congrArg V.int m0)) ?_;walk_at"";refine R9 (AX sa _ rfl (.of e3) (λD n1=>?_));rw [Hn _ _ AM,<- VA];have s4:=(Ae.refl H3).upd (o:=.lst ((ps.take d.toNat).map V.str)) n1;have f1:(upd H3 D (.lst ((ps.take d.toNat).map V.str))) D=some (.lst ((ps.take d.toNat).map V.str)):=Ah;generalize upd H3 D (.lst ((ps.take d.toNat).map V.str))=O at s4 f1 ⊢;have e4:=s4 _ _ e3;have jC:=s4 _ _ jB;walk_at"";refine R9 (AX sa _ rfl (.of e4) (λB n2=>?_));rw [Ho _ _ (show 0<=d+1 by omega),<- Wq,show (d+1).toNat=d.toNat+1 by omega];have Y:=(Ae.refl O).upd (o:=.lst ((ps.drop (d.toNat+1)).map V.str)) n2;have f2:(upd O B (.lst ((ps.drop (d.toNat+1)).map V.str))) B=some (.lst ((ps.drop (d.toNat+1)).map V.str)):=Ah;generalize upd O B (.lst ((ps.drop (d.toNat+1)).map V.str))=H5 at Y f2 ⊢;have e5:=Y _ _ e4;walk_at"";refine R9 (R9 (A0 D B _ _ rfl rfl (Y _ _ f1) f2 (by rw [R5,R5,R8];simp only [SF,SU,Ue,TR];omega) (λI n3=>?_)));rw [<- Su];have s6:=(Ae.refl H5).upd (o:=.lst ((ps.take d.toNat++ps.drop (d.toNat+1)).map V.str)) n3;have f3:(upd H5 I (.lst ((ps.take d.toNat++ps.drop (d.toNat+1)).map V.str))) I=some (.lst ((ps.take d.toNat++ps.drop (d.toNat+1)).map V.str)):=Ah;generalize upd H5 I (.lst ((ps.take d.toNat++ps.drop (d.toNat+1)).map V.str))=H6 at s6 f3 ⊢;walk_at"";refine B3 mk I (ps.take d.toNat++ps.drop (d.toNat+1)) rfl ⟨rfl,.of f3,?_,by rw [dm];decide,?_⟩
   .rw [Hq];rw [Cy];omega
   refine q _ _ (dR.trans (s4.trans (Y.trans (s6)))) (TB.join dm iG (λp m=>?_) jz ?_ ?_)
   .skip
    rcases SG.mp m with m | m
    .exact cS p (UC m)
    .exact cS p (Wr m)
   .rw [Cy];omega
   .rw [Ej];omega
  refine CQ (decide_eq_false (λe=>m0 (V.int.inj e))) ?_;walk_at"";by_cases m1:r4 % 4=1
  .refine CP (decide_eq_true (congrArg V.int m1)) ?_;walk_at"";refine R9 (AX sa _ rfl (.of e3) (λD n1=>?_));rw [Hn _ _ AM,<- VA];have s4:=(Ae.refl H3).upd (o:=.lst ((ps.take d.toNat).map V.str)) n1;have f1:(upd H3 D (.lst ((ps.take d.toNat).map V.str))) D=some (.lst ((ps.take d.toNat).map V.str)):=Ah;generalize upd H3 D (.lst ((ps.take d.toNat).map V.str))=O at s4 f1 ⊢;have e4:=s4 _ _ e3;have jC:=s4 _ _ jB;walk_at"";refine Sd (BF (.of e4) ao ?_);walk_at"";refine ⟨AA,λB n2=>?_⟩;have Y:=(Ae.refl O).upd (o:=.lst ([g].map V.str)) n2;have f2:(upd O B (.lst ([g].map V.str))) B=some (.lst ([g].map V.str)):=Ah;rw [show upd O B (.lst [V.str g])=upd O B (.lst ([g].map V.str)) from rfl];generalize upd O B (.lst ([g].map V.str))=H5 at Y f2 ⊢;have e5:=Y _ _ e4;walk_at"";refine R9 (R9 (A0 D B _ _ rfl rfl (Y _ _ f1) f2 (by rw [R5,R5,R8];simp only [SF,SU,Ue,TR];omega) (λI n3=>?_)));rw [<- Su];have s6:=(Ae.refl H5).upd (o:=.lst ((ps.take d.toNat++[g]).map V.str)) n3;have f3:(upd H5 I (.lst ((ps.take d.toNat++[g]).map V.str))) I=some (.lst ((ps.take d.toNat++[g]).map V.str)):=Ah;generalize upd H5 I (.lst ((ps.take d.toNat++[g]).map V.str))=H6 at s6 f3 ⊢;walk_at"";have e6:=s6 _ _ e5;refine R9 (AX sa _ rfl (.of e6) (λl4 n4=>?_));rw [Ho _ _ AM,<- Wq];have s7:=(Ae.refl H6).upd (o:=.lst ((ps.drop d.toNat).map V.str)) n4;have f4:(upd H6 l4 (.lst ((ps.drop d.toNat).map V.str))) l4=some (.lst ((ps.drop d.toNat).map V.str)):=Ah;generalize upd H6 l4 (.lst ((ps.drop d.toNat).map V.str))=H7 at s7 f4 ⊢;have e7:=s7 _ _ e6;walk_at"";refine R9 (R9 (A0 I l4 _ _ rfl rfl (s7 _ _ f3) f4 (by rw [R5,R5,R8];simp only [SF,SU,Ue,TR];omega) (λl5 n5=>?_)));rw [<- Su];have s8:=(Ae.refl H7).upd (o:=.lst (((ps.take d.toNat++[g])++ps.drop d.toNat).map V.str)) n5;have f5:(upd H7 l5 (.lst (((ps.take d.toNat++[g])++ps.drop d.toNat).map V.str))) l5=some (.lst (((ps.take d.toNat++[g])++ps.drop d.toNat).map V.str)):=Ah;generalize upd H7 l5 (.lst (((ps.take d.toNat++[g])++ps.drop d.toNat).map V.str))=H8 at s8 f5 ⊢;walk_at"";refine B3 mk l5 ((ps.take d.toNat++[g])++ps.drop d.toNat) rfl ⟨rfl,.of f5,?_,by rw [dm];decide,?_⟩
   .rw [Hq];rw [Cy,Cy,Gd];omega
   refine q _ _ (dR.trans (s4.trans (Y.trans (s6.trans (s7.trans (s8)))))) (TB.join dm iG (λp m=>?_) jz ?_ ?_)
   .skip
    rcases SG.mp m with m | m
    .rcases SG.mp m with m | m
     .exact cS p (UC m)
     .rw [SA.mp m];exact wa
    .exact cS p (Wr m)
   .rw [Cy,Cy,Gd];omega
   .rw [Ej,Ej,L4];omega
  refine CQ (decide_eq_false (λe=>m1 (V.int.inj e))) ?_;walk_at"";by_cases m2:r4 % 4=2
  .refine CP (decide_eq_true (congrArg V.int m2)) ?_;walk_at"";refine ⟨AA,λwb nwb=>?_⟩;have jD:=(Ae.refl H3).upd (o:=.lst (Ek.map V.str)) nwb;have qV:(upd H3 wb (.lst (Ek.map V.str))) wb=some (.lst (Ek.map V.str)):=Ah;rw [show upd H3 wb (.lst [V.str "long",V.str "seekers",V.str "line",V.str "group",V.str "2",V.str "60",V.str "61",V.str "00",V.str ""])=upd H3 wb (.lst (Ek.map V.str)) from rfl];generalize upd H3 wb (.lst (Ek.map V.str))=O at jD qV ⊢;have e4:=jD _ _ e3;have jC:=jD _ _ jB;obtain ⟨J,awd,mwd⟩:∃ J,BI (Ek.map V.str) (r3 % 9)=some (.str J)/\J∈Ek:=by
    obtain ⟨v,x1,x2⟩:=Ez (xs:=Ek.map V.str) (k:=r3 % 9) (by omega) (by rw [R5];show r3 % 9<9;omega);rw [SK] at x2;obtain ⟨y,hy,rfl⟩:=UE.mp x2;exact ⟨y,x1,SV hy⟩
   obtain ⟨wa,wl7,wn⟩:=AgY J mwd;have wa:AS J:=wa;walk_at"";refine Sd (BF (.of qV) awd ?_);simp only [Ba,SD,SE];walk_at"";refine R9 (AX sa _ rfl (.of e4) (λD n1=>?_));rw [Hn _ _ AM,<- VA];have Y:=(Ae.refl O).upd (o:=.lst ((ps.take d.toNat).map V.str)) n1;have f1:(upd O D (.lst ((ps.take d.toNat).map V.str))) D=some (.lst ((ps.take d.toNat).map V.str)):=Ah;generalize upd O D (.lst ((ps.take d.toNat).map V.str))=H5 at Y f1 ⊢;have e5:=Y _ _ e4;have hR5:=Y _ _ jC;walk_at"";refine ⟨AA,λB n2=>?_⟩;have s6:=(Ae.refl H5).upd (o:=.lst ([J].map V.str)) n2;have f2:(upd H5 B (.lst ([J].map V.str))) B=some (.lst ([J].map V.str)):=Ah;rw [show upd H5 B (.lst [V.str J])=upd H5 B (.lst ([J].map V.str)) from rfl];generalize upd H5 B (.lst ([J].map V.str))=H6 at s6 f2 ⊢;have e6:=s6 _ _ e5;walk_at"";refine R9 (R9 (A0 D B _ _ rfl rfl (s6 _ _ f1) f2 (by rw [R5,R5,R8];simp only [SF,SU,Ue,TR];omega) (λI n3=>?_)));rw [<- Su];have s7:=(Ae.refl H6).upd (o:=.lst ((ps.take d.toNat++[J]).map V.str)) n3;have f3:(upd H6 I (.lst ((ps.take d.toNat++[J]).map V.str))) I=some (.lst ((ps.take d.toNat++[J]).map V.str)):=Ah;generalize upd H6 I (.lst ((ps.take d.toNat++[J]).map V.str))=H7 at s7 f3 ⊢;walk_at"";have e7:=s7 _ _ e6;refine R9 (AX sa _ rfl (.of e7) (λl4 n4=>?_));rw [Ho _ _ (show 0<=d+1 by omega),<- Wq,show (d+1).toNat=d.toNat+1 by omega];have s8:=(Ae.refl H7).upd (o:=.lst ((ps.drop (d.toNat+1)).map V.str)) n4;have f4:(upd H7 l4 (.lst ((ps.drop (d.toNat+1)).map V.str))) l4=some (.lst ((ps.drop (d.toNat+1)).map V.str)):=Ah;generalize upd H7 l4 (.lst ((ps.drop (d.toNat+1)).map V.str))=H8 at s8 f4 ⊢;have e8:=s8 _ _ e7;walk_at"";refine R9 (R9 (A0 I l4 _ _ rfl rfl (s8 _ _ f3) f4 (by rw [R5,R5,R8];simp only [SF,SU,Ue,TR];omega) (λl5 n5=>?_)));rw [<- Su];have s9:=(Ae.refl H8).upd (o:=.lst (((ps.take d.toNat++[J])++ps.drop (d.toNat+1)).map V.str)) n5;have f5:(upd H8 l5 (.lst (((ps.take d.toNat++[J])++ps.drop (d.toNat+1)).map V.str))) l5=some (.lst (((ps.take d.toNat++[J])++ps.drop (d.toNat+1)).map V.str)):=Ah;generalize upd H8 l5 (.lst (((ps.take d.toNat++[J])++ps.drop (d.toNat+1)).map V.str))=H9 at s9 f5 ⊢;walk_at"";refine B3 mk l5 ((ps.take d.toNat++[J])++ps.drop (d.toNat+1)) rfl ⟨rfl,.of f5,?_,by rw [dm];decide,?_⟩
   .rw [Hq];rw [Cy,Cy,Gd];omega
   refine q _ _ (dR.trans (jD.trans (Y.trans (s6.trans (s7.trans (s8.trans (s9))))))) (TB.join dm iG (λp m=>?_) jz ?_ ?_)
   .skip
    rcases SG.mp m with m | m
    .rcases SG.mp m with m | m
     .exact cS p (UC m)
     .rw [SA.mp m];exact wa
    .exact cS p (Wr m)
   .rw [Cy,Cy,Gd];omega
   .rw [Ej,Ej,L4];omega
  refine CQ (decide_eq_false (λe=>m2 (V.int.inj e))) ?_;walk_at"";refine R9 (AX sa _ rfl (.of e3) (λD n1=>?_));rw [Hn _ _ AM,<- VA];have s4:=(Ae.refl H3).upd (o:=.lst ((ps.take d.toNat).map V.str)) n1;have f1:(upd H3 D (.lst ((ps.take d.toNat).map V.str))) D=some (.lst ((ps.take d.toNat).map V.str)):=Ah;generalize upd H3 D (.lst ((ps.take d.toNat).map V.str))=O at s4 f1 ⊢;have e4:=s4 _ _ e3;have jC:=s4 _ _ jB;walk_at"";refine Sd (BF (.of e4) ao ?_);walk_at"";refine ⟨AA,λB n2=>?_⟩;have Y:=(Ae.refl O).upd (o:=.lst ([g].map V.str)) n2;have f2:(upd O B (.lst ([g].map V.str))) B=some (.lst ([g].map V.str)):=Ah;rw [show upd O B (.lst [V.str g])=upd O B (.lst ([g].map V.str)) from rfl];generalize upd O B (.lst ([g].map V.str))=H5 at Y f2 ⊢;have e5:=Y _ _ e4;walk_at"";refine R9 (R9 (A0 D B _ _ rfl rfl (Y _ _ f1) f2 (by rw [R5,R5,R8];simp only [SF,SU,Ue,TR];omega) (λI n3=>?_)));rw [<- Su];have s6:=(Ae.refl H5).upd (o:=.lst ((ps.take d.toNat++[g]).map V.str)) n3;have f3:(upd H5 I (.lst ((ps.take d.toNat++[g]).map V.str))) I=some (.lst ((ps.take d.toNat++[g]).map V.str)):=Ah;generalize upd H5 I (.lst ((ps.take d.toNat++[g]).map V.str))=H6 at s6 f3 ⊢;walk_at"";have e6:=s6 _ _ e5;refine R9 (AX sa _ rfl (.of e6) (λl4 n4=>?_));rw [Ho _ _ (show 0<=d+1 by omega),<- Wq,show (d+1).toNat=d.toNat+1 by omega];have s7:=(Ae.refl H6).upd (o:=.lst ((ps.drop (d.toNat+1)).map V.str)) n4;have f4:(upd H6 l4 (.lst ((ps.drop (d.toNat+1)).map V.str))) l4=some (.lst ((ps.drop (d.toNat+1)).map V.str)):=Ah;generalize upd H6 l4 (.lst ((ps.drop (d.toNat+1)).map V.str))=H7 at s7 f4 ⊢;have e7:=s7 _ _ e6;walk_at"";refine R9 (R9 (A0 I l4 _ _ rfl rfl (s7 _ _ f3) f4 (by rw [R5,R5,R8];simp only [SF,SU,Ue,TR];omega) (λl5 n5=>?_)));rw [<- Su];have s8:=(Ae.refl H7).upd (o:=.lst (((ps.take d.toNat++[g])++ps.drop (d.toNat+1)).map V.str)) n5;have f5:(upd H7 l5 (.lst (((ps.take d.toNat++[g])++ps.drop (d.toNat+1)).map V.str))) l5=some (.lst (((ps.take d.toNat++[g])++ps.drop (d.toNat+1)).map V.str)):=Ah;generalize upd H7 l5 (.lst (((ps.take d.toNat++[g])++ps.drop (d.toNat+1)).map V.str))=H8 at s8 f5 ⊢;walk_at"";refine B3 mk l5 ((ps.take d.toNat++[g])++ps.drop (d.toNat+1)) rfl ⟨rfl,.of f5,?_,by rw [dm];decide,?_⟩
  .rw [Hq];rw [Cy,Cy,Gd];omega
  refine q _ _ (dR.trans (s4.trans (Y.trans (s6.trans (s7.trans (s8)))))) (TB.join dm iG (λp m=>?_) jz ?_ ?_)
  .skip
   rcases SG.mp m with m | m
   .rcases SG.mp m with m | m
    .exact cS p (UC m)
    .rw [SA.mp m];exact wa
   .exact cS p (Wr m)
  .rw [Cy,Cy,Gd];omega
  .rw [Ej,Ej,L4];omega
structure El (n:Nat)(d:PyData):Prop where
 c:Vz d=true
 k:Ua d<=n
theorem Ma {n:Nat}:∀{ds:List PyData},(∀ d∈ds,El n d)->V3 ds=true/\U4 ds<=n
 | [],_=>⟨rfl,S7 _⟩
 | d :: ds,h=>by
  obtain ⟨g,p⟩:=Ma λe m=>h e (SI _ m);have:=h d SS;refine ⟨?_,?_⟩
  .show (Vz _ && V3 _)=true;rw [this.c,g];rfl
  .show max (Ua d) (U4 ds)<=n;exact Y4.mpr ⟨this.k,p⟩
theorem El.tup {n:Nat}{ds:List PyData}(h:∀ d∈ds,El n d):El (n+1) (.tuple ds):=⟨(Ma h).1,by rw [AeY];exact Nat.succ_le_succ (Ma h).2⟩
theorem El.str {n:Nat}{z:Str}(h:AS z):El n (.str z):=⟨Lc h,by simp [Ua]⟩
theorem El.int {n:Nat}(z:Int):El n (.int z):=⟨rfl,by simp [Ua]⟩
theorem RD {p:PyData->Prop}{a:PyData}(g:p a):∀ d∈[a],p d:=λd m=>by
 rw [SA.mp m];exact g
theorem Jz {p:PyData->Prop}{a:PyData}{l:List PyData}(g:p a)(B:∀ d∈l,p d):∀ d∈a :: l,p d:=λd m=>by
 rcases Si.mp m with rfl | m
 .exact g
 .exact B d m
def JA (gz:List (Str×Int)):List PyData:=gz.map λg=>.tuple [.str g.1,.int g.2]
theorem Mb {K:R0}{H:Hp}:∀{ts:List Pr},BR H ts->aR K H (ts.map AD) (JA (ts.map (·.2)))
 | [],_=>.nil
 | t :: ts,h=>.cons (.tup (.of (h t SS)) (.cons (.str _) (.cons (.int _) .nil))) (Mb λu m=>h u (SI _ m))
theorem RE {x y:Str×Int}:∀{gz:List (Str×Int)},(gz.map (·.1)).Nodup->x∈gz->y∈gz->x.1=y.1->x=y
 | [],_,hx,_,_=>absurd hx (by simp)
 | t :: gz,nd,hx,hy,e=>by
  rw [Th,Te] at nd;rcases Si.mp hx with d | m1<;>rcases Si.mp hy with g | m2
  .rw [d,g]
  .exact absurd (Sx.mpr ⟨y,m2,by rw [<- e,d]⟩) nd.1
  .exact absurd (Sx.mpr ⟨x,m1,by rw [e,g]⟩) nd.1
  .exact RE nd.2 m1 m2 e
theorem Ag1 {u v:List (Str×Int)}(d:(u.map (·.1)).Nodup)(p:u.Perm v)(hu:u.Pairwise (λx y=>BQ x.1 y.1))(g:v.Pairwise (λx y=>BQ x.1 y.1)):u=v:=by refine ZI (le:=λx y:Str×Int=>BQ x.1 y.1) (λx y hx hy B D=>?_) hu g p;exact RE d hx (p.mem_iff.mpr hy) (Oa B D)
def RF (K:R0)(a:An):Sp:=λvs H Q _=>∃(t:Str)(R:Bm),vs=[.str t]/\F7 t/\At H R/\∀ H',At H' R->Av H H'->Q (.bl true) H'
theorem CI (b:Bool):Vz (.list [.bool b,.bool (!b),.bool true,.bool false])=true/\Ua (.list [.bool b,.bool (!b),.bool true,.bool false])<=32:=by cases b<;>decide
theorem EN {K:R0}{H:Hp}{l:Addr}{b:Bool}(h:H l=some (.lst (BU b))):Is K H (.ref l) (.list [.bool b,.bool (!b),.bool true,.bool false]):=.lst (.of h) (.cons (.bl _) (.cons (.bl _) (.cons (.bl _) (.cons (.bl _) .nil))))
theorem RG:A8 ["text","found","kinds","e","parts","long","lines","seekers","groups","due"] ["text"] (Ab (top 103)):=.of
theorem Mc:Nm (Ab (top 103)) "text":=.of
theorem EO:Nm (Ab (top 103)) "found":=.of
theorem Fx:Nm (Ab (top 103)) "kinds":=.of
theorem Hs:Nm (Ab (top 103)) "e":=.of
theorem Md:Nm (Ab (top 103)) "parts":=.of
theorem Me:Nm (Ab (top 103)) "long":=.of
theorem Mf:Nm (Ab (top 103)) "lines":=.of
theorem Mg:Nm (Ab (top 103)) "seekers":=.of
theorem Mh:Nm (Ab (top 103)) "groups":=.of
theorem RH:Nm (Ab (top 103)) "due":=.of
theorem RI:Gm (Ab (top 103)) "tuple":=.of
theorem RJ:Gm (Ab (top 103)) "sorted":=.of
theorem Ag2:Gm (Ab (top 103)) "_law_good":=.of
theorem Ag3:Gm (Ab (top 103)) "_law_desk_made":=.of
theorem Ag4:Gm (Ab (top 103)) "_law_read":=.of
theorem Ag5:Gm (Ab (top 103)) "read_plan":=.of
theorem Ag6:Gm (Ab (top 103)) "HallError":=.of
theorem JB:Gm (Ab (top 103)) "isinstance":=.of
theorem Ag7:Gm (Ab (top 103)) "NotSo":=.of
theorem Ag8:Gm (Ab (top 103)) "NoSwitch":=.of
theorem Ag9:Gm (Ab (top 103)) "NoRow":=.of
theorem Aha:Gm (Ab (top 103)) "NoLine":=.of
theorem Ahb:Gm (Ab (top 103)) "NoFigure":=.of
theorem Ahc:Gm (Ab (top 103)) "ValueError":=.of
theorem Ahd:Gm (Ab (top 103)) "BadPlan":=.of
theorem Ahe:Gm (Ab (top 103)) "NoText":=.of
theorem Ahf (F:AW K "_law_right" "_law_right" (top 103) f fd)(T:Ju P w K mg a)(gf:Bf P w K mg base (Bd P w) 5 "read_plan" ["text"] (LH K a))(md:Bf P w K mg base AI 2 "_law_read" ["text"] (QI K))(mf:Bf P w K mg base AI 10 "_law_desk_made" ["text"] (Rb K a))(mh:Bf P w K mg base AI 1 "_law_good" ["long","lines","seekers","groups"] (Pq K)):AE P w K mg base AI 11 f fd ["text"] (RF K a):=by
 refine F.ok RG λaf A outer s H vs Q E hr h=>?_
 .obtain ⟨z,R,rfl,tok,t,q⟩:=h;have hu:=hr.units;have nd:=RG.nd;refine ⟨_,(@Ai _ _ _ _ _ (AG 1 nd EO Ci)
    (Ai (AG 2 nd Fx (A7 Af))
    (Ai (NT 3 Ag6 Hs T.iC nd (λEw pins W hp ho=>(Ap (AG 1 nd EO (Acn gf Ag5 hr.d hp (Ac (Aa 0 Mc) Af))))) (λL=>(Ai (AG 2 nd Fx (A7 (Ac (AH DN JB T.cK DO (Ac (Aa 3 Hs) (Ac (BK (v:=.ref a.ax) Ahe T.dM rfl) Af))) (Ac (AH DN JB T.cK DO (Ac (Aa 3 Hs) (Ac (BK (v:=.ref a.av) Ahd T.bV rfl) Af))) (Ac (AH DN JB T.cK DO (Ac (Aa 3 Hs) (Ac (HU (v:=.ty "ValueError") Ahc T.lU NS rfl) Af))) Af)))))
     (Ap (CK (B2 Vy V1 V2 Ey (Aa 2 Fx) (Ac (AH DN JB T.cK DO (Ac (Aa 3 Hs) (Ac (Dw (Ac (BK (v:=.ref a.aN) Ahb T.hV rfl) (Ac (BK (v:=.ref a.aL) Aha T.hJ rfl) (Ac (BK (v:=.ref a.aO) Ag9 T.eN rfl) (Ac (BK (v:=.ref a.aK) Ag8 T.gN rfl) (Ac (BK (v:=.ref a.aM) Ag7 T.hU rfl) Af)))))) Af))) Af)))))))
    (Ai (AG 4 nd Md (Bh md Ag4 hr.d Bj (Ac (Aa 0 Mc) Af)))
    (Ai (AR (AK (Ca hu) (Bh mf Ag3 hr.d Bj (Ac (Aa 0 Mc) Af)) (Ad3 (Aa 2 Fx) (Hw Ay)) (AN _)) (Ap (AO Du)) AQ)
    (Ai (AR (AK Gv (Aa 4 Md) Ci (AN _)) (Ap (AO (JN (Eu Gv (Aa 1 EO) Ci (AN _)) (Hw (Eu (B4 hu) (Aa 2 Fx) (A7 (FO rfl)) (AN _)))))) AQ)
    (Ai (MQ (Aa 4 Md) (Gn rfl (BW (A9 5 nd Me) (BW (A9 6 nd Mf) (BW (A9 7 nd Mg) (BW (A9 8 nd Mh) DZ))))))
    (Ai (AR (Cs (Dg (Bh mh Ag2 hr.d Bj (Ac (Aa 5 Me) (Ac (Aa 6 Mf) (Ac (Aa 7 Mg) (Ac (Aa 8 Mh) Af))))))) (Ap (AO (JN (Eu Gv (Aa 1 EO) Ci (AN _)) (Hw (Eu (B4 hu) (Aa 2 Fx) (A7 (FO rfl)) (AN _)))))) AQ)
    (Ai (AR (AK (Ca hu) (Aa 2 Fx) (A7 Af) (AN _)) (Ap (AO Du)) AQ)
    (Ai (AG 9 nd RH (Dw (Ac (Aa 5 Me) (Ac (CF HM RI T.fU HS (Ac (AH GJ RJ T.cM DP (Ac (Aa 6 Mf) Af)) Af)) (Ac (Aa 7 Mg) (Ac (CF HM RI T.fU HS (Ac (AH Ku RJ T.cM DP (Ac (Aa 8 Mh) Af)) Af)) Af))))))
    (Ap (AO (Eu (B4 hu) (Dw (Ac (Cj (Aa 1 EO) rfl) (Ac (Cj (Aa 1 EO) rfl) (Ac (Cj (Aa 1 EO) rfl) (Ac (Cj (Aa 1 EO) rfl) Af))))) (Aa 9 RH) (AN _)))))))))))))),?_⟩
  try dsimp only [aE,aF]
  have bj:CN ["text","found","kinds","e","parts","long","lines","seekers","groups","due"] [V.str z]=[some (.str z),none,none,none,none,none,none,none,none,none]:=rfl;simp only [bj,SD,SE];walk_at"";refine ⟨AA,λkd qW=>?_⟩;have t0:=t.new (u:=.lst []) qW;have s0:=(Ae.refl H).upd (o:=.lst []) qW;generalize upd H kd (.lst [])=H1 at t0 s0 ⊢;simp only [Ba,SD,SE];walk_at"";intro Ew pins;walk_at"";refine ⟨tok,?_⟩;cases er:Cw z with
  | none =>
   intro H2 s2;refine ⟨T.ft.m,λL fF=>?_⟩;have s3:=(Ae.refl H2).upd (o:=BN L (Sg a.ax)) fF;have e3:(upd H2 L (BN L (Sg a.ax))) L=some (BN L (Sg a.ax)):=Ah;generalize upd H2 L (BN L (Sg a.ax))=H3 at s3 e3 ⊢;walk_at"";refine Sd (B0 _ _ _ _ _ rfl ⟨.exc e3 T.ft.e,rfl,T.ft.t,?_⟩);walk_at"";refine Sd (B0 _ _ _ _ _ rfl ⟨.exc e3 T.ft.e,rfl,T.ft.b,?_⟩);walk_at"";refine Sd (B0 _ _ _ _ _ rfl ⟨.exc e3 T.ft.e,rfl,T.ft.v,?_⟩);refine ⟨AA,λD cQ=>?_⟩;have t3:=(t0.same s2).same s3;have t4:=t3.new (u:=.lst [V.bl true,V.bl false,V.bl true]) cQ;have s4:=(Ae.refl H3).upd (o:=.lst [V.bl true,V.bl false,V.bl true]) cQ;have bE:(upd H3 D (.lst [V.bl true,V.bl false,V.bl true])) D=some (.lst [V.bl true,V.bl false,V.bl true]):=Ah;generalize upd H3 D (.lst [V.bl true,V.bl false,V.bl true])=H4 at t4 s4 bE ⊢;walk_at"";refine ⟨.inl ⟨rfl,_,.of bE⟩,?_⟩;walk_at"";refine ⟨AA,λtk fH=>?_⟩;have s5:=(Ae.refl H4).upd (o:=.tup [V.ref a.aN,V.ref a.aL,V.ref a.aO,V.ref a.aK,V.ref a.aM]) fH;have bG:(upd H4 tk (.tup [V.ref a.aN,V.ref a.aL,V.ref a.aO,V.ref a.aK,V.ref a.aM])) tk=some (.tup [V.ref a.aN,V.ref a.aL,V.ref a.aO,V.ref a.aK,V.ref a.aM]):=Ah;generalize upd H4 tk (.tup [V.ref a.aN,V.ref a.aL,V.ref a.aO,V.ref a.aK,V.ref a.aM])=H5 at s5 bG ⊢;have cj:=s5 _ _ bE;refine R9 (Dx L _ tk _ _ _ rfl ⟨s5 _ _ (s4 _ _ e3),T.ft.e,bG,rfl,T.ft.o,?_⟩);walk_at"";refine BZ D _ _ rfl rfl cj (by show 3<sizeLine;decide) ?_;have t6:=(t4.same s5).fY (o':=.lst ([V.bl true,V.bl false,V.bl true]++[.bl false]));have p6:Av H5 (upd H5 D (.lst ([V.bl true,V.bl false,V.bl true]++[.bl false]))):=.chg cj rfl;have cR:Av H2 (upd H5 D (.lst ([V.bl true,V.bl false,V.bl true]++[.bl false]))):=(Av.of (s3.trans (s4.trans s5))).trans p6;generalize upd H5 D (.lst ([V.bl true,V.bl false,V.bl true]++[.bl false]))=H6 at t6 p6 cR ⊢;have t6:At H6 ((D,.lst (BU true)) :: _):=t6;simp only [SD,SE];clear s3 e3 s4 bE s5 bG cj t4 t3
   walk_at"";refine ⟨tok,?_⟩;rw [er];intro H7 s7;simp only [Ba,SD,SE];have t7:=t6.same s7;walk_at"";refine CZ z _ rfl ⟨tok,t7,λ_ I l8 t8 p8=>?_,(λp J=>by rw [er] at J;cases J),(λp J=>by rw [er] at J;cases J)⟩;have mi:I l8=some (.lst (BU true)):=t8.hd;have dq:I D=some (.lst (BU true)):=t8.tl.hd;walk_at"";refine  ⟨true,.inl ⟨_,.of dq,rfl⟩,?_⟩;refine Bt ?_;refine R9 ⟨_,_,EN mi,EN dq,(CI _).1,(CI _).1,(CI _).2,?_⟩;rw [Ws _ (CI _).1];walk_at"";refine ⟨AA,λcb iH=>?_⟩;have s9:=(Ae.refl I).upd (o:=.lst (BU true)) iH;have e9:(upd I cb (.lst (BU true))) cb=some (.lst (BU true)):=Ah;rw [show upd I cb (.lst [V.bl true,V.bl false,V.bl true,V.bl false])=upd I cb (.lst (BU true)) from rfl];generalize upd I cb (.lst (BU true))=H9 at s9 e9 ⊢;walk_at"";refine R9 ⟨_,_,EN (s9 _ _ dq),EN e9,(CI _).1,(CI _).1,(CI _).2,?_⟩;rw [Ws _ (CI _).1];walk_at"";exact q H9 (t8.same s9).tl.tl.tl ((Av.of (s0.trans s2)).trans (cR.trans ((Av.of s7).trans (p8.trans (.of s9)))))
  | some pp =>
   obtain ⟨B,zs,Y,gz⟩:=pp;refine ⟨λgd H2 p zs' gz' s2 np pa pm so pg sg=>?_,λng H2 s2=>?_⟩
   .walk_at"";refine ⟨tok,?_⟩;rw [er];intro H7 tp l g ts s7 nl mj jE iy O jF;obtain ⟨aW,lt,gt,aq,hp,ai,eL,iw,abx⟩:=pa.ins;have t2:At H2 ((p,.ins a.Plan aW (DB B lt Y gt)) :: (kd,.lst []) :: R):=t0.add s2 np hp;simp only [Ba,SD,SE];have iI:=t2.add s7 nl O.l;have mq:∀ b,b∈((p,HO.ins a.Plan aW (DB B lt Y gt)) :: (kd,.lst []) :: R).map (·.1)->g≠b:=λb m e=>t2.free mj (by rw [e];exact m);have t7:At H7 ((g,.lst (ts.map AD)) :: (l,.lst (zs.map V.str)) :: (p,.ins a.Plan aW (DB B lt Y gt)) :: (kd,.lst []) :: R):=⟨λc m=>by
     rcases Si.mp m with rfl | m
     .exact O.g
     .exact iI.at_ c m,Te.mpr ⟨λm=>by
      rcases Si.mp m with e | m
      .exact jE e.symm
      .exact mq g m rfl,iI.nd⟩⟩
    walk_at"";refine CZ z _ rfl ⟨tok,t7,(λJ=>by rw [er] at J;cases J),(λp J gp=>by rw [er] at J;cases J;exact absurd gd gp),λp0 J _ I t8 p8=>?_⟩;have jG:I g=some (.lst (ts.map AD)):=t8.hd;have jH:I l=some (.lst (zs.map V.str)):=t8.tl.hd;have hp8:I p=some (.ins a.Plan aW (DB B lt Y gt)):=t8.tl.tl.hd;have dq:I kd=some (.lst []):=t8.tl.tl.tl.hd;have iJ:ED I l g zs ts:=⟨jH,jG,λu m=>p8.t (O.lay u m),O.dj,O.bQ,O.fl,O.fg⟩;have mB:=p8.t iy;have aby:=p8.t (s7 _ _ ai);have abz:=p8.t (s7 _ _ eL);have abA:BR I aq:=λu m=>p8.t (s7 _ _ (iw u m));have good:DR B Y zs ts:=Co.iff.mp (by rw [jF];exact gd);walk_at"";refine  ⟨false,.inl ⟨_,.of dq,rfl⟩,?_⟩;refine Bv ?_;walk_at"";refine Bw tp _ rfl (.of mB) rfl ?_;simp only [Ba,SD,SE];walk_at"";refine Dx B l Y g zs ts rfl ⟨iJ,λb H9 hb s9=>?_⟩;rw [hb.mpr good];walk_at"";refine ⟨AA,λcb iH=>?_⟩;have sA:=(Ae.refl H9).upd (o:=.lst []) iH;have eA:(upd H9 cb (.lst [])) cb=some (.lst []):=Ah;generalize upd H9 cb (.lst [])=HA at sA eA ⊢;have mC:=s9.trans sA;walk_at"";refine R9 ⟨_,_,.lst (.of (mC _ _ dq)) .nil,.lst (.of eA) .nil,rfl,rfl,(by rw [Fn];show 0+1<=32;decide),?_⟩;rw [Ws _ rfl];walk_at"";obtain ⟨g1,⟨⟨z1,z2⟩,oz,nz⟩,lg,og,jI⟩:=id good;refine Bw l zs rfl (.of (mC _ _ jH)) (by omega) (λl2 bP cy gK kK=>?_);have sB:=(Ae.refl HA).upd (o:=.lst (bP.map V.str)) cy;have eB:(upd HA l2 (.lst (bP.map V.str))) l2=some (.lst (bP.map V.str)):=Ah;generalize upd HA l2 (.lst (bP.map V.str))=HB at sB eB ⊢;walk_at"";refine CZ l2 (bP.map V.str) rfl (Sd ⟨.of eB,λlu nlu=>?_⟩);have sC:=(Ae.refl HB).upd (o:=.tup (bP.map V.str)) nlu;have eC:(upd HB lu (.tup (bP.map V.str))) lu=some (.tup (bP.map V.str)):=Ah;generalize upd HB lu (.tup (bP.map V.str))=HC at sC eC ⊢;have mD:=mC.trans (sB.trans sC);walk_at"";refine CZ g ts rfl ⟨.of (mD _ _ jG),iJ.lay.same mD,jI,by omega,λl3 cT fk g0 kM=>?_⟩;have sD:=(Ae.refl HC).upd (o:=.lst (cT.map AD)) fk;have eD:(upd HC l3 (.lst (cT.map AD))) l3=some (.lst (cT.map AD)):=Ah;generalize upd HC l3 (.lst (cT.map AD))=HD at sD eD ⊢;walk_at"";refine CZ l3 (cT.map AD) rfl (Sd ⟨.of eD,λgu ngu=>?_⟩);have sE:=(Ae.refl HD).upd (o:=.tup (cT.map AD)) ngu;have eE:(upd HD gu (.tup (cT.map AD))) gu=some (.tup (cT.map AD)):=Ah;generalize upd HD gu (.tup (cT.map AD))=HE at sE eE ⊢;walk_at"";refine ⟨AA,λtf ntf=>?_⟩;have sF:=(Ae.refl HE).upd (o:=.tup [.int B,.ref lu,.int Y,.ref gu]) ntf;have eF:(upd HE tf (.tup [.int B,.ref lu,.int Y,.ref gu])) tf=some (.tup [.int B,.ref lu,.int Y,.ref gu]):=Ah;generalize upd HE tf (.tup [.int B,.ref lu,.int Y,.ref gu])=HF at sF eF ⊢;have qX:=sD.trans (sE.trans sF);have qY:=mD.trans qX;have jJ:=qY _ _ hp8;simp only [Ba,SD,SE];walk_at"";refine B8 p a.Plan aW _ _ rfl jJ T.pc.cls T.pc.l rfl ?_;walk_at"";refine B8 p a.Plan aW _ _ rfl jJ T.pc.cls T.pc.n rfl ?_;walk_at"";refine B8 p a.Plan aW _ _ rfl jJ T.pc.cls T.pc.s rfl ?_;walk_at"";refine B8 p a.Plan aW _ _ rfl jJ T.pc.cls T.pc.g rfl ?_;refine ⟨AA,λtg ntg=>?_⟩;have sG:=(Ae.refl HF).upd (o:=.tup [.int B,.ref lt,.int Y,.ref gt]) ntg;have eG:(upd HF tg (.tup [.int B,.ref lt,.int Y,.ref gt])) tg=some (.tup [.int B,.ref lt,.int Y,.ref gt]):=Ah;generalize upd HF tg (.tup [.int B,.ref lt,.int Y,.ref gt])=HG at sG eG ⊢;have gh:=qY.trans sG;have ez:bP=zs':=Kp (gK.trans pm.symm) kK so;have et:cT.map (·.2)=gz':=Ag1 (by rw [Tt];exact ((g0.map _).nodup_iff.mpr jI)) (by
     have:=g0.map (λu:Pr=>u.2);rw [jF] at this;exact this.trans pg.symm) (Wg.mpr kM) sg
    subst ez;have ly:El 3 (.tuple [.int B,.tuple (bP.map Tj),.int Y,.tuple (JA gz')]):=.tup (Jz (.int _) (Jz (.tup (n:=1) (λd m=>by
     obtain ⟨y,my,rfl⟩:=Sx.mp m;exact .str (O.dj y (gK.mem_iff.mp my)).1)) (Jz (.int _) (RD (.tup (n:=1) (λd m=>by
     obtain ⟨y,my,rfl⟩:=Sx.mp m;rw [<- et] at my;obtain ⟨u,mu,rfl⟩:=Sx.mp my;exact .tup (n:=0) (Jz (.str (O.bQ u (g0.mem_iff.mp mu)).1) (RD (.int _)))))))))
    have i1:aR K HG (aq.map AD) (JA gz'):=by rw [<- abx];exact Mb (abA.same gh)
    have i2:aR K HG (cT.map AD) (JA gz'):=by rw [<- et];exact Mb (λu m=>gh _ _ (iJ.lay u (g0.mem_iff.mp m)))
    walk_at"";refine R9 ⟨_,_,.tup (.of eG) (.cons (.int _) (.cons (.tup (.of (gh _ _ aby)) (DS bP)) (.cons (.int _) (.cons (.tup (.of (gh _ _ abz)) i1) .nil)))),.tup (.of (sG _ _ eF)) (.cons (.int _) (.cons (.tup (.of ((qX.trans sG) _ _ eC)) (DS bP)) (.cons (.int _) (.cons (.tup (.of ((sF.trans sG) _ _ eE)) i2) .nil)))),ly.c,ly.c,(by have:=ly.k;omega),?_⟩;rw [Ws _ ly.c];exact q HG (t8.same gh).tl.tl.tl.tl ((Av.of (s0.trans (s2.trans s7))).trans (p8.trans (.of gh)))
   .refine ⟨T.fb.m,λL fF=>?_⟩;have s3:=(Ae.refl H2).upd (o:=BN L (Sg a.av)) fF;have e3:(upd H2 L (BN L (Sg a.av))) L=some (BN L (Sg a.av)):=Ah;generalize upd H2 L (BN L (Sg a.av))=H3 at s3 e3 ⊢;walk_at"";refine Sd (B0 _ _ _ _ _ rfl ⟨.exc e3 T.fb.e,rfl,T.fb.t,?_⟩);walk_at"";refine Sd (B0 _ _ _ _ _ rfl ⟨.exc e3 T.fb.e,rfl,T.fb.b,?_⟩);walk_at"";refine Sd (B0 _ _ _ _ _ rfl ⟨.exc e3 T.fb.e,rfl,T.fb.v,?_⟩);refine ⟨AA,λD cQ=>?_⟩;have t3:=(t0.same s2).same s3;have t4:=t3.new (u:=.lst [V.bl false,V.bl true,V.bl true]) cQ;have s4:=(Ae.refl H3).upd (o:=.lst [V.bl false,V.bl true,V.bl true]) cQ;have bE:(upd H3 D (.lst [V.bl false,V.bl true,V.bl true])) D=some (.lst [V.bl false,V.bl true,V.bl true]):=Ah;generalize upd H3 D (.lst [V.bl false,V.bl true,V.bl true])=H4 at t4 s4 bE ⊢;walk_at"";refine ⟨.inl ⟨rfl,_,.of bE⟩,?_⟩;walk_at"";refine ⟨AA,λtk fH=>?_⟩;have s5:=(Ae.refl H4).upd (o:=.tup [V.ref a.aN,V.ref a.aL,V.ref a.aO,V.ref a.aK,V.ref a.aM]) fH;have bG:(upd H4 tk (.tup [V.ref a.aN,V.ref a.aL,V.ref a.aO,V.ref a.aK,V.ref a.aM])) tk=some (.tup [V.ref a.aN,V.ref a.aL,V.ref a.aO,V.ref a.aK,V.ref a.aM]):=Ah;generalize upd H4 tk (.tup [V.ref a.aN,V.ref a.aL,V.ref a.aO,V.ref a.aK,V.ref a.aM])=H5 at s5 bG ⊢;have cj:=s5 _ _ bE;refine R9 (Dx L _ tk _ _ _ rfl ⟨s5 _ _ (s4 _ _ e3),T.fb.e,bG,rfl,T.fb.o,?_⟩);walk_at"";refine BZ D _ _ rfl rfl cj (by show 3<sizeLine;decide) ?_;have t6:=(t4.same s5).fY (o':=.lst ([V.bl false,V.bl true,V.bl true]++[.bl false]));have p6:Av H5 (upd H5 D (.lst ([V.bl false,V.bl true,V.bl true]++[.bl false]))):=.chg cj rfl;have cR:Av H2 (upd H5 D (.lst ([V.bl false,V.bl true,V.bl true]++[.bl false]))):=(Av.of (s3.trans (s4.trans s5))).trans p6;generalize upd H5 D (.lst ([V.bl false,V.bl true,V.bl true]++[.bl false]))=H6 at t6 p6 cR ⊢;have t6:At H6 ((D,.lst (BU false)) :: _):=t6;simp only [SD,SE];clear s3 e3 s4 bE s5 bG cj t4 t3
    walk_at"";refine ⟨tok,?_⟩;rw [er];intro H7 tp l g ts s7 nl mj jE iy O jF;simp only [Ba,SD,SE];have iI:=t6.add s7 nl O.l;have mq:∀ b,b∈((D,HO.lst (BU false)) :: (kd,.lst []) :: R).map (·.1)->g≠b:=λb m e=>t6.free mj (by rw [e];exact m);have t7:At H7 ((g,.lst (ts.map AD)) :: (l,.lst (zs.map V.str)) :: (D,.lst (BU false)) :: (kd,.lst []) :: R):=⟨λc m=>by
     rcases Si.mp m with rfl | m
     .exact O.g
     .exact iI.at_ c m,Te.mpr ⟨λm=>by
      rcases Si.mp m with e | m
      .exact jE e.symm
      .exact mq g m rfl,iI.nd⟩⟩
    walk_at"";refine CZ z _ rfl ⟨tok,t7,(λJ=>by rw [er] at J;cases J),λp J _ I l8 t8 p8=>?_,(λp J gp=>by rw [er] at J;cases J;exact absurd gp ng)⟩;have mi:I l8=some (.lst (BU false)):=t8.hd;have jG:I g=some (.lst (ts.map AD)):=t8.tl.hd;have jH:I l=some (.lst (zs.map V.str)):=t8.tl.tl.hd;have dq:I D=some (.lst (BU false)):=t8.tl.tl.tl.hd;have iJ:ED I l g zs ts:=⟨jH,jG,λu m=>p8.t (O.lay u m),O.dj,O.bQ,O.fl,O.fg⟩;have mB:=p8.t iy;walk_at"";refine  ⟨true,.inl ⟨_,.of dq,rfl⟩,?_⟩;refine Bt ?_;refine R9 ⟨_,_,EN mi,EN dq,(CI _).1,(CI _).1,(CI _).2,?_⟩;rw [Ws _ (CI _).1];walk_at"";refine Bw tp _ rfl (.of mB) rfl ?_;simp only [Ba,SD,SE];walk_at"";refine Dx B l Y g zs ts rfl ⟨iJ,λb H9 hb s9=>?_⟩;rw [show b=false from by
     cases b with
     | false=>rfl
     | true=>exact absurd (Co.iff.mpr (hb.mp rfl)) (by rw [jF];exact ng)]
    walk_at"";refine ⟨AA,λcb iH=>?_⟩;have sA:=(Ae.refl H9).upd (o:=.lst (BU false)) iH;have eA:(upd H9 cb (.lst (BU false))) cb=some (.lst (BU false)):=Ah;rw [show upd H9 cb (.lst [V.bl false,V.bl true,V.bl true,V.bl false])=upd H9 cb (.lst (BU false)) from rfl];generalize upd H9 cb (.lst (BU false))=HA at sA eA ⊢;walk_at"";refine R9 ⟨_,_,EN (sA _ _ (s9 _ _ dq)),EN eA,(CI _).1,(CI _).1,(CI _).2,?_⟩;rw [Ws _ (CI _).1];walk_at"";exact q HA (t8.same (s9.trans sA)).tl.tl.tl.tl.tl ((Av.of (s0.trans s2)).trans (cR.trans ((Av.of s7).trans (p8.trans (.of (s9.trans sA))))))
def JC (K:R0):Sp:=λvs H Q _=>∃(p:Addr)(ns:List Int),vs=[.ref p]/\AZ K H p (ns.map V.int)/\ns.length<=63/\∀ H',Q (.bl true) H'
def ER (j:Nat):Nat:=if j=0 then 1500 else if j=1 then 3010 else if j=2 then 6030 else 12070
def Fy (j:Nat):Nat:=if j=0 then 102 else if j=1 then 206 else if j=2 then 414 else 830
theorem TB.step {z:Str}{j:Nat}(d:j<3)(h:TB z (2 * ER j+10) (2 * Fy j+2)):TB z (ER (j+1)) (Fy (j+1)):=by rcases (show j=0\/j=1\/j=2 by omega) with rfl | rfl | rfl<;>exact h
theorem RK {j:Nat}:ER j<=12070/\Fy j<=830/\(j<3->ER j<=9000):=by unfold ER Fy;refine ⟨?_,?_,λh=>?_⟩<;>(repeat' split)<;>omega
theorem Ahg {rows:List Str}(h:∀ x∈rows,RT x):BL rows<=14 * rows.length/\BY 1 rows=rows.length:=by
 induction rows with
 | nil=>exact ⟨Sh _,rfl⟩
 | cons x r ih =>
  obtain ⟨d,g⟩:=ih λy m=>h y (SI _ m);have hx:=h x SS;have p:BV x=0:=List.count_eq_zero.mpr hx.n;have:=hx.l;refine ⟨?_,?_⟩
  .show (x.length+1)+BL r<=14 * (r.length+1);omega
  .show (BV x+1)+BY 1 r=r.length+1;omega
theorem Ahh {l:List Int}(h:l.length=5):∃ r0 d r2 g p,l=[r0,d,r2,g,p]:=by
 match l,h with
 | [r0,d,r2,g,p],_=>exact ⟨r0,d,r2,g,p,rfl⟩
theorem Ahi {d:List Int}(h:d.length=15){j:Nat}(D:j<3):∃ r0 g r2 p B,CC (d.map V.int) (some (5 * (j:Int))) (some (5 * (j:Int)+5))=[r0,g,r2,p,B].map V.int/\∀ v∈[r0,g,r2,p,B],v∈d:=by
 obtain ⟨r0,g,r2,p,B,e⟩:=Ahh (l:=(d.drop (5 * j)).take 5) (by rw [SU,Ue];omega);refine ⟨r0,g,r2,p,B,?_,λv m=>?_⟩
 .rw [<- e,VA,Wq];unfold CC HT.aA;dsimp only;rw [if_neg (by omega),if_neg (by omega),R5,h,show min (5 * (j:Int)).toNat 15=5 * j by omega,show min (5 * (j:Int)+5).toNat 15 - 5 * j=5 by omega]
 .rw [<- e] at m;exact Wr (UC m)
theorem RL:A8 ["script","k","rows","at","text","row","j"] ["script"] (Ab (top 104)):=.of
theorem Mi:Nm (Ab (top 104)) "script":=.of
theorem JD:Nm (Ab (top 104)) "k":=.of
theorem JE:Nm (Ab (top 104)) "rows":=.of
theorem Mj:Nm (Ab (top 104)) "at":=.of
theorem Ht:Nm (Ab (top 104)) "text":=.of
theorem RM:Nm (Ab (top 104)) "row":=.of
theorem Ml:Nm (Ab (top 104)) "j":=.of
theorem RN:Gm (Ab (top 104)) "range":=.of
theorem RO:Gm (Ab (top 104)) "_law_right":=.of
theorem Ahj:Gm (Ab (top 104)) "_law_spoilt":=.of
theorem RP:Gm (Ab (top 104)) "_law_draws":=.of
theorem Ahk:Gm (Ab (top 104)) "len":=.of
theorem Ahl:Gm (Ab (top 104)) "_law_plan_rows":=.of
theorem Ahm:Gm (Ab (top 104)) "_law_plan":=.of
theorem Ahn (F:AW K "law" "law" (top 104) f fd)(T:Ju P w K mg a)(eJ:Bf P w K mg base AI 2 "_law_draws" ["script","k","many","base"] (KQ K))(mE:Bf P w K mg base AI 3 "_law_plan" ["script","at"] (PR K))(mF:Bf P w K mg base AI 1 "_law_plan_rows" ["parts"] Rf)(mG:Bf P w K mg base AI 1 "_law_spoilt" ["text","row"] Rz)(jK:Bf P w K mg base AI 11 "_law_right" ["text"] (RF K a)):AE P w K mg base AI 12 f fd ["script"] (JC K):=by
 refine F.ok RL λaf A outer s H vs Q E I h=>?_
 .obtain ⟨ps,ns,rfl,hS,hn,q⟩:=h;have hu:=I.units;have L:=RL.nd;obtain ⟨C0,c0,kS⟩:∃ C0:Bm,At H C0/\∀ H',At H' C0->Av H H'->AZ K H' ps (ns.map V.int):=by
   rcases hS with (hS | ⟨o,hS⟩) | hS
   .exact ⟨[(ps,.lst (ns.map V.int))],⟨λc m=>by rw [SA.mp m];exact hS,by simp⟩,λH' t _=>.of t.hd⟩
   .exact ⟨[],⟨(λc m=>nomatch m),.nil⟩,λH' _ p=>.inl (.inr ⟨o,p.f _ _ rfl hS⟩)⟩
   .exact ⟨[],⟨(λc m=>nomatch m),.nil⟩,λH' _ _=>.inr hS⟩
  refine ⟨_,(@Ai _ _ _ _ _ (C6 U3 rfl (FN RN T.d9 (Ac Ag Af)) (A9 1 L JD) (Ai (AG 2 L JE (Bh mF Ahl I.d Bj (Ac (Bh mE Ahm I.d Bj (Ac (Aa 0 Mi) (Ac (Aj BO Ag (Aa 1 JD)) Af))) Af)))
     (Ai (AG 3 L Mj (Aj A6 (As Aw (Bh eJ RP I.d Bj (Ac (Aa 0 Mi) (Ac (Aj AL (Aj BO Ag (Aa 1 JD)) Ag) (Ac Ag (Ac Ag Af))))) Ag (λ_ _=>rfl)) (AH Bl Ahk T.n_len Bg (Ac (Aa 2 JE) Af))))
     (Ai (AG 4 L Ht (B2 Uh Wn Wo FW Ay (Ac (Aj AL (BH BP (Aa 2 JE) (BE (Aa 3 Mj)) BM) (BH BP (Aa 2 JE) BM (BE (Aa 3 Mj)))) Af)))
     (Ai (AG 5 L RM (Bh eJ RP I.d Bj (Ac (Aa 0 Mi) (Ac (Aj AL (Aj BO Ag (Aa 1 JD)) Ag) (Ac Ag (Ac Ag Af))))))
     (Ai (AR (Cs (Dg (Bh jK RO I.d Bj (Ac (Aa 4 Ht) Af)))) (Ap (AO Du)) AQ)
     (Ap (C6 U3 rfl (FN RN T.d9 (Ac Ag Af)) (A9 6 L Ml) (Ai (AG 4 L Ht (Bh mG Ahj I.d Bj (Ac (Aa 4 Ht) (Ac (BH BP (Aa 5 RM) (BE (Aj BO Ag (Aa 6 Ml))) (BE (Aj AL (Aj BO Ag (Aa 6 Ml)) Ag))) Af))))
      (Ap (AR (Cs (Dg (Bh jK RO I.d Bj (Ac (Aa 4 Ht) Af)))) (Ap (AO Du)) AQ)))))))))))
    (Ap (AO Du))),?_⟩
  try dsimp only [aE,aF]
  have bj:CN ["script","k","rows","at","text","row","j"] [V.ref ps]=[some (.ref ps),none,none,none,none,none,none]:=rfl;simp only [bj,SD,SE];walk_at"";refine ⟨by decide,by decide,FH (n:=((3:Int)).toNat) (λi σ H2=>∃ x1 x2 x3 x4 x5 J,σ=[some (.ref ps),x1,x2,x3,x4,x5,J]/\At H2 C0/\Av H H2) ⟨none,none,none,none,none,none,rfl,c0,.refl⟩ ?_ ?_⟩
  .intro i σ H2 hi O;obtain ⟨x1,x2,x3,x4,x5,J,rfl,t2,p2⟩:=O;have hi:i<3:=hi;simp only [Ba,SD,SE,W2];walk_at"";refine B3 ps ns (4 * (i:Int)) rfl ⟨kS H2 t2 p2,hn,by omega,by omega,λH3 t D l sk g zs ts s3 ht hl hg lay good nt nl ng jE nts=>?_⟩;obtain ⟨g1,⟨⟨z1,z2⟩,oz,nz⟩,lg,og,jI⟩:=id good;have iD:Cd D:=⟨by omega,by omega⟩;have iE:Cd sk:=⟨by omega,by omega⟩;have zo:∀ z∈zs,Gb z/\z.length<=4:=λz m=>⟨⟨(oz z m).2,by have:=(oz z m).1;omega,by have:=(oz z m).1;omega⟩,by have:=(oz z m).1;omega⟩;have to:∀ u∈ts,(Gb u.2.1/\u.2.1.length<=4)/\Cd u.2.2:=λu m=>⟨⟨⟨(og u m).2.1,by have:=(og u m).1;omega,by have:=(og u m).1;omega⟩,by have:=(og u m).1;omega⟩,⟨by have:=(og u m).2.2;omega,by have:=(og u m).2.2;omega⟩⟩;walk_at"";refine ND t D l sk g zs ts rfl ⟨ht,hl,hg,lay,iD,iE,z2,lg,λz m=>(zo z m).1,λu m=>⟨(to u m).1.1,(to u m).2⟩,jI,λH4 r4 zs' aq s4 nr4 hZ pm so pt st=>?_⟩;have rt:=AgR (zs:=zs') (gz:=aq.map (·.2)) iD iE (λz m=>zo z (pm.mem_iff.mp m)) (λu m=>by
    obtain ⟨y,my,rfl⟩:=Sx.mp m;exact to y (pt.mem_iff.mp my))
   have rl:=AgS (long:=D) (sk:=sk) (zs:=zs') (gz:=aq.map (·.2));have pe:=pm.length_eq;have te:=pt.length_eq;have me:(aq.map (·.2)).length=aq.length:=R5 ..;generalize (EM D sk zs' (aq.map (·.2))).map Cf=rows at hZ rt rl;have qZ:=s3.trans s4;have t4:=t2.same qZ;have p4:Av H H4:=p2.trans (.of qZ);simp only [Ba,SD,SE];walk_at"";refine B0 ps ns (4 * (i:Int)+2) _ _ rfl ⟨kS H4 t4 p4,by omega,by omega,hn,by decide,by decide,by decide,by decide,λr5 rf H5 s5 nr5 hR5 abB ae4=>?_⟩;obtain ⟨d,rfl⟩:∃ d,rf=[d]:=by
    match rf,abB with
    | [d],_=>exact ⟨d,rfl⟩
   have fz:=s5 _ _ hZ;have t5:=t4.same s5;have p5:=p4.trans (.of s5);have rn:2<=rows.length/\rows.length<=102:=by omega
   walk_at"";refine R9 (AX _ _ rfl (.inl (.of fz)) ?_);rw [R5];walk_at"";have AM:=U1 d (show (rows.length:Int)≠0 by omega);have ma:=U2 d (show (0:Int)<(rows.length:Int) by omega);simp only [Ba,SD,SE];walk_at"";generalize d % (rows.length:Int)=B at AM ma ⊢;walk_at"";refine R9 (AX r4 _ rfl (.of fz) (λl1 n1=>?_));rw [Ho _ _ AM,<- Wq];have s6:=(Ae.refl H5).upd (o:=.lst ((rows.drop B.toNat).map V.str)) n1;have f1:(upd H5 l1 (.lst ((rows.drop B.toNat).map V.str))) l1=some (.lst ((rows.drop B.toNat).map V.str)):=Ah;generalize upd H5 l1 (.lst ((rows.drop B.toNat).map V.str))=H6 at s6 f1 ⊢;walk_at"";refine R9 (AX r4 _ rfl (.of (s6 _ _ fz)) (λl2 n2=>?_));rw [Hn _ _ AM,<- VA];have s7:=(Ae.refl H6).upd (o:=.lst ((rows.take B.toNat).map V.str)) n2;have f2:(upd H6 l2 (.lst ((rows.take B.toNat).map V.str))) l2=some (.lst ((rows.take B.toNat).map V.str)):=Ah;generalize upd H6 l2 (.lst ((rows.take B.toNat).map V.str))=H7 at s7 f2 ⊢;walk_at"";refine R9 (R9 (A0 l1 l2 _ _ rfl rfl (s7 _ _ f1) f2 (by rw [R5,R5,SU,Ue,R8];omega) (λl3 n3=>?_)));rw [<- Su];have s8:=(Ae.refl H7).upd (o:=.lst ((rows.drop B.toNat++rows.take B.toNat).map V.str)) n3;have f3:(upd H7 l3 (.lst ((rows.drop B.toNat++rows.take B.toNat).map V.str))) l3=some (.lst ((rows.drop B.toNat++rows.take B.toNat).map V.str)):=Ah;generalize upd H7 l3 (.lst ((rows.drop B.toNat++rows.take B.toNat).map V.str))=H8 at s8 f3 ⊢;have rg:=s6.trans (s7.trans s8);obtain ⟨q1,q2⟩:=Ahg rt;have c1:=L5 rows B.toNat;have c2:=L6 1 rows B.toNat;walk_at"";refine B3 CU l3 (rows.drop B.toNat++rows.take B.toNat) rfl ⟨rfl,.of f3,(by rw [Hq,Cy];omega),(by show 1<=16;decide),?_⟩;have mH:TB (S9 CU (rows.drop B.toNat++rows.take B.toNat)) (ER 0) (Fy 0):=by
    refine TB.join (e:=1) rfl rfl (λp m=>?_) (λc m=>by
     have:c=10:=by simpa [CU] using m
     omega) (by rw [Cy];show _<=1500;omega) (by rw [Ej];show _<=102;omega)
    rcases SG.mp m with m | m
    .exact (rt p (Wr m)).a
    .exact (rt p (UC m)).a
   generalize S9 CU (rows.drop B.toNat++rows.take B.toNat)=text at mH ⊢;have t8:=t5.same rg;have p8:=p5.trans (.of rg);try simp only [Ba,SD,SE]
   walk_at"";refine B0 ps ns (4 * (i:Int)+3) _ _ rfl ⟨kS H8 t8 p8,by omega,by omega,hn,by decide,by decide,by decide,by decide,λr9 mI H9 s9 nr9 hR9 abC abD=>?_⟩;have t9:=t8.add s9 nr9 hR9;have p9:=p8.trans (.of s9);have bb:∀ v∈mI,0<=v/\v<30000:=λv m=>by have:=abD v m;omega
   have l15:mI.length=15:=abC;try simp only [Ba,SD,SE]
   walk_at"";refine Bw text _ rfl (mH.tok (by decide) (by decide)) t9 (λHA tA pA=>?_);walk_at"";refine ⟨by decide,by decide,FH (n:=((3:Int)).toNat) (λj σ Y=>∃ tx J,σ=[some (.ref ps),some (.int i),some (.ref r4),some (.int B),some (.str tx),some (.ref r9),J]/\TB tx (ER j) (Fy j)/\At Y ((r9,.lst (mI.map V.int)) :: C0)/\Av H Y) ⟨text,J,rfl,mH,tA,p9.trans pA⟩ ?_ ?_⟩
   .intro j σ Y hj O;obtain ⟨tx,J,rfl,tb,tB,pB⟩:=O;have hj:j<3:=hj;obtain ⟨k0,k1,k2,k3,k4,ek,mk⟩:=Ahi l15 hj;have bk:∀ v∈[k0,k1,k2,k3,k4],0<=v/\v<30000:=λv m=>bb v (mk v m);simp only [Ba,SD,SE,W2];walk_at"";refine R9 (AX r9 _ rfl (.of tB.hd) (λl5 n5=>?_));rw [ek];have sC:=(Ae.refl Y).upd (o:=.lst ([k0,k1,k2,k3,k4].map V.int)) n5;have rh:(upd Y l5 (.lst ([k0,k1,k2,k3,k4].map V.int))) l5=some (.lst ([k0,k1,k2,k3,k4].map V.int)):=Ah;generalize upd Y l5 (.lst ([k0,k1,k2,k3,k4].map V.int))=HC at sC rh ⊢;have w0:=bk k0 (by simp);have w1:=bk k1 (by simp);have w2:=bk k2 (by simp);have w3:=bk k3 (by simp);have w4:=bk k4 (by simp);obtain ⟨y1,y2,y3⟩:=RK (j:=j);walk_at"";refine J2 tx l5 k0 k1 k2 k3 k4 (ER j) (Fy j) rfl ⟨rh,⟨w0.1,w1.1,w2.1,w3.1,w4.1⟩,⟨w0.2,w1.2,w2.2,w3.2,w4.2⟩,tb,y3 hj,λHD z' sD tb'=>?_⟩;have ri:=tb'.step hj;obtain ⟨y4,y5,_⟩:=RK (j:=j+1);simp only [Ba,SD,SE];walk_at"";refine Bw z' _ rfl (ri.tok (by omega) (by omega)) ((tB.same sC).same sD) (λHE tE pE=>?_);walk_at"";exact ⟨ri,tE,pB.trans ((Av.of (sC.trans sD)).trans pE)⟩
   .intro σ Y O;obtain ⟨tx,J,rfl,tb,tB,pB⟩:=O;exact Dx _ _ _ _ _ _ rfl ⟨tB.tl,pB⟩
  .intro σ H2 O;obtain ⟨x1,x2,x3,x4,x5,J,rfl,_⟩:=O;walk_at"";exact q _
theorem RQ:A8 ["draw","long","figures","k"] ["draw","long"] (Ab (top 95)):=.of
theorem Mm:Nm (Ab (top 95)) "draw":=.of
theorem Aho:Nm (Ab (top 95)) "long":=.of
theorem JF:Nm (Ab (top 95)) "figures":=.of
theorem Ahp:Nm (Ab (top 95)) "k":=.of
theorem Ahq:Gm (Ab (top 95)) "range":=.of
theorem Ahr (F:AW K "_law_number" "_law_number" (top 95) f fd)(T:Txt K mg a):AE P w K mg base AI 1 f fd ["draw","long"] OW:=by
 refine F.ok RQ λaf A outer s H vs Q E L h=>?_
 .obtain ⟨d,l,rfl,l0,l1,q⟩:=h;have hu:=L.units;have g:=RQ.nd;refine ⟨_,(@Ai _ _ _ _ _ (AG 2 g JF Ay)
    (Ai (C6 U3 rfl (FN Ahq T.d9 (Ac (Aa 1 Aho) Af)) (A9 3 g Ahp) (Ai (AG 2 g JF (Aj AL (Aa 2 JF) (As Aw Ay (Aj A6 (Aa 0 Mm) Ag) (λ_ _=>rfl))))
     (Ap (AG 0 g Mm (Aj D0 (Aa 0 Mm) Ag)))))
    (Ap (AO (Aa 2 JF))))),?_⟩
  try dsimp only [aE,aF]
  walk_at"";refine ⟨by omega,by omega,FH (n:=l.toNat) (λi σ B=>∃(d:Int)(z:Str)(x:Option V),σ=[some (.int d),some (.int l),some (.str z),x]/\B=H/\z.length=i/\Bs z) ?_ ?_ ?_⟩
  .exact ⟨d,_,none,rfl,rfl,rfl,λc hc=>absurd hc (by show ¬ c∈[];simp)⟩
  .intro i σ B hi D;obtain ⟨d,z,x,rfl,rfl,p,hd⟩:=D;walk_at"";obtain ⟨c,O,Y⟩:=Ez (xs:=(Sa "0123456789").cps.toList) (k:=d % 10) (by omega) (by show d % 10<10;omega);have I:∀ m:Nat,m<10->∀ c,(Sa "0123456789").cps.toList[m]?=some c->48<=c/\c<=57:=by
    intro m hm c hc;have k:(Sa "0123456789").cps.toList.all (λc=>decide (48<=c/\c<=57))=true:=by decide +kernel
    simpa using UW.mp k c (SV hc)
   have kc:=I _ (by omega) c Y;refine R9 (R9 (BZ _ _ c rfl rfl (by decide +kernel) O ?_));refine R9 (Sd (Bw _ _ rfl rfl ?_ ?_))
   .rw [p,R8];show i+1<=_;omega
   walk_at"";refine E8 _ _ _ rfl rfl ?_ ?_
   .rw [C2,Dc,SF,<- C2,p];rfl
   .intro e J;rw [Dc] at J;rcases SG.mp J with h | h
    .exact hd e h
    .have:e=c:=by simpa using h
     rw [this];exact kc
  .intro σ B D;obtain ⟨d,z,x,rfl,rfl,p,hd⟩:=D;walk_at"";exact q z p hd
open PySem PySem.Spec PyProof.Rows L2
section
variable {K:R0}{mg:Str->Option Value}{h:Heap}{CX:BA}{k:Nat}{x q:Str}{st:Stmt}{ps:List Str}{sp:Sp}{C:Addr}{A:An}
def Mn (K:R0)(x q:Str)(st:Stmt)(R:Addr->Prop):Prop:=∃(f:Addr)(oc:Value)(od:Option Addr)(sl:Array (Option Value))(kV dc pm:Value)(an:Option Addr)(cd ct:Value),R f/\K.lookup f=some ⟨oc,od,.func (TZ x q (Dj st) (CY st) (Ab st) .none kV dc pm an cd ct),sl⟩/\UP K cd q=true/\Td K (.ref f)=true
structure aJ (K:R0)(x q:Str)(st:Stmt):Prop where
 ex:Mn K x q st λf=>Sv K Sl x=some (some (.ref f))
structure bK (K:R0)(C:Addr)(x q:Str)(st:Stmt):Prop where
 ex:Mn K x q st λf=>Sn K (.ref C) x=some (some (.ref f))/\VE K (.ref f)=true
structure FnR (K:R0)(A:An)(x q:Str)(st:Stmt):Prop where
 ex:Mn K x q st λf=>Sn K (.ref A.aZ) x=some (some (.ref f))/\Sn K (.ref A.aU) x=some (some (.ref f))/\VE K (.ref f)=true
abbrev Mo (x q:Str)(st:Stmt)(ps:List Str):Prop:=∀(kV doc pm:Value)(an:Option Addr)(af ct:Value)(us:List Value),us.length=ps.length->bindArgs (TZ x q (Dj st) (CY st) (Ab st) .none kV doc pm an af ct) ⟨us,[]⟩=pure (ps.zip us)
theorem aJ.fn (F:aJ K x q st)(P:R7)(w:R3)(base:Heap)(X:K.In h)(G:h.Ns Sl mg)(o:∀ f d,AW K x q st f d->AE P w K mg base CX k f d ps sp)(b:Mo x q st ps):Bf P w K mg base CX k x ps sp:=by obtain ⟨f,g,p,B,kV,dc,D,H,I,ct,a,l,c,y⟩:=F.ex;have F:=FK l c y;exact ⟨f,_,SR X G a,y,F.binds b,o f _ F⟩
theorem bK.me (F:bK K C x q st)(P:R7)(w:R3)(mg:Str->Option Value)(base:Heap)(o:∀ f d,AW K x q st f d->AE P w K mg base CX k f d ps sp)(b:Mo x q st ps):Fh P w K mg base CX k C x ps sp:=by obtain ⟨f,g,p,B,kV,dc,D,H,I,ct,⟨a,i⟩,l,c,y⟩:=F.ex;have F:=FK l c y;exact ⟨f,_,⟨a,i,y⟩,F.binds b,o f _ F⟩
theorem bK.gi {z:Str}(F:bK K C "__init__" q st)(P:R7)(w:R3)(mg:Str->Option Value)(base:Heap)(g:mg z=some (.ref C))(m:Uy K C=true)(n:Td K (.ref C)=true)(o:∀ f d,AW K "__init__" q st f d->AE P w K mg base CX k f d ps sp)(b:Mo "__init__" q st ps):Dk P w K mg base CX k C z ps sp:=by obtain ⟨f,p,B,D,kV,dc,H,I,J,ct,⟨a,i⟩,l,c,y⟩:=F.ex;have F:=FK l c y;exact ⟨f,_,g,⟨m,a,i,n⟩,F.binds b,o f _ F⟩
section
variable {f:Addr}{oc:Value}{od:Option Addr}{sl:Array (Option Value)}{kV dc pm:Value}{an:Option Addr}{cd ct:Value}
theorem aJ.of (a:Sv K Sl x=some (some (.ref f)))(l:K.lookup f=some ⟨oc,od,.func (TZ x q (Dj st) (CY st) (Ab st) .none kV dc pm an cd ct),sl⟩)(c:UP K cd q=true)(k:Td K (.ref f)=true):aJ K x q st:=⟨⟨_,_,_,_,_,_,_,_,_,_,a,l,c,k⟩⟩
theorem bK.of (a:Sn K (.ref C) x=some (some (.ref f)))(i:VE K (.ref f)=true)(l:K.lookup f=some ⟨oc,od,.func (TZ x q (Dj st) (CY st) (Ab st) .none kV dc pm an cd ct),sl⟩)(c:UP K cd q=true)(k:Td K (.ref f)=true):bK K C x q st:=⟨⟨_,_,_,_,_,_,_,_,_,_,⟨a,i⟩,l,c,k⟩⟩
end
end
theorem us1 {α:Type}{P:List α->Prop}(h:∀ a,P [a]):∀ us:List α,us.length=1->P us
 | [a],_=>h a
theorem us2 {α:Type}{P:List α->Prop}(h:∀ a b,P [a,b]):∀ us:List α,us.length=2->P us
 | [a,b],_=>h a b
theorem us3 {α:Type}{P:List α->Prop}(h:∀ a b c,P [a,b,c]):∀ us:List α,us.length=3->P us
 | [a,b,c],_=>h a b c
theorem us4 {α:Type}{P:List α->Prop}(h:∀ a b c d,P [a,b,c,d]):∀ us:List α,us.length=4->P us
 | [a,b,c,d],_=>h a b c d
theorem us5 {α:Type}{P:List α->Prop}(h:∀ a b c d e,P [a,b,c,d,e]):∀ us:List α,us.length=5->P us
 | [a,b,c,d,e],_=>h a b c d e
local macro_rules | `(tactic| walk_at "b")=>`(tactic| first
 | exact λ_ _ _ _ _ _=>us2 λ_ _=>rfl
 | exact λ_ _ _ _ _ _=>us1 λ_=>rfl
 | exact λ_ _ _ _ _ _=>us3 λ_ _ _=>rfl
 | exact λ_ _ _ _ _ _=>us4 λ_ _ _ _=>rfl
 | exact λ_ _ _ _ _ _=>us5 λ_ _ _ _ _=>rfl)
abbrev mkA {a0 a1 a2 a3 a4 a5 a6 a7 a8 a9 a10 a11 a12 a13 a14 a15 a16 a17 a18 a19 a20:Addr}:An:=⟨a0,a1,a2,a3,a4,a5,a6,a7,a8,a9,a10,a11,a12,a13,a14,a15,a16,a17,a18,a19,a20⟩
theorem RR {K:R0}{x:Value}{C:Addr}{d:XT}{r:Bool}(c:Uj K C=some d)(t:TN K (.ref C)=some (.type "type"))(s:S0 K x (.ref C)=some r):PySem.W.kitCls K x (.ref C)=some r:=by show (if ((Uj K C).isSome && TN K (.ref C) == some (.type "type"))=true then S0 K x (.ref C) else none)=some r;rw [c,t];exact s
theorem RS {K:R0}{x:Value}{C:Addr}{d:XT}{r:Bool}(c:Uj K C=some d)(t:TN K (.ref C)=some (.type "type"))(b:S0 K (.ref C) (.type "BaseException")=some true)(s:S0 K x (.ref C)=some r):Xj K x (.ref C)=some r:=by unfold Xj;rw [b];exact RR c t s
theorem Dt {K:R0}{x:Value}{C:Addr}{g:XT}{r:Bool}(d:(x == Sg C)=false)(c:Uj K C=some g)(t:TN K (.ref C)=some (.type "type"))(s:S0 K x (.ref C)=some r):TQ K x (.ref C)=some r:=by unfold TQ;rw [d];exact RR c t s
theorem RU {K:R0}{x:Addr}{T:String}{r:Bool}(m:tD T=true)(s:S0 K (.ref x) (.type T)=some r):TQ K (.ref x) (.type T)=some r:=by show (if tD T=true then S0 K (.ref x) (.type T) else none)=some r;rw [m];exact s
theorem DW {K:R0}{x c:Value}{d:List Value}{r:Bool}(h:TQ K x c=some false)(q:Wc K x d=some r):Wc K x (c :: d)=some r:=by unfold Wc;rw [h];exact q
theorem RV (K:R0)(v:Value):TQ K v v=some true:=by unfold TQ;rw [if_pos (beq_self_eq_true v)]
theorem Mp {k:Str}{v:V}:∀{kvs:List (Str×V)}(n:Nat)(_:k ∉ (kvs.take n).map (·.1))(_:kvs[n]?=some (k,v)),Bk (kvs.map λp=>((SM p.1:Aq),p.2)) (.inr k)=some v
 | [],n,_,h=>nomatch n,h
 | p :: r,0,_,h=>by
  cases TU h;exact Dl rfl
 | p :: r,n+1,m,h=>by
  rw [Th,Cc (λe=>m (by rw [tF,Th];exact Si.mpr (.inl (Ub e).symm)))];exact Mp n (λe=>m (by rw [tF,Th];exact SI _ e)) h
def Mq:Sp:=λ_ _ _ _=>False
theorem RW {P:R7}{w:R3}{K:R0}{mg:Str->Option Value}{base:Heap}{CX:BA}{k:Nat}{f:Addr}{d:Sr}{ps:List Str}:AE P w K mg base CX k f d ps Mq:=⟨λ_ _ _ _ h=>h.elim,λ_ _ _ _ _ _ _ _ _ _ _ _ _ h=>h.elim⟩
theorem all_mk {l:Ym}{w:R3}{K:R0}{h:Heap}{mg:Str->Option Value}{fa:Addr}(X:K.In h)(G:h.Ns Sl mg)(B:mg "law"=some (.ref fa)){g D d:Addr}{I J L rj O V:Option Addr}{Y abK abL:Array (Option Value)}{abM abN abO abP rm abQ abR ro rp rq mK rz abS abT abU abV rA abW:Value}{A:An}{t1 t2 t3 t4 t6 q0 q1 q2 q3 q4 q5 q6 q7 q8 q9 q10 q11 q12 q13 q15 q16 q17 q18 q19 r0 r1 r2 r3 r4 r5 r6 r7 r8 r9 r10 r11 r12 r13 r15 r16 r17 r18 r19:Addr}{abX abY abZ ab0 ab1 ab2 ab3 ab4 ab5:Tok}{rB rC rD rE:Array WK}{nW nV nB nN n1 n2 n3 n4 n5 n6:Nat}{mL cI mM mO mP mQ:Array Value}{od1 od2 od3 od4 od5 od6:Option Addr}{sl1 sl2 sl3 sl4 sl5 sl6:Array (Option Value)}{ab6 ab7 ab8 ab9 aca acb acd ace:XT}(iC:Sv K Sl "HallError"=some (some (.ref A.d7)))(bV:Sv K Sl "BadPlan"=some (some (.ref A.av)))(gN:Sv K Sl "NoSwitch"=some (some (.ref A.aK)))(hJ:Sv K Sl "NoLine"=some (some (.ref A.aL)))(hU:Sv K Sl "NotSo"=some (some (.ref A.aM)))(hV:Sv K Sl "NoFigure"=some (some (.ref A.aN)))(eN:Sv K Sl "NoRow"=some (some (.ref A.aO)))(dM:Sv K Sl "NoText"=some (some (.ref A.ax)))(fA:Sv K Sl "WORDS"=some (some (.ref A.bU)))(iA:Sv K Sl "ROWS"=some (some (.ref A.dD)))(ju:Sv K Sl "ANSWERS"=some (some (.ref A.d8)))(acf:Sv K Sl "Keeper"=some (some (.ref A.Keeper)))(acg:Sv K Sl "Desk"=some (some (.ref A.aV)))(ach:Sv K Sl "Plan"=some (some (.ref A.Plan)))(aci:Sv K Sl "Seekers"=some (some (.ref A.aZ)))(i6:Sv K Sl "Switches"=some (some (.ref A.fe)))(acj:Sv K Sl "Group"=some (some (.ref A.aU)))(ack:Sv K Sl "Line"=some (some (.ref A.Line)))(acm:Sv K Sl "Hall"=some (some (.ref A.ak)))(kP:Sv K Sl "WAYS"=some (some (.ref A.gL)))(kQ:Sv K Sl "FIGURES"=some (some (.ref A.iX)))(acn:Sv K Sl "SIGNS"=some (some (.str "0123456789" abX)))(aco:Sv K Sl "LEAST_LONG"=some (some (.int 2 abY)))(acp:Sv K Sl "MOST_LONG"=some (some (.int 4 abZ)))(acq:Sv K Sl "MOST_LINES"=some (some (.int 60 ab0)))(acr:Sv K Sl "MOST_SEEKERS"=some (some (.int 60 ab1)))(acs:Sv K Sl "MOST_GROUPS"=some (some (.int 40 ab2)))(acu:Sv K Sl "MOST_SWITCHES"=some (some (.int 10 ab3)))(acv:Sv K Sl "AT_SEEKERS"=some (some (.str "" ab4)))(acw:Sv K Sl "NONE_WORD"=some (some (.str "none" ab5)))(haa:aJ K "within" "within" (top 2))(hab:aJ K "are_figures" "are_figures" (top 3))(gJ:aJ K "short_number" "short_number" (top 4))(had:aJ K "check_counts" "check_counts" (top 24))(hae:aJ K "check_lines" "check_lines" (top 25))(haf:aJ K "check_groups" "check_groups" (top 26))(hag:aJ K "read_plan" "read_plan" (top 27))(hah:aJ K "check_row" "check_row" (top 28))(hai:aJ K "read_row" "read_row" (top 29))(haj:aJ K "read_number" "read_number" (top 30))(hak:aJ K "read_words" "read_words" (top 66))(hal:aJ K "check_word" "check_word" (top 67))(ham:aJ K "parts_of" "parts_of" (top 69))(han:aJ K "written" "written" (top 70))(aao:Sv K Sl "ask_waiting"=some (some (.ref g)))(lao:K.lookup g=some ⟨abM,I,.func (TZ "ask_waiting" "ask_waiting" (Dj (top 84)) (CY (top 84)) (Ab (top 84)) .none abN abO abP J rm abQ),Y⟩)(cao:UP K rm "ask_waiting"=true)(rF:Td K (.ref g)=true)(hap:aJ K "_law_cell" "_law_cell" (top 93))(haq:aJ K "_law_draws" "_law_draws" (top 94))(har:aJ K "_law_number" "_law_number" (top 95))(has:aJ K "_law_plan" "_law_plan" (top 96))(hat:aJ K "_law_plan_rows" "_law_plan_rows" (top 97))(hau:aJ K "_law_good" "_law_good" (top 98))(hav:aJ K "_law_small" "_law_small" (top 99))(haw:aJ K "_law_read" "_law_read" (top 100))(hax:aJ K "_law_spoilt" "_law_spoilt" (top 101))(hay:aJ K "_law_desk_made" "_law_desk_made" (top 102))(haz:aJ K "_law_right" "_law_right" (top 103))(aba:Sv K Sl "law"=some (some (.ref D)))(lba:K.lookup D=some ⟨abR,L,.func (TZ "law" "law" (Dj (top 104)) (CY (top 104)) (Ab (top 104)) .none ro rp rq rj mK rz),abK⟩)(cba:UP K mK "law"=true)(kba:Td K (.ref D)=true)(jW:bK K A.aZ "__init__" "Seekers.__init__" (Au (top 44) 0))(hbc:bK K A.Line "__init__" "Line.__init__" (Au (top 42) 0))(je:bK K A.Line "turn" "Line.turn" (Au (top 42) 1))(du:bK K A.ak "__init__" "Hall.__init__" (Au (top 48) 0))(hbf:bK K A.ak "waiting" "Hall.waiting" (Au (top 48) 25))(hbg:bK K A.Plan "__init__" "Plan.__init__" (Au (top 23) 0))(hbh:bK K A.Keeper "__init__" "Keeper.__init__" (Au (top 61) 0))(hbi:bK K A.aV "__init__" "Desk.__init__" (Au (top 91) 0))(hbj:bK K A.aV "say" "Desk.say" (Au (top 91) 1))(rdS:ZG K A.fe (.type "type")=true)(spS:Xd K (.ref A.fe) "__getattribute__"=some (some (.builtin "type.__getattribute__")))(fdS:ZH K (.ref A.fe) (.type "type") "__init__"=some (.val (.ref d)))(tyS:TN K (.ref d)=some (.type "function"))(abk:Sn K (.ref A.fe) "__init__"=some (some (.ref d)))(ibk:VE K (.ref d)=true)(lbk:K.lookup d=some ⟨abS,O,.func (TZ "__init__" "Switches.__init__" (Dj (Au (top 37) 0)) (CY (Au (top 37) 0)) (Ab (Au (top 37) 0)) .none abT abU abV V rA abW),abL⟩)(cbk:UP K rA "Switches.__init__"=true)(rG:Td K (.ref d)=true)(aG:Sn K (.ref A.aU) "__init__"=some (some (.ref d)))(acx:Uy K A.aZ=true)(acy:Td K (.ref A.aZ)=true)(acz:Uy K A.Line=true)(acA:Td K (.ref A.Line)=true)(acB:Uy K A.ak=true)(acC:Td K (.ref A.ak)=true)(acD:Uy K A.Plan=true)(acE:Td K (.ref A.Plan)=true)(acF:Uy K A.aU=true)(acG:Td K (.ref A.aU)=true)(acH:Uy K A.Keeper=true)(acI:Td K (.ref A.Keeper)=true)(acJ:Uy K A.aV=true)(acK:Td K (.ref A.aV)=true)(acL:Uo K A.aZ Sz=true)(acM:Ux K A.aZ=true)(acN:UK K A.aZ=true)(acO:Sn K (.ref A.aZ) "__setattr__"=some (some (.builtin "object.__setattr__")))(acP:Sn K (.ref A.aZ) "held_by"=some none)(acQ:Sn K (.ref A.aZ) "jammed"=some none)(acR:Sn K (.ref A.aZ) "taken"=some none)(acS:Sn K (.ref A.aZ) "places"=some none)(acT:Sn K (.ref A.aZ) "stands"=some none)(acU:Sn K (.ref A.aZ) "went"=some none)(acV:Sn K (.ref A.aZ) "mark_at"=some none)(acW:Uo K A.aU Sz=true)(acX:Ux K A.aU=true)(acY:UK K A.aU=true)(acZ:Sn K (.ref A.aU) "__setattr__"=some (some (.builtin "object.__setattr__")))(ac0:Sn K (.ref A.aU) "held_by"=some none)(ac1:Sn K (.ref A.aU) "jammed"=some none)(ac2:Sn K (.ref A.aU) "taken"=some none)(ac3:Uo K A.Line Sz=true)(ac4:Ux K A.Line=true)(ac5:UK K A.Line=true)(ac6:Sn K (.ref A.Line) "__setattr__"=some (some (.builtin "object.__setattr__")))(ac7:Sn K (.ref A.Line) "number"=some none)(ac8:Sn K (.ref A.Line) "place"=some none)(ac9:Sn K (.ref A.Line) "held"=some none)(ada:Sn K (.ref A.Line) "state"=some none)(adb:Sn K (.ref A.Line) "dialled_so_far"=some none)(ade:Sn K (.ref A.Line) "pulses"=some none)(adf:Sn K (.ref A.Line) "far_end"=some none)(adg:Sn K (.ref A.Line) "why"=some none)(adh:Uo K A.ak Sz=true)(adi:Ux K A.ak=true)(adj:UK K A.ak=true)(adk:Sn K (.ref A.ak) "__setattr__"=some (some (.builtin "object.__setattr__")))(adl:Sn K (.ref A.ak) "long"=some none)(adm:Sn K (.ref A.ak) "lines"=some none)(adn:Sn K (.ref A.ak) "switches"=some none)(ado:Sn K (.ref A.ak) "queue"=some none)(adp:Sn K (.ref A.ak) "done"=some none)(adq:Uo K A.Plan Sz=true)(ads:Ux K A.Plan=true)(adt:UK K A.Plan=true)(adu:Sn K (.ref A.Plan) "__setattr__"=some (some (.builtin "object.__setattr__")))(adv:Sn K (.ref A.Plan) "long"=some none)(adw:Sn K (.ref A.Plan) "lines"=some none)(adx:Sn K (.ref A.Plan) "seekers"=some none)(ady:Sn K (.ref A.Plan) "groups"=some none)(adz:Uo K A.Keeper Sz=true)(adA:Ux K A.Keeper=true)(adB:UK K A.Keeper=true)(adC:Sn K (.ref A.Keeper) "__setattr__"=some (some (.builtin "object.__setattr__")))(adD:Sn K (.ref A.Keeper) "plan"=some none)(adE:Sn K (.ref A.Keeper) "own_hall"=some none)(adF:Sn K (.ref A.Keeper) "taken_back"=some none)(adG:Uo K A.aV Sz=true)(adH:Ux K A.aV=true)(adI:UK K A.aV=true)(adJ:Sn K (.ref A.aV) "__setattr__"=some (some (.builtin "object.__setattr__")))(adK:Sn K (.ref A.aV) "keeper"=some none)(adL:Ts K A.av [.type "ValueError",.type "Exception",.type "BaseException",.type "object"] "ValueError.__new__"=true)(adM:Ts K A.aK [.type "ValueError",.type "Exception",.type "BaseException",.type "object"] "ValueError.__new__"=true)(adN:Ts K A.aL [.type "ValueError",.type "Exception",.type "BaseException",.type "object"] "ValueError.__new__"=true)(adO:Ts K A.aM [.type "ValueError",.type "Exception",.type "BaseException",.type "object"] "ValueError.__new__"=true)(adP:Ts K A.aN [.type "ValueError",.type "Exception",.type "BaseException",.type "object"] "ValueError.__new__"=true)(adQ:Ts K A.aO [.type "ValueError",.type "Exception",.type "BaseException",.type "object"] "ValueError.__new__"=true)(adR:Ts K A.ax [.type "ValueError",.type "Exception",.type "BaseException",.type "object"] "ValueError.__new__"=true)(rH:Uj K A.d7=some ab6)(rJ:TN K (.ref A.d7)=some (.type "type"))(rK:Uj K A.ax=some ab7)(adS:TN K (.ref A.ax)=some (.type "type"))(rL:Uj K A.av=some ab8)(adT:TN K (.ref A.av)=some (.type "type"))(rM:Uj K A.aN=some ab9)(rN:TN K (.ref A.aN)=some (.type "type"))(rO:Uj K A.aL=some aca)(rP:TN K (.ref A.aL)=some (.type "type"))(rQ:Uj K A.aO=some acb)(rR:TN K (.ref A.aO)=some (.type "type"))(rS:Uj K A.aK=some acd)(rT:TN K (.ref A.aK)=some (.type "type"))(rV:Uj K A.aM=some ace)(rW:TN K (.ref A.aM)=some (.type "type"))(hb:S0 K (.ref A.d7) (.type "BaseException")=some true)(adU:Sn K (.ref A.ax) "__getattribute__"=some (some (.builtin "BaseException.__getattribute__")))(adV:Sn K (.ref A.ax) "__getattr__"=some none)(adW:Sn K (.ref A.ax) "__class__"=some (some (.builtin "object.__class__")))(adX:S0 K (.ref A.ax) (.type "object")=some true)(adY:S0 K (.ref A.ax) (.type "BaseException")=some true)(adZ:S0 K (.ref A.ax) (.type "ValueError")=some true)(ad0:S0 K (.ref A.ax) (.ref A.d7)=some true)(ad1:S0 K (.ref A.ax) (.ref A.av)=some false)(ad2:(Sg A.ax == Sg A.av)=false)(ad3:S0 K (.ref A.ax) (.ref A.aN)=some false)(ad4:(Sg A.ax == Sg A.aN)=false)(ad5:S0 K (.ref A.ax) (.ref A.aL)=some false)(ad6:(Sg A.ax == Sg A.aL)=false)(ad7:S0 K (.ref A.ax) (.ref A.aO)=some false)(ad8:(Sg A.ax == Sg A.aO)=false)(ad9:S0 K (.ref A.ax) (.ref A.aK)=some false)(aea:(Sg A.ax == Sg A.aK)=false)(aeb:S0 K (.ref A.ax) (.ref A.aM)=some false)(aec:(Sg A.ax == Sg A.aM)=false)(aed:Sn K (.ref A.av) "__getattribute__"=some (some (.builtin "BaseException.__getattribute__")))(aee:Sn K (.ref A.av) "__getattr__"=some none)(aef:Sn K (.ref A.av) "__class__"=some (some (.builtin "object.__class__")))(aeg:S0 K (.ref A.av) (.type "object")=some true)(aeh:S0 K (.ref A.av) (.type "BaseException")=some true)(aei:S0 K (.ref A.av) (.type "ValueError")=some true)(aej:S0 K (.ref A.av) (.ref A.d7)=some true)(aek:S0 K (.ref A.av) (.ref A.ax)=some false)(ael:(Sg A.av == Sg A.ax)=false)(aem:S0 K (.ref A.av) (.ref A.aN)=some false)(aen:(Sg A.av == Sg A.aN)=false)(aeo:S0 K (.ref A.av) (.ref A.aL)=some false)(aep:(Sg A.av == Sg A.aL)=false)(aeq:S0 K (.ref A.av) (.ref A.aO)=some false)(aer:(Sg A.av == Sg A.aO)=false)(aes:S0 K (.ref A.av) (.ref A.aK)=some false)(aet:(Sg A.av == Sg A.aK)=false)(aeu:S0 K (.ref A.av) (.ref A.aM)=some false)(aev:(Sg A.av == Sg A.aM)=false)(lW:K.lookup A.gL=some ⟨.type "dict",none,.dict rB nW,#[]⟩)(oW:(A.gL == Tv)=false)(vW:Fm w.params rB.toList [("lift",.ref t1),("pulse",.ref t2),("gap",.ref t3),("hang",.ref t4)])(lV:K.lookup A.bU=some ⟨.type "dict",none,.dict rC nV,#[]⟩)(oV:(A.bU == Tv)=false)(vV:Fm w.params rC.toList [("long",.int 2),("seekers",.int 2),("line",.int 2),("group",.int 3)])(lB:K.lookup A.dD=some ⟨.type "dict",none,.dict rD nB,#[]⟩)(oB:(A.dD == Tv)=false)(vB:Fm w.params rD.toList [("lift",.ref q0),("hang",.ref q1),("pulse",.ref q2),("gap",.ref q3),("stick",.ref q4),("mend",.ref q5),("dial",.ref q6),("way",.ref q7),("figures",.ref q8),("other",.ref q9),("holds",.ref q10),("why",.ref q11),("paper",.ref q12),("shares",.ref q13),("waiting",.ref t6),("steps",.ref q15),("back",.ref q16),("again",.ref q17),("calls",.ref q18),("waits",.ref q19)])(lN:K.lookup A.d8=some ⟨.type "dict",none,.dict rE nN,#[]⟩)(oN:(A.d8 == Tv)=false)(vN:Fm w.params rE.toList [("lift",.ref r0),("hang",.ref r1),("pulse",.ref r2),("gap",.ref r3),("stick",.ref r4),("mend",.ref r5),("dial",.ref r6),("way",.ref r7),("figures",.ref r8),("other",.ref r9),("holds",.ref r10),("why",.ref r11),("paper",.ref r12),("shares",.ref r13),("waiting",.ref g),("steps",.ref r15),("back",.ref r16),("again",.ref r17),("calls",.ref r18),("waits",.ref r19)])(lT1:K.lookup t1=some ⟨.type "tuple",od1,.seq mL n1,sl1⟩)(zT1:mL.size<=10)(vT1:Ar [.str "rests",.str "rung"] mL.toList)(lT2:K.lookup t2=some ⟨.type "tuple",od2,.seq cI n2,sl2⟩)(zT2:cI.size<=10)(vT2:Ar [.str "dials"] cI.toList)(lT3:K.lookup t3=some ⟨.type "tuple",od3,.seq mM n3,sl3⟩)(zT3:mM.size<=10)(vT3:Ar [.str "dials"] mM.toList)(lT4:K.lookup t4=some ⟨.type "tuple",od4,.seq mO n4,sl4⟩)(zT4:mO.size<=10)(vT4:Ar [.str "waits",.str "dials",.str "rings",.str "talks",.str "told"] mO.toList)(lT5:K.lookup A.iX=some ⟨.type "tuple",od5,.seq mP n5,sl5⟩)(zT5:mP.size<=10)(vT5:Ar [.str "1",.str "2",.str "3",.str "4",.str "5",.str "6",.str "7",.str "8",.str "9",.str "0"] mP.toList)(lT6:K.lookup t6=some ⟨.type "tuple",od6,.seq mQ n6,sl6⟩)(zT6:mQ.size<=10)(vT6:Ar [] mQ.toList)(aew:Sv K Sl "len"=some none)(aex:Sv K Sl "isinstance"=some none)(aey:Sv K Sl "bool"=some none)(aez:Sv K Sl "int"=some none)(aeA:Sv K Sl "range"=some none)(aeB:Sv K Sl "all"=some none)(aeC:Sv K Sl "list"=some none)(aeD:Sv K Sl "enumerate"=some none)(aeE:Sv K Sl "tuple"=some none)(aeF:Sv K Sl "sorted"=some none)(aeG:Sv K Sl "set"=some none)(aeH:Sv K Sl "min"=some none)(aeI:Sv K Sl "str"=some none)(aeJ:Sv K Sl "zip"=some none)(aeK:Sv K Sl "max"=some none)(aeL:Sv K Sl "ValueError"=some none) :
  ∃ fd:Sr,(∀(s:RY)(v:Value),VH s fd ⟨[v],[]⟩ [("script",v)])/\∀ base:Heap,K.In base->base.Ns Sl mg->AE l.prog w K mg base AI 12 fa fd ["script"] (JC K):=by
 have e:=B.symm.trans (SR X G aba);cases e;have T:Ju l.prog w K mg A :=
  { n_len:=TH X G aew,cK:=TH X G aex,ow:=TH X G aey,iY:=TH X G aez,d9:=TH X G aeA,oP:=TH X G aeB,gM:=TH X G aeC,oC:=TH X G aeD,fU:=TH X G aeE,cM:=TH X G aeF,i7:=TH X G aeG,oQ:=TH X G aeH,ig:=TH X G aeI,qv:=TH X G aeJ,lU:=TH X G aeL,oR:=⟨_,SR X G acn⟩,oS:=⟨_,SR X G aco⟩,oU:=⟨_,SR X G acp⟩,oX:=⟨_,SR X G acq⟩,oY:=⟨_,SR X G acr⟩,oZ:=⟨_,SR X G acs⟩,o3:=⟨_,SR X G acu⟩,pO:=⟨_,SR X G acv⟩,qw:=⟨_,SR X G acw⟩,gN:=SR X G gN,i6:=SR X G i6,bV:=SR X G bV,kP:=SR X G kP,hJ:=SR X G hJ,hU:=SR X G hU,hV:=SR X G hV,kQ:=SR X G kQ,fA:=SR X G fA,dM:=SR X G dM,eN:=SR X G eN,iA:=SR X G iA,ju:=SR X G ju,iC:=SR X G iC,aaT:=adM,dh:=adL,aa3:=adN,aa4:=adO,aa6:=adP,ik:=adR,jt:=adQ,aa2:=⟨t1,t2,t3,t4,Im oW lW vW (show ([("lift":Str),"pulse","gap","hang"]).Nodup by decide +kernel) (show 4<=1000 by decide),λH=>.inr ⟨_,_,_,lT1,rfl,rfl,Sy zT1 (by decide),vT1⟩,λH=>.inr ⟨_,_,_,lT2,rfl,rfl,Sy zT2 (by decide),vT2⟩,λH=>.inr ⟨_,_,_,lT3,rfl,rfl,Sy zT3 (by decide),vT3⟩,λH=>.inr ⟨_,_,_,lT4,rfl,rfl,Sy zT4 (by decide),vT4⟩⟩,aa5:=λH=>.inr ⟨_,_,_,lT5,rfl,rfl,Sy zT5 (by decide),vT5⟩,hc:=⟨⟨adh,adi,adj,adk⟩,adl,adm,adn,ado,adp⟩,lc:=⟨⟨ac3,ac4,ac5,ac6⟩,ac7,ac8,ac9,ada,adb,ade,adf,adg⟩,sc:=⟨⟨SS,⟨acL,acM,acN,acO⟩,acP,acQ,acR⟩,acS,acT,acU,acV⟩,gc:=⟨SI _ (SA.mpr rfl),⟨acW,acX,acY,acZ⟩,ac0,ac1,ac2⟩,kd:=Im oV lV vV (show ([("long":Str),"seekers","line","group"]).Nodup by decide +kernel) (show 4<=1000 by decide),rows:=⟨_,t6,Im oB lB vB (show ([("lift":Str),"hang","pulse","gap","stick","mend","dial","way","figures","other","holds","why","paper","shares","waiting","steps","back","again","calls","waits"]).Nodup by decide +kernel) (show 20<=1000 by decide),Mp 14 (show ("waiting":Str) ∉ [("lift":Str),("hang":Str),("pulse":Str),("gap":Str),("stick":Str),("mend":Str),("dial":Str),("way":Str),("figures":Str),("other":Str),("holds":Str),("why":Str),("paper":Str),("shares":Str)] by decide +kernel) rfl,λH=>.inr ⟨_,_,_,lT6,rfl,rfl,Sy zT6 (by decide),vT6⟩⟩,kc:=⟨⟨adz,adA,adB,adC⟩,adD,adE,adF⟩,dc:=⟨⟨adG,adH,adI,adJ⟩,adK⟩,pc:=⟨⟨adq,ads,adt,adu⟩,adv,adw,adx,ady⟩,ft:=⟨⟨by rw [rK];rfl,adU,adV,adW,adX,adY⟩,RS rH rJ hb ad0,RV K _,Dt ad2 rL adT ad1,RU (by decide +kernel) adZ,(DW (Dt ad4 rM rN ad3) (DW (Dt ad6 rO rP ad5) (DW (Dt ad8 rQ rR ad7) (DW (Dt aea rS rT ad9) (DW (Dt aec rV rW aeb) rfl)))))⟩,fb:=⟨⟨by rw [rL];rfl,aed,aee,aef,aeg,aeh⟩,RS rH rJ hb aej,Dt ael rK adS aek,RV K _,RU (by decide +kernel) aei,(DW (Dt aen rM rN aem) (DW (Dt aep rO rP aeo) (DW (Dt aer rQ rR aeq) (DW (Dt aet rS rT aes) (DW (Dt aev rV rW aeu) rfl)))))⟩ }
 have TM:Rx l.prog w K mg A:=⟨T.toTxtR,TH X G aeK⟩;have lS:∃ p,EB l.prog w K A.d8 p/\Bk p (.inr BC)=some (.ref g):=⟨_,Im oN lN vN (show ([("lift":Str),"hang","pulse","gap","stick","mend","dial","way","figures","other","holds","why","paper","shares","waiting","steps","back","again","calls","waits"]).Nodup by decide +kernel) (show 20<=1000 by decide),Mp 14 (show ("waiting":Str) ∉ [("lift":Str),("hang":Str),("pulse":Str),("gap":Str),("stick":Str),("mend":Str),("dial":Str),("way":Str),("figures":Str),("other":Str),("holds":Str),("why":Str),("paper":Str),("shares":Str)] by decide +kernel) rfl⟩;have rX:=FK (st:=(top 84)) lao cao rF;have bao:=rX.binds (ps:=["keeper","words"]) λ_ _ _ _ _ _ us hl=>match us,hl with | [_,_],_=>rfl
 have Fba:=FK (st:=(top 104)) lba cba kba;have mR:=FK (st:=(Au (top 37) 0)) lbk cbk rG;have rY:=mR.binds (ps:=["self","many"]) λ_ _ _ _ _ _ us hl=>match us,hl with | [_,_],_=>rfl
 refine ⟨TZ "law" "law" (Dj (top 104)) (CY (top 104)) (Ab (top 104)) .none ro rp rq rj mK rz,λs v=>.of_eq rfl,λbase _ _=>?_⟩;have cN:=haa.fn l.prog w base X G (λ_ _ F=>Aes F T.toTxt) (by walk_at "b");have km:=hap.fn l.prog w base X G (λ_ _ F=>Aee F T.toTxt) (by walk_at "b");have eJ:=haq.fn l.prog w base X G (λ_ _ F=>Ael F T.toTxt km) (by walk_at "b");have dG:=hab.fn l.prog w base X G (λ_ _ F=>AeC F T.toTxtP) (by walk_at "b");have kE:=had.fn l.prog w base X G (λ_ _ F=>AeJ F T.toTxtP cN) (by walk_at "b");have kF:=hae.fn l.prog w base X G (λ_ _ F=>AeO F T.toTxtP cN dG) (by walk_at "b");have kG:=haf.fn l.prog w base X G (λ_ _ F=>AeT F T.toTxtP cN dG) (by walk_at "b");have MS:=jW.gi l.prog w mg base (SR X G aci) acx acy (λ_ _ F=>Aey F T.toTxtK ⟨rdS,spS,fdS,tyS,rG⟩ (O0 mR T.toTxtS) rY) (by walk_at "b");have MG:Dk l.prog w K mg base AI 2 A.aU "Group" ["self","many"] (Iu K A):=⟨_,_,SR X G acj,⟨acF,aG,ibk,acG⟩,rY,(O0 mR T.toTxtS).mono (by decide)⟩;have aeM:=je.me l.prog w mg base (λ_ _ F=>Afa F T.lc) (by walk_at "b");have ML:=hbc.gi l.prog w mg base (SR X G ack) acz acA (λ_ _ F=>Afe F T.lc aeM) (by walk_at "b");have MP:=hbg.gi l.prog w mg base (SR X G ach) acD acE (λ_ _ F=>AeX F T.toTxtP kE kF kG) (by walk_at "b");have aeN:=hbf.me l.prog w mg base (λ_ _ F=>Af3 F T.toTxtH) (by walk_at "b");have MH:=du.gi l.prog w mg base (SR X G acm) acB acC (λ_ _ F=>Agb F T.toTxtH ML MG MS) (by walk_at "b");have hX:=har.fn l.prog w base X G (λ_ _ F=>Ahr F T.toTxt) (by walk_at "b");have mE:=has.fn l.prog w base X G (λ_ _ F=>Afv F T.toTxtP eJ hX) (by walk_at "b");have lC:=gJ.fn l.prog w base X G (λ_ _ F=>AfC F T.toTxtR dG) (by walk_at "b");have jj:=haj.fn l.prog w base X G (λ_ _ F=>AfF F T.toTxtR lC) (by walk_at "b");have lD:=hah.fn l.prog w base X G (λ_ _ F=>AfH F T.toTxtR) (by walk_at "b");have lE:=hai.fn l.prog w base X G (λ_ _ F=>AfI F T.toTxtR jj) (by walk_at "b");have gf:=hag.fn l.prog w base X G (λ_ _ F=>AfQ F T.toTxtR T.pc lD lE MP) (by walk_at "b");have lO:Bf l.prog w K mg base (Bd l.prog w) 3 "check_word" ["kind","word"] Mq:=hal.fn l.prog w base X G (λ_ _ _=>RW) (by walk_at "b");have lQ:Bf l.prog w K mg base AI 2 "parts_of" ["things"] Mq:=ham.fn l.prog w base X G (λ_ _ _=>RW) (by walk_at "b");have lT:=hak.fn l.prog w base X G (λ_ _ F=>Ago F T.toTxtX lO) (by walk_at "b");have lR:=han.fn l.prog w base X G (λ_ _ F=>Ags F T.toTxtX lQ) (by walk_at "b");have MKe:=hbh.gi l.prog w mg base (SR X G acf) acH acI (λ_ _ F=>Age F T.toTxtX MP MH) (by walk_at "b");have MDe:=hbi.gi l.prog w mg base (SR X G acg) acJ acK (λ_ _ F=>Agj F T.toTxtX gf MKe) (by walk_at "b");have lX:=hbj.me l.prog w mg base (λ_ _ F=>AgB F T.toTxtX lS lT (Agw rX T.toTxtX lR aeN) rF bao) (by walk_at "b");have mF:=hat.fn l.prog w base X G (λ_ _ F=>AgQ F T.toTxtR) (by walk_at "b");have mh:=hau.fn l.prog w base X G (λ_ _ F=>Ae6 F T.toTxtP) (by walk_at "b");have lJ:=hav.fn l.prog w base X G (λ_ _ F=>AfT F T.toTxtR) (by walk_at "b");have md:=haw.fn l.prog w base X G (λ_ _ F=>AfZ F T.toTxtR lJ) (by walk_at "b");have mG:=hax.fn l.prog w base X G (λ_ _ F=>Ag0 F TM) (by walk_at "b");have mf:=hay.fn l.prog w base X G (λ_ _ F=>AgN F T MDe lX) (by walk_at "b");have jK:=haz.fn l.prog w base X G (λ_ _ F=>Ahf F T gf md mf mh) (by walk_at "b");exact Ahn Fba T eJ mE mF mG jK
theorem walk {l:Ym}{q:R7}{g:List Str}{H:(Str->Option Value)->Heap->Prop}{p:R3->Heap->Prop}{d:DefRec}{K:WI->R0}(hn:l.most=some 63)(I:d.params.defaults=[])(J:∀ (w:R3) (h:Heap),p w h->(K w.params).In h)(F:∀ (w:R3) (mg:Str->Option Value) (B:Addr) (h:Heap),(K w.params).In h->h.Ns Sl mg->mg d.name=some (.ref B) ->
   ∃ D:Sr,(∀ (s:RY) (u:Value),VH s D ⟨[u],[]⟩ [("script",u)])/\∀ base:Heap,(K w.params).In base->base.Ns Sl mg->AE l.prog w (K w.params) mg base AI 12 B D ["script"] (JC (K w.params))) :
  PySem.W.WalkO q g H p l.row.toRowW d [] (λf vs=>Yl f vs) :=
 L2.aax (n:=63) (k:=12) (x:="script") (CX:=λ_=>AI) (sp:=λw=>JC (K w.params)) hn (by decide) I ⟨rfl,by decide,by decide⟩ J F (λ_ _ a L O _ hS=>⟨a,L,rfl,hS,O,λ_=>rfl⟩) λ_ _ _ _ _ z=>z
end
end Lw
local macro_rules | `(tactic| walk_at "f")=>`(tactic| (refine' Lw.aJ.of ?a ?l ?c ?k;(case a=>k_is);(case l=>k_is);(case c=>k_is);(case k=>k_is)))
local macro_rules | `(tactic| walk_at "fM")=>`(tactic| (refine' Lw.bK.of ?a ?i ?l ?c ?k;(case a=>k_is);(case i=>k_is);(case l=>k_is);(case c=>k_is);(case k=>k_is)))
local macro_rules | `(tactic| walk_at "fR")=>`(tactic| (refine' Lw.FnR.of ?a ?b ?i ?l ?c ?k;(case a=>k_is);(case b=>k_is);(case i=>k_is);(case l=>k_is);(case c=>k_is);(case k=>k_is)))
namespace PySem.W.Fast
def tw2658032016566539225:=0
def tw6736979316619404432:=0
def tw14998776104066410793:=0
def tw15499585553094752845:=0
def tw9626157922598226159:=0
def tw14247245647051861504:=0
def tw8499465325226955200:=0
def tw8471622077964408697:=0
def tw17873344916319026540:=0
def tw16348210743571501900:=0
def tw13689647258670937827:=0
def tw9594486969826225289:=0
def tw13487017546085103368:=0
def tw3738372779171770208:=0
def tw17709473168766603356:=0
def tw3172039192216320473:=0
def tw1276934859920486616:=0
def tw11507121035100154565:=0
def tw172256664082014305:=0
def tw16211993733067559886:=0
def tw5443642631781242289:=0
def tw6799661948673830777:=0
def tw7621896514506331382:=0
def tw18029423980979625909:=0
def tw11994825924722188922:=0
def tw6164069654681956392:=0
def tw15169202298485600114:=0
def tw3081540134413772153:=0
def tw12471777473301148707:=0
def tw16465870103702361226:=0
def tw2503147572616205020:=0
def tw4533647749470372897:=0
def tw17894918678236463590:=0
def tw5736748437444637150:=0
def tw11198743497701027129:=0
def tw2408649786326013124:=0
def tw17661618005553924013:=0
def tw267678266520951618:=0
def tw3118398252608227290:=0
def tw7481878237568862154:=0
def tw10380105521386611907:=0
def tw10840004006063672981:=0
def tw9555982342024773185:=0
def tw15892993435767314381:=0
def tw14938166885752893085:=0
def tw9673991285698534152:=0
def tw11062135875181487473:=0
def tw13282946341799505260:=0
def tw10931226669619073466:=0
def tw6509655541000527844:=0
def tw447924244515552213:=0
def tw4809004900956030767:=0
def tw9942825628515557293:=0
def tw2215819597216295678:=0
def tw2565656927402046724:=0
def tw6971275964892656183:=0
def tw5885359231844409664:=0
def tw2898087749547060042:=0
def tw7615426069291348560:=0
def tw14825977039946717154:=0
def tw17204137844155331205:=0
def tw11122166540420039779:=0
def tw231936570856535052:=0
def tw938803533777319388:=0
def tw2234155036245127959:=0
def tw4007836989440717403:=0
def tw10113932503143164223:=0
def tw17213202916777386694:=0
def tw1321380846800831480:=0
def tw7560083492502103660:=0
def tw7452843273618866085:=0
def tw4045169995275567257:=0
def tw4115541957117824251:=0
def tw18364703833255220691:=0
def tw4640203653427779654:=0
def tw16034937086132277855:=0
def tw7471365733160161988:=0
def tw8409773425899303569:=0
def tw13304487116715867375:=0
def tw8723066751850896615:=0
def tw5970659512612774771:=0
def tw16693598975623085673:=0
def tw15107140833001997230:=0
def tw17666186723297155453:=0
def tw7095142322127159926:=0
def tw11403344469403218056:=0
def tw4645195121471602974:=0
def tw15340061071432917478:=0
def tw1338844444837660247:=0
def tw12576005600232973836:=0
def tw8946423735321665402:=0
def tw434935340616108396:=0
def tw12068809589513016491:=0
def tw14298636260290461152:=0
def tw7934991211986153368:=0
end PySem.W.Fast
open PySem PySem.W PyProof.Rows
set_option maxRecDepth 100000 in
set_option maxHeartbeats 0 in
theorem PySem.Challenge.cw_stephall_k04_plan_texts_spoilt_holds : PySem.Challenge.rw_stephall_k04_plan_texts_spoilt.Holds := by
 w_on;o_law;k_head;(case hw=>w_witness2)
 k_fill
 refine Lw.walk (l:=PySem.Challenge.rw_stephall_k04_plan_texts_spoilt) rfl rfl (λw h Y=>PySem.W.kIn_of Y) ?F;case F =>
  intro w mg fa h KX G gx;exact Lw.all_mk (A:=Lw.mkA) KX G gx (by k_is) (by k_is) (by k_is) (by k_is) (by k_is) (by k_is) (by k_is) (by k_is) (by k_is) (by k_is) (by k_is) (by k_is) (by k_is) (by k_is) (by k_is) (by k_is) (by k_is) (by k_is) (by k_is) (by k_is) (by k_is) (by k_is) (by k_is) (by k_is) (by k_is) (by k_is) (by k_is) (by k_is) (by k_is) (by k_is) (by walk_at "f") (by walk_at "f") (by walk_at "f") (by walk_at "f") (by walk_at "f") (by walk_at "f") (by walk_at "f") (by walk_at "f") (by walk_at "f") (by walk_at "f") (by walk_at "f") (by walk_at "f") (by walk_at "f") (by walk_at "f") (by k_is) (by k_is) (by k_is) (by k_is) (by walk_at "f") (by walk_at "f") (by walk_at "f") (by walk_at "f") (by walk_at "f") (by walk_at "f") (by walk_at "f") (by walk_at "f") (by walk_at "f") (by walk_at "f") (by walk_at "f") (by k_is) (by k_is) (by k_is) (by k_is) (by walk_at "fM") (by walk_at "fM") (by walk_at "fM") (by walk_at "fM") (by walk_at "fM") (by walk_at "fM") (by walk_at "fM") (by walk_at "fM") (by walk_at "fM") (by k_is) (by k_is) (by k_is) (by k_is) (by k_is) (by k_is) (by k_is) (by k_is) (by k_is) (by k_is) (by k_is) (by k_is) (by k_is) (by k_is) (by k_is) (by k_is) (by k_is) (by k_is) (by k_is) (by k_is) (by k_is) (by k_is) (by k_is) (by k_is) (by k_is) (by k_is) (by k_is) (by k_is) (by k_is) (by k_is) (by k_is) (by k_is) (by k_is) (by k_is) (by k_is) (by k_is) (by k_is) (by k_is) (by k_is) (by k_is) (by k_is) (by k_is) (by k_is) (by k_is) (by k_is) (by k_is) (by k_is) (by k_is) (by k_is) (by k_is) (by k_is) (by k_is) (by k_is) (by k_is) (by k_is) (by k_is) (by k_is) (by k_is) (by k_is) (by k_is) (by k_is) (by k_is) (by k_is) (by k_is) (by k_is) (by k_is) (by k_is) (by k_is) (by k_is) (by k_is) (by k_is) (by k_is) (by k_is) (by k_is) (by k_is) (by k_is) (by k_is) (by k_is) (by k_is) (by k_is) (by k_is) (by k_is) (by k_is) (by k_exc) (by k_exc) (by k_exc) (by k_exc) (by k_exc) (by k_exc) (by k_exc) (by k_is) (by k_is) (by k_is) (by k_is) (by k_is) (by k_is) (by k_is) (by k_is) (by k_is) (by k_is) (by k_is) (by k_is) (by k_is) (by k_is) (by k_is) (by k_is) (by k_is) (by k_is) (by k_is) (by k_is) (by k_is) (by k_is) (by k_is) (by k_is) (by k_is) (by rfl) (by k_is) (by rfl) (by k_is) (by rfl) (by k_is) (by rfl) (by k_is) (by rfl) (by k_is) (by rfl) (by k_is) (by k_is) (by k_is) (by k_is) (by k_is) (by k_is) (by k_is) (by k_is) (by rfl) (by k_is) (by rfl) (by k_is) (by rfl) (by k_is) (by rfl) (by k_is) (by rfl) (by k_is) (by rfl) (by k_is) (by rfl) (by exact ⟨⟨_,rfl⟩,rfl,rfl,⟨_,rfl⟩,rfl,rfl,⟨_,rfl⟩,rfl,rfl,⟨_,rfl⟩,rfl,rfl,trivial⟩) (by k_is) (by rfl) (by exact ⟨⟨_,rfl⟩,rfl,⟨_,rfl⟩,⟨_,rfl⟩,rfl,⟨_,rfl⟩,⟨_,rfl⟩,rfl,⟨_,rfl⟩,⟨_,rfl⟩,rfl,⟨_,rfl⟩,trivial⟩) (by k_is) (by rfl) (by exact ⟨⟨_,rfl⟩,rfl,rfl,⟨_,rfl⟩,rfl,rfl,⟨_,rfl⟩,rfl,rfl,⟨_,rfl⟩,rfl,rfl,⟨_,rfl⟩,rfl,rfl,⟨_,rfl⟩,rfl,rfl,⟨_,rfl⟩,rfl,rfl,⟨_,rfl⟩,rfl,rfl,⟨_,rfl⟩,rfl,rfl,⟨_,rfl⟩,rfl,rfl,⟨_,rfl⟩,rfl,rfl,⟨_,rfl⟩,rfl,rfl,⟨_,rfl⟩,rfl,rfl,⟨_,rfl⟩,rfl,rfl,⟨_,rfl⟩,rfl,rfl,⟨_,rfl⟩,rfl,rfl,⟨_,rfl⟩,rfl,rfl,⟨_,rfl⟩,rfl,rfl,⟨_,rfl⟩,rfl,rfl,⟨_,rfl⟩,rfl,rfl,trivial⟩) (by k_is) (by rfl) (by exact ⟨⟨_,rfl⟩,rfl,rfl,⟨_,rfl⟩,rfl,rfl,⟨_,rfl⟩,rfl,rfl,⟨_,rfl⟩,rfl,rfl,⟨_,rfl⟩,rfl,rfl,⟨_,rfl⟩,rfl,rfl,⟨_,rfl⟩,rfl,rfl,⟨_,rfl⟩,rfl,rfl,⟨_,rfl⟩,rfl,rfl,⟨_,rfl⟩,rfl,rfl,⟨_,rfl⟩,rfl,rfl,⟨_,rfl⟩,rfl,rfl,⟨_,rfl⟩,rfl,rfl,⟨_,rfl⟩,rfl,rfl,⟨_,rfl⟩,rfl,rfl,⟨_,rfl⟩,rfl,rfl,⟨_,rfl⟩,rfl,rfl,⟨_,rfl⟩,rfl,rfl,⟨_,rfl⟩,rfl,rfl,⟨_,rfl⟩,rfl,rfl,trivial⟩) (by k_is) (by exact (by decide)) (by exact (.cons ⟨_,rfl⟩ (.cons ⟨_,rfl⟩ .nil))) (by k_is) (by exact (by decide)) (by exact (.cons ⟨_,rfl⟩ .nil)) (by k_is) (by exact (by decide)) (by exact (.cons ⟨_,rfl⟩ .nil)) (by k_is) (by exact (by decide)) (by exact (.cons ⟨_,rfl⟩ (.cons ⟨_,rfl⟩ (.cons ⟨_,rfl⟩ (.cons ⟨_,rfl⟩ (.cons ⟨_,rfl⟩ .nil)))))) (by k_is) (by exact (by decide)) (by exact (.cons ⟨_,rfl⟩ (.cons ⟨_,rfl⟩ (.cons ⟨_,rfl⟩ (.cons ⟨_,rfl⟩ (.cons ⟨_,rfl⟩ (.cons ⟨_,rfl⟩ (.cons ⟨_,rfl⟩ (.cons ⟨_,rfl⟩ (.cons ⟨_,rfl⟩ (.cons ⟨_,rfl⟩ .nil))))))))))) (by k_is) (by exact (by decide)) (by exact .nil) (by k_is) (by k_is) (by k_is) (by k_is) (by k_is) (by k_is) (by k_is) (by k_is) (by k_is) (by k_is) (by k_is) (by k_is) (by k_is) (by k_is) (by k_is) (by k_is)
