import PyProof.Rows.All
import Wide.All
import OpenK.AllK
import Wide.FinOn
import Lean
import PyProof.EqAt
import PyProof.EqKinds
import PyProof.TupleCall
import PyProof.NeData
import PyProof.P3In
import PyProof.SliceStr2
import PyProof.StrLaws
import PyProof.WalksEnum
import PyProof.EnumMake
import PyProof.ListRange
import PyProof.Rows.StrInSeq3
import PyProof.DictCompW
import PyProof.DictWalks
import PyProof.Rows.SortWalk
import PyProof.Rows.SortStr
import PyProof.ConsumeWalk
import KE.KSortTup
import PyProof.Rows.SetFrom
import PyProof.CollectWalk
import PyProof.AutoListH
import PyProof.Rows.StrNews
import PyProof.Rows.StrWeight2
import PyProof.StrLawsChain
import PyProof.TupleIter
import PyProof.WalksMore
import KE.KDictList
import PyProof.Rows.StrRules
import PyProof.ZipIter
import PyProof.SliceMore
import PyProof.StrLawsRepr
import PySem.Challenge.RW_stephall_k10_talks_end_at_either_end
set_option genSizeOf false
set_option genInjectivity false
set_option bootstrap.genMatcherCode false
set_option compiler.extract_closed false
noncomputable section
local macro_rules | `(tactic| omega)=>`(tactic| first | lia | omega +splitNatSub)
open PySem renaming Value->af,Addr->ar,Str->aU
open PySem renaming Shared->US,World->UU,Expr->UX,wpAny->UY,Program->UZ,sizeLine_eq->U0,model->U1,wpAny_bind->U2,FuncData->U7,starEach->U8,eval->U9,wpAny_pure->Vd,Around->Vf,backTo->Vu,compareOp->VE,bootBuiltins->VS,codeAny->Wf,sysModules->Wj,holding->Wl,standAt->Wo,relabel->Wr,wpAny_mono->Ws,binaryOp->Wz,hashStr->WI,wpAny_holding->WJ,IsEnum->WM,assign->WS,pyNext->WT,backToKw->WV,keywordEach->WW,Builtin->WY,mainGlobals->Xd,getMethod->Xg,SetTable->Xk,wpAny_field->Xl,Model->Xo,wpAny_truthy_bool->Xp,swapsWith->Xq,mem_of_lookup->Xs,atKey->Xv,assignEach->XB,foldedSetIterable->XC,callWith->XE,NameKind->XF,bindL->XG,bindC->XH,call_meets->XN,valueAt->XR,relayAll->XS,field->XW,GenState->X6,wpAny_standAt->X8,getItem->Ya,wpAny_passesOwn->Yb,rawInt->Yc,BindsTo->Yf,codeAny_mono->Yg,Keyword->Yh,sliceBounds->Yj,callerA->Yl,codeAny_builtin->Ym,wpAny_call_entry->Yr,tupleKind->Ys,Operator->Yu,letOwnedTupleGo->Yv,pyIter->Yw,Result->Yz,cellsFrom->YD,seqIndex?->YE,layNew->YI,wpAny_rule->YJ,isTrue->YT,wpAny_execs_nil->YU,setItem->YV,behindInMarks->YW,attributeBase->YX,Params->Y1,DictEntry->Y3,sliceRange->Y4,intText?->Y7,wpAny_newObj_type->Y8,wpAny_setField_rec->Ze,builtinsNs->Zp,PassesOwn->Zq,wpAny_call->Zv,wpAny_Call_Name_kw->Zw,seqIndex_of->Zy,subscripted->Zz,typeIs_str->ZA,noteFrame->ZH,wpAny_pyIter_enum->ZM,wpAny_callSpecial?_slot->ZT,IsEnumOut->ZV,ClassData->Z4,Within->Z7,wpAny_Name->vF,wpAny_pyIter_list->vG,wpAny_pyIter_tuple->vH,seqIndex_neg->vV,typeIs_int->vY,call->wa,codeAny_call_builtin->we,checkBuiltinCall->wg,reprText->wq,pushCells->wz,wpAny_alloc->wA,comprehension->wC,tupleKind_room_in1->wG,wpAny_newList->wM,setAddHashedIn->wO,plainId_quiet->wU,codeAny_of_tree->wV,wpAny_askSetting->wW,sizeLine->xk,wpAny_eqBool_int->xm,wpAny_execs_cons->xr,wpAny_assign_Name->xt,wpAny_AugAssign_SubscriptAny->xu,wpAny_loadPart->xB,wpAny_Tuple_spliced->xH,wpAny_List_spliced->xI,slot_list_getitem->xO,fitsIndex_both->xT,wpAny_loadPart_at->yb,wpAny_formatField_str->yf,newFunctionEnv->yg,wpAny_letOwnedTupleGo_enum->yk,wpAny_getItem_of->yr,wpAny_newTuple->yA,wpAny_storeSet_of->yL,wpAny_runValue->yO,wpAny_seqItems->yS,wpAny_setField->yT,firstArgMember->yV,wpAny_pyIter_zip->zc
open PySem.W renaming Frag->UT,findIn->V4,kitOne->WB,kia_one->WK,keepIn->WU,fnOf->Xi,emptyDict->Xr,excIn->Xt,subIn->Xy,instObj->Xz,typeIn->Yd,isFn->Yy,callWith_K->YB,methodCall_KW->YC,kitAny->YG,hideAll_get->YR,codeIn->YZ,clsIn->Zm,hideAll->Zo,lookIn->Zs,plainGet->Zt,specialIn->Zu,exmOne->ZG,methodObj->Z8,hasDictIn->vK,plainGet_of->vL,takerIn->vM,makesIn->vN,OpenLaw->wb,nsOkIn->wc,mg_of->xj,of_hideAll->xp,handedIn->xx,plainOver->xy,kitx_list->xC,kitx_dict->xF,callWith_K0->xJ,cellsFrom_some->xK,tail_of_in->xW,readsIn->yv,findCls->yw,kdl_dict->za,kitMeta->zN
open List renaming length_map->UW,replicate->U5,getElem?_map->Va,mem_cons->Vc,mem_map->Ve,map_append->Vg,mem_of_getElem?->Vh,getElem?_eq_getElem->Vi,append_assoc->Vj,mem_singleton->Vl,length_set->Vm,map_map->Vn,nodup_cons->Vr,size_toArray->Vs,getD->Vt,mem_cons_of_mem->Vw,mem_append->Vx,getElem?_eq_some_iff->Vz,length_append->VA,not_mem_nil->VC,mem_cons_self->VJ,range->VN,map_cons->VP,length_cons->VX,length_replicate->VY,map_set->V0,map->V1,mem_append_right->V2,append_nil->V5,set_set->V6,length_singleton->Wa,mem_range->We,length_take->Wg,take_length->Wi,map_congr_left->Wq,getElem?_set_ne->Ww,take_add_one->WE,all_eq_true->WL,nodup_append->WN,nodup_nil->WO,set_cons_succ->WQ,set_cons_zero->WR,lookup_cons->WZ,getElem_of_mem->Xa,find?_cons->Xb,cons_append->Xj,length_range->Xu,replicate_succ->XM,mem_filter->X5,getElem?_set_self->X7,lookup->Ye,length->Yi,map_nil->Yk,getElem_mem->Yq,mem_append_left->Yt,flatten_cons->YF,getElem_inj->YS,take_sublist->YY,any_cons->Y0,take_of_length_le->Y5,map_replicate->Y6,range_succ->Zf,length_filter_le->Zg,map_id->Zh,mem_iff_getElem?->Zi,set_comm->Zk,nil_append->ZF,mem_of_mem_take->ZK,length_nil->ZN,lt_trans->ZO,pairwise_map->ZP,filter_append->ZY,filter_cons->ZZ,filter_nil->Z0,perm_middle->Z1,count_cons->Z3,filterMap_cons->Z9,mem_filterMap->vI,of_mem_zip->vR,getElem?_append_left->vS,foldl->v8,eraseIdxIfInBounds_toArray->v9,length_eq_zero_iff->wj,drop_zero->wk,idxOf_lt_length_of_mem->wD,length_erase_le->wF,le_antisymm->wI,ext_getElem->wJ,mem_erase_of_ne->wX,length_pos_of_mem->wY,all_map->w5,flatMap_append->w6,mem_or_eq_of_mem_set->xb,mem_replicate->xg,count_append->xh,length_drop->xM,foldl_cons->xR,getElem?_eq_none->xY,idxOf_cons->yl,pairwise_cons->yx,nodup_range->yy,pairwise_iff_getElem->yI,length_erase_of_mem->yP,find?_append->zf,take_append_drop->zg,any_eq_true->zh,mem_of_find?_eq_some->zi,find?_some->zj,getElem?_set->zp,find?_eq_none->zx,getElem_take->zB,head?_filter->zE,length_take_le'->zF,sublist_append_left->zK,nil_sublist->zL,take_succ->zM
open PySem.Str renaming ofString->U3,empty->VD,length->XJ
open Or renaming inr->U4,inl->U6
open Nat renaming le_refl->Vb,ne_of_lt->Vv,lt_of_le_of_lt->VB,add_le_add_left->VF,le_of_ble_eq_true->VL,lt_of_lt_of_le->VM,le_trans->V7,zero_le->Wn,le_succ->Wu,lt_irrefl->Wv,ne_of_gt->Xf,le_of_lt->XA,lt_succ_self->YA,lt_succ_of_lt->Zc,succ_le_succ->ZC,sub_zero->wm,succ_ne_self->wB,max_le->xi,min_le_left->yd,le_add_right->yj,min_eq_left->zG,min_eq_right->zH
open PySem.Heap renaming lt_size->Vk,get?_push_of_some->Vp,get?_push_size->VO,SameBut->V8,size_push->WA,get?_update_self->vW,size_update->wN,get?_update_other->xP,get?_push_ne->yB,get?_update_ne->yC
open PySem.Value renaming ref->Vo,str->VT,none->VU,int->V3,bool->YO,type->YQ,isStrOf->Zn,builtin->ZI,isInt->Z5,float->Z6,isStrOf_shape->xl
open Option.some renaming inj->Vq
open Ne renaming symm->Vy
open Bool renaming false_ne_true->VG,and_eq_true->WC,eq_iff_iff->XD,eq_false_iff->Yn,false_eq_true->YH,and_false->xS,not_eq_true'->xV
open Option renaming map_eq_some_iff->VH,map_some->Wh,isSome_iff_exists->Zx,getD_none->vX,bind_some->xc,map_none->ye,isSome_some->yh,isSome_map->yq,map_eq_none_iff->zy
open Sum renaming inr->VI,inl->XZ
open PyProof.Rows renaming seqObj->VQ,AllBare->Xe,envOfC->Xh,StrsAre->Yp,callWith_type1->Yx,IntsAre->Y2,Subscript_->vT,subscriptTail->vU,listUpdate_at->wK,seqEpoch_at->wL,subscriptTail_builtinR->xN,slot_list_sort->yE,entry_list_sort->yF,args_list_sort->yG
open PySem.F renaming plainAttrs_list->VR,slot_list_append->Wb,type_list_append->Wc,called_set->XU,slot_tuple_iterator_next->ZU,slot_enumerate_next->ZW,slot_dict_get->wH,slot_int_rmul->xU,excBase_ValueError->xX,typeOf_object_class->ya,attr_ValueError->yc,slot_list_remove->ym,entry_list_remove->yn,args_list_remove_2->yo,entry_dict_get->yt,args_dict_get_3->yu,plain_set_new->yN,entry_tuple_iterator_next->yQ,args_tuple_iterator_next_1->yR,entry_enumerate_next->yY,args_enumerate_next_1->yZ,plain_list_iadd->zb,slot_list_pop->zt,type_list_pop->zu,slot_list_remove->zv,type_list_remove->zw,slot_list_extend->zI,type_list_extend->zJ
open PySem.PassesOwn renaming never->VZ,leaving->xa
open PySem.Obj renaming mapSeq->V9,putSet->ZQ,data_mapFields->yU
open PySem.PyData renaming int->Wd,depth->WH,str->Xc,depthAll->XX,list->XY,eqv->Yo,canLayAll0->YM,canLay0->Zj
open Array renaming length_toList->Wm,getElem?_eq_getElem->XO,getElem?_toList->ZE,mem_toList_iff->xw,perm_iff_toList_perm->yz,all_toList->zo
open True renaming intro->Wt
open False renaming elim->Wx
open List.Sublist renaming refl->Xm
open Sum.inr renaming inj->Xn
open Int renaming emod_nonneg->Xw,emod_lt_of_pos->Xx,toNat_natCast->XI,zero_add->YK,le_refl->YL,toNat->YN,eq_ofNat_of_zero_le->Y9,le_of_lt->Z2,natCast_nonneg->zA,emod_eq_of_lt->zD
open PySem.NameKind renaming free->XQ,cell->wu
open PySem.SetTable renaming grown->XT,orStandIn->yJ,standIn->yK
open Classical renaming byContradiction->Za
open PySem.W.KasT renaming kasWp_bind->Zb
open PySem.Around renaming under_plainId->Zd,under->vO
open PySem.SeqAt renaming eqv_refl->Zl
open PySem.Builtin.List renaming listTooLong->ZD
open PySem.Builtin.Str renaming strSliceIndices->ZJ,occurrences->vJ
open ForInStep renaming yield->ZL
open PySem.Heap.SameBut renaming update->ZR
open PySem.Builtin.SmallTypes renaming nextOf->ZS,ownedTupleIsFree->yW,ownedTupleHandOut->yX
open And renaming intro->ZX
open PySem.Code renaming isFrame->vP,quiet_builtin->xZ
open PySem.Calls renaming spliced_cons->vQ,evalArgs_plain->vZ,Name_function_global->xq,spliced_nil->xG,callWith_builtin->xQ,call_function_entry->yD
open PyProof.Rows.F renaming plain_set_update_loop->wR,entry_set_update_loop->yM
open PySem.AutoSeq1 renaming wpAny_loadPart'->wZ
open List.Perm renaming swap->xf,of_eq->yH,append_right->zm,cons->zC
open PySem.SeqAt.EqAt renaming int_str->xn,str_int->xo
open PySem.MeetsSeq renaming list_remove->yp
set_option Elab.async false
set_option linter.all false
set_option maxRecDepth 100000
set_option maxHeartbeats 4000000
def bf{c:Prop}{h:Decidable c}(hc:c){α:Sort u}{t e:α}:ite c t e=t:=if_pos hc
def ck{c:Prop}{h:Decidable c}(hc:¬c){α:Sort u}{t e:α}:ite c t e=e:=if_neg hc
def cx{p:Prop}[Decidable p](h:p):decide p=true:=decide_eq_true h
def cN{p:Prop}[Decidable p](h:¬p):decide p=false:=decide_eq_false h
set_option hygiene false
local macro_rules
|`(tactic|show 0)=>`(tactic|(intro π s σ H Q I h))
|`(tactic|show 1)=>`(tactic|(show AZ X.h X.dx _ rfl t.t.aA rfl ?_))
|`(tactic|show 2)=>`(tactic|(intro π s σ H xs us Q I r h))
|`(tactic|show 3)=>`(tactic|(dsimp only[BA]))
|`(tactic|show 4)=>`(tactic|(have hu:=hr.units))
|`(tactic|show 5)=>`(tactic|(intro π s σ H D I h))
|`(tactic|show 6)=>`(tactic|(show⟨(by simp only[Bh,I,J,L,U0];omega),?_⟩))
|`(tactic|show 7)=>`(tactic|(show⟨(by simp only[Bh,B,D,I,U0];omega),?_⟩))
local macro_rules
|`(`o)=>`(by decide +kernel)
|`(`x)=>`(by decide)
|`(`B)=>`(by simp)
set_option hygiene true
namespace L2
def Am{n:Nat}(h:Nat.ble n xk=true:=by rfl):n<=xk:=VL h
def DV{α:Type}{B R:α->Prop}{G:Prop}(h:∃a,B a/\R a)(q:∀a,B a->R a->G):G:=by obtain⟨a,D,r⟩:=h;exact q a D r
def Mc{α β:Type}{B R:α->β->Prop}{G:Prop}(h:∃a b,B a b/\R a b)(q:∀a b,B a b->R a b->G):G:=by obtain⟨a,b,D,r⟩:=h;exact q a b D r
def AF{α β:Type}{B D R:α->β->Prop}{G:Prop}(h:∃a b,B a b/\D a b/\R a b)(q:∀a b,B a b->D a b->R a b->G):G:=by obtain⟨a,b,H,I,r⟩:=h;exact q a b H I r
def FV{α β:Type}{B D P3 R:α->β->Prop}{G:Prop}(h:∃a b,B a b/\D a b/\P3 a b/\R a b)(q:∀a b,B a b->D a b->P3 a b->R a b->G):G:=by obtain⟨a,b,H,I,J,r⟩:=h;exact q a b H I J r
inductive OX(P1 P2 R:Prop):Prop
 |mk (h1:P1) (h2:P2) (r:R):OX P1 P2 R
inductive OY{α:Type}(P1 R:α->Prop):Prop
 |mk (a) (h1:P1 a) (r:R a):OY P1 R
inductive OZ{α:Type}(P1 P2 R:α->Prop):Prop
 |mk (a) (h1:P1 a) (h2:P2 a) (r:R a):OZ P1 P2 R
inductive O0{α β:Type}(P1 R:α->β->Prop):Prop
 |mk (a b) (h1:P1 a b) (r:R a b):O0 P1 R
inductive O1{α β:Type}(P1 P2 R:α->β->Prop):Prop
 |mk (a b) (h1:P1 a b) (h2:P2 a b) (r:R a b):O1 P1 P2 R
inductive O2{α β:Type}(P1 P2 P3 P4 R:α->β->Prop):Prop
 |mk (a b) (h1:P1 a b) (h2:P2 a b) (h3:P3 a b) (h4:P4 a b) (r:R a b):O2 P1 P2 P3 P4 R
inductive O3{α β γ:Type}(P1 R:α->β->γ->Prop):Prop
 |mk (a b c) (h1:P1 a b c) (r:R a b c):O3 P1 R
inductive O4{α β γ:Type}(P1 P2 P3 P4 R:α->β->γ->Prop):Prop
 |mk (a b c) (h1:P1 a b c) (h2:P2 a b c) (h3:P3 a b c) (h4:P4 a b c) (r:R a b c):O4 P1 P2 P3 P4 R
inductive O5{α β γ δ:Type}(P1 R:α->β->γ->δ->Prop):Prop
 |mk (a b c d) (h1:P1 a b c d) (r:R a b c d):O5 P1 R
inductive O6{α β γ δ:Type}(P1 P2 P3 P4 P5 R:α->β->γ->δ->Prop):Prop
 |mk (a b c d) (h1:P1 a b c d) (h2:P2 a b c d) (h3:P3 a b c d) (h4:P4 a b c d) (h5:P5 a b c d) (r:R a b c d):O6 P1 P2 P3 P4 P5 R
inductive O7{α β γ δ ε:Type}(P1 R:α->β->γ->δ->ε->Prop):Prop
 |mk (a b c d e) (h1:P1 a b c d e) (r:R a b c d e):O7 P1 R
inductive O8{α β γ δ ε:Type}(P1 P2 P3 P4 P5 R:α->β->γ->δ->ε->Prop):Prop
 |mk (a b c d e) (h1:P1 a b c d e) (h2:P2 a b c d e) (h3:P3 a b c d e) (h4:P4 a b c d e) (h5:P5 a b c d e) (r:R a b c d e):O8 P1 P2 P3 P4 P5 R
inductive Q81{α β γ δ ε ζ η θ:Type}(P1 R:α->β->γ->δ->ε->ζ->η->θ->Prop):Prop
 |mk (a b c d e f g h) (h1:P1 a b c d e f g h) (r:R a b c d e f g h):Q81 P1 R
inductive O9{α β γ δ ε ζ η θ ι:Type}(P1 R:α->β->γ->δ->ε->ζ->η->θ->ι->Prop):Prop
 |mk (a b c d e f g h i) (h1:P1 a b c d e f g h i) (r:R a b c d e f g h i):O9 P1 R
def AU (h:B/\D/\R):OX B D R:=by obtain⟨H,I,r⟩:=h;exact⟨H,I,r⟩
def Au (h:∃a,B a/\R a):OY B R:=by obtain⟨a,D,r⟩:=h;exact⟨a,D,r⟩
def AG (h:∃a,B a/\D a/\R a):OZ B D R:=by obtain⟨a,H,I,r⟩:=h;exact⟨a,H,I,r⟩
def Bz (h:∃a b,B a b/\R a b):O0 B R:=by obtain⟨a,b,D,r⟩:=h;exact⟨a,b,D,r⟩
def BB (h:∃a b,B a b/\D a b/\R a b):O1 B D R:=by obtain⟨a,b,H,I,r⟩:=h;exact⟨a,b,H,I,r⟩
def IU (h:∃a b,B a b/\D a b/\P3 a b/\H a b/\R a b):O2 B D P3 H R:=by obtain⟨a,b,I,J,L,O,r⟩:=h;exact⟨a,b,I,J,L,O,r⟩
def Dg (h:∃a b c,B a b c/\R a b c):O3 B R:=by obtain⟨a,b,c,D,r⟩:=h;exact⟨a,b,c,D,r⟩
def Gk (h:∃a b c,B a b c/\D a b c/\P3 a b c/\H a b c/\R a b c):O4 B D P3 H R:=by obtain⟨a,b,c,I,J,L,O,r⟩:=h;exact⟨a,b,c,I,J,L,O,r⟩
def DW (h:∃a b c d,B a b c d/\R a b c d):O5 B R:=by obtain⟨a,b,c,d,D,r⟩:=h;exact⟨a,b,c,d,D,r⟩
def HV (h:∃a b c d,B a b c d/\D a b c d/\P3 a b c d/\H a b c d/\I a b c d/\R a b c d):O6 B D P3 H I R:=by obtain⟨a,b,c,d,J,L,O,V,Y,r⟩:=h;exact⟨a,b,c,d,J,L,O,V,Y,r⟩
def Pa (h:∃a b c d e,B a b c d e/\R a b c d e):O7 B R:=by obtain⟨a,b,c,d,e,D,r⟩:=h;exact⟨a,b,c,d,e,D,r⟩
def IV (h:∃a b c d e,B a b c d e/\D a b c d e/\P3 a b c d e/\H a b c d e/\I a b c d e/\R a b c d e):O8 B D P3 H I R:=by obtain⟨a,b,c,d,e,J,L,O,V,Y,r⟩:=h;exact⟨a,b,c,d,e,J,L,O,V,Y,r⟩
def Md (h:∃a b c d e f g h i,B a b c d e f g h i/\R a b c d e f g h i):O9 B R:=by obtain⟨a,b,c,d,e,f,g,h,i,D,r⟩:=h;exact⟨a,b,c,d,e,f,g,h,i,D,r⟩
end L2
namespace L2
open PySem PySem.Spec PyProof.Rows
abbrev Ay:=Sum Int aU
noncomputable def Fu:Ay->af->Bool
 |.inl k,v=>Z5 k v
 |.inr x,v=>Zn x v
noncomputable def Pb(w:UU):Ay->Int
 |.inl k=>hashInt k
 |.inr x=>WI w x
theorem FW:∀{k:Ay}{v:af},Fu k v=true->(∃i t,k=XZ i/\v=V3 i t)\/(∃x t,k=VI x/\v=VT x t)
 |.inl i,v,h=>by
  obtain⟨t,e⟩:=Value.isInt_shape (k:=i) (v:=v) h;exact .inl ⟨i,t,rfl,e⟩
 |.inr x,v,h=>by
  obtain⟨t,e⟩:=xl (x:=x) (v:=v) h;exact .inr ⟨x,t,rfl,e⟩
def Aaa(i:Int)(t:Tok):Fu (.inl i) (.int i t)=true:=by simp[Fu,Z5]
def Pc(x:aU)(t:Tok):Fu (.inr x) (.str x t)=true:=by simp[Fu,Zn]
def Aab(a b:Int):decide ((XZ a:Ay)=XZ b)=(a == b):=by
 by_cases e:a=b
 .subst e;simp
 .have h:¬(XZ a:Ay)=XZ b:=λq=>e<|Sum.inl.inj q;rw[cN h];exact(beq_eq_false_iff_ne.mpr e).symm
def Aac(a b:aU):decide ((VI a:Ay)=VI b)=decide (a=b):=by
 by_cases e:a=b
 .subst e;simp
 .have h:¬(VI a:Ay)=VI b:=λq=>e<|Xn q;rw[cN h,cN e]
def Aad(a:Int)(b:aU):decide ((XZ a:Ay)=VI b)=false:=cN λq=>nomatch q
def Aae(a:aU)(b:Int):decide ((VI a:Ay)=XZ b)=false:=cN λq=>nomatch q
noncomputable def BG(prog:UZ)(w:UU):PySem.KeyKind prog w Ay where
 is:=Fu
 hash:=Pb w
 inj:=λv a b ha hb=>by
  rcases FW ha with ⟨i,t,rfl,rfl⟩|⟨x,t,rfl,rfl⟩
  .rcases FW hb with ⟨j,u,rfl,e⟩|⟨y,u,rfl,e⟩
   .injection e with e1 _;rw[e1]
   .exact nomatch e
  .rcases FW hb with ⟨j,u,rfl,e⟩|⟨y,u,rfl,e⟩
   .exact nomatch e
   .injection e with e1 _;rw[e1]
 byValue:=λk v h=>by
  rcases FW h with ⟨i,t,rfl,rfl⟩|⟨x,t,rfl,rfl⟩<;>rfl
 pyHash:=λhv h=>by
  rcases FW hv with ⟨i,t,rfl,rfl⟩|⟨x,t,rfl,rfl⟩
  .exact wpAny_pyHash_int h
  .exact wpAny_pyHash_str h
 eqBool:=λhu hv h=>by
  rcases FW hu with ⟨i,t,rfl,rfl⟩|⟨x,t,rfl,rfl⟩
  .rcases FW hv with ⟨j,u,rfl,rfl⟩|⟨y,u,rfl,rfl⟩
   .rw[Aab]at h;exact xm h
   .rw[Aad]at h;exact xn i t y u _ _ _ _ h
  .rcases FW hv with ⟨j,u,rfl,rfl⟩|⟨y,u,rfl,rfl⟩
   .rw[Aae]at h;exact xo x t j u _ _ _ _ h
   .rw[Aac]at h;exact wpAny_eqBool_str h
 «strs»:=λk x t v h=>by
  rcases FW h with ⟨i,u,rfl,e⟩|⟨y,u,rfl,e⟩
  .exact nomatch e
  .injection e with e1 _;subst e1;cases v<;>rfl
def Aaf(prog:UZ)(w:UU)(k:Ay)(v:af):(BG prog w).is k v=Fu k v:=rfl
def Aag(prog:UZ)(w:UU)(i:Int)(t:Tok):(BG prog w).is (.inl i) (.int i t)=true:=Aaa i t
def HW(prog:UZ)(w:UU)(x:aU)(t:Tok):(BG prog w).is (.inr x) (.str x t)=true:=Pc x t
set_option genInjectivity true in
inductive V where
 |aa|bl (b:Bool)|int (i:Int)|str (x:aU)|cc (b:Array UInt8)|fZ (b:UInt64)|ref (a:ar)|ty (n:String)
 deriving DecidableEq
def AH:V->af->Prop
 |.aa,u=>u=VU
 |.bl b,u=>u=YO b
 |.int i,u=>∃t,u=V3 i t
 |.str x,u=>∃t,u=VT x t
 |.cc b,u=>∃t,u=Value.bytes b t
 |.fZ b,u=>∃t,u=Z6 b t
 |.ref a,u=>u=Vo a
 |.ty n,u=>u=YQ n
abbrev AA:List V->List af->Prop:=Paired AH
def AA.length (r:AA xs us):xs.length=us.length:=Paired.length r
theorem AA.get:∀{xs:List V}{us:List af}{i:Nat}{x:V},AA xs us->xs[i]?=some x->∃u,us[i]?=some u/\AH x u
 |_,_,_,_,.nil,e=>by simp at e
 |_,_,0,_,.cons r _,e=>by simp at e;subst e;exact⟨_,rfl,r⟩
 |_,_,i+1,x,.cons _ t,e=>by
  obtain⟨u,B,D⟩:=Au (AA.get (i:=i) (x:=x) t (by simpa using e));exact⟨u,by simpa using B,D⟩
theorem AA.set (r:AH x u):∀{xs:List V}{us:List af}(i:Nat),AA xs us->AA (xs.set i x) (us.set i u)
 |_,_,_,.nil=>.nil
 |_,_,0,.cons _ t=>.cons r t
 |_,_,i+1,.cons q t=>.cons q (AA.set r i t)
theorem AA.append:∀{xs ys:List V}{us ws:List af},AA xs us->AA ys ws->AA (xs++ys) (us++ws)
 |_,_,_,_,.nil,s=>s
 |_,_,_,_,.cons r t,s=>.cons r (AA.append t s)
theorem AA.take:∀{xs:List V}{us:List af}(n:Nat),AA xs us->AA (xs.take n) (us.take n)
 |_,_,0,_=>.nil
 |_,_,_+1,.nil=>.nil
 |_,_,n+1,.cons r t=>.cons r (AA.take n t)
theorem AA.drop:∀{xs:List V}{us:List af}(n:Nat),AA xs us->AA (xs.drop n) (us.drop n)
 |_,_,0,r=>r
 |_,_,_+1,.nil=>.nil
 |_,_,n+1,.cons _ t=>AA.drop n t
def Dh:Option V->Option af->Prop
 |some v,some u=>AH v u
 |none,none=>True
 |_,_=>False
def KV{κ:Type}:List (κ×V)->List (κ×af)->Prop:=Paired λ(p:κ×V) (q:κ×af)=>p.1=q.1/\AH p.2 q.2
noncomputable def kV:Ay->V
 |.inl i=>.int i
 |.inr x=>.str x
inductive HO where
 |lst (xs:List V)
 |tup (xs:List V)
 |dK (kvs:List (Ay×V))|dT (kvs:List (List Ay×V))
 |set (S:Int->Bool) (n:Nat)
 |ins (C dx:ar) (fs:List (aU×V))
 |own (x:ar)
 |xd (fs:List (aU×V))
 |met (f x:ar)
 |cy (lo hi:Int)
 |bT (o:Obj) (u:HO)
 |fu (ps:Array af)
 |ext (φ:Heap->Prop)
abbrev Hp:=ar->Option HO
noncomputable def upd(H:Hp)(a:ar)(o:HO):Hp:=λb=>if b=a then some o else H b
def Ao:upd H a o a=some o:=by unfold upd;rw[bf rfl]
def Aw (h:b≠a):upd H a o b=H b:=by unfold upd;rw[ck h]
def FX:upd (upd H a o) a u=upd H a u:=by funext b;unfold upd;split<;>rfl
def Kl{H:Hp}{a b:ar}{o u:HO}(h:H a=some o)(h':H b=some u)(d:o≠u):a≠b:=by intro e;subst e;rw[h]at h';exact d<|Vq h'
def Cn{H:Hp}{a b:ar}{o:HO}(h:H a=some o)(h':H b=none):a≠b:=by intro e;subst e;rw[h]at h';cases h'
section
variable (P:UZ)(w:UU)
def Bv(H:Hp)(h:Heap)(a:ar):HO->Prop
 |.lst xs=>xs.length<=sizeLine/\∃(its:List af)(n:Nat),AA xs its/\h.get? a=some { cls:=.type "list",data:=.seq its.toArray n }
 |.tup xs=>xs.length<=sizeLine/\∃its:List af,AA xs its/\IsTup h a its.toArray
 |.dK kvs=>kvs.length<=sizeLine/\(a == Wj)=false/\∃vs,KV kvs vs/\h.DictOf (BG P w) a vs
 |.dT kvs=>kvs.length<=sizeLine/\(a == Wj)=false/\∃xs:List (List Ay×ar×af),
   Paired (λ(p:List Ay×V) (q:List Ay×ar×af)=>p.1=q.1/\H q.2.1=some (.tup (p.1.map kV))/\AH p.2 q.2.2) kvs xs /\
   ∃o es ep,h.get? a=some o/\o.ExactDict/\o.data=.dict es ep/\es.toList=xs.map (entryOfKey (Ys (BG P w)))/\(xs.map (·.1)).Nodup
 |.set S n=>h.SetOf (intKind P w) a S n
 |.ins C dx fs=>H dx=some (.own a)/\fs.length<=1000/\dx≠a/\h.get? a=some (Xz C dx) /\
   ∃mA,h.Ns1 dx mA/\(∀f,Dh (fs.lookup f) (mA f))/\Z7 mA (fs.map (·.1))
 |.own _=>∃o,h.get? a=some o
 |.xd fs=>∃mA,h.Ns1 a mA/\∀f,Dh (fs.lookup f) (mA f)
 |.cy lo hi=>∃t u v,h.get? a=some { cls:=.type "range",data:=.fields #[.int lo t,.int hi u,.int 1 v] }
 |.bT o u=>h.get? a=some o/\Bv H h a u
 |.fu ps=>h.get? a=some { cls:=.none,data:=.fields ps }
 |.met f x=>h.get? a=some (Z8 (.ref f) (.ref x))
 |.ext φ=>φ h/\(∃o,h.get? a=some o)/\∀h1 h2:Heap,φ h1->(∀o,h1.get? a=some o->h2.get? a=some o)->φ h2
def AY(H:Hp)(h:Heap):Prop:=∀a o,H a=some o->Bv P w H h a o
end
section
variable {P:UZ}{w:UU}{H H':Hp}{h h':Heap}{a:ar}{o:HO}
def Bv.lt(x:Bv P w H h a o):a<h.objs.size:=by
 cases o with
 |lst xs=>obtain⟨_,_,_,_,e⟩:=x;exact Vk e
 |tup xs=>obtain⟨_,_,_,p⟩:=x;exact p.lt
 |dK B=>obtain⟨_,_,_,_,o,_,_,e,_⟩:=AU x;exact Vk e
 |dT B=>obtain⟨_,_,_,_,o,_,_,e,_⟩:=AU x;exact Vk e
 |set S n=>obtain⟨o,_,_,_,e,_⟩:=DW x;exact Vk e
 |ins C dx fs=>obtain⟨_,_,_,e,_⟩:=AU x;exact Vk e
 |own y=>obtain⟨_,e⟩:=x;exact Vk e
 |xd fs=>obtain⟨_,⟨_,_,_,e,_⟩,_⟩:=Au x;exact Vk e
 |cy lo D=>obtain⟨_,_,_,e⟩:=x;exact Vk e
 |bT I u=>obtain⟨e,_⟩:=x;exact Vk e
 |fu J=>exact Vk (show h.get? a=some _ from x)
 |met f y=>exact Vk (show h.get? a=some _ from x)
 |ext φ=>obtain⟨_,⟨_,e⟩,_⟩:=AU x;exact Vk e
theorem Paired.mr:∀{B:List α}{l₂:List β},Paired F B l₂->(∀a b,F a b->G a b)->Paired G B l₂
 |_,_,.nil,_=>.nil
 |_,_,.cons r t,f=>.cons (f _ _ r) (Paired.mr t f)
def Bv.dB(x:Bv P w H h a o)(k:∀b u,(b=a\/H b=some (.own a))->h.get? b=some u->h'.get? b=some u)(V:∀b,H b=some (.own a)->H' b=some (.own a))(Y:∀b xs,H b=some (.tup xs)->H' b=some (.tup xs)):Bv P w H' h' a o:=by
 induction o with
 |lst xs=>obtain⟨z,its,n,r,e⟩:=x;exact⟨z,its,n,r,k _ _ (.inl rfl) e⟩
 |tup xs=>obtain⟨z,its,r,B,e,c⟩:=x;exact⟨z,its,r,B,k _ _ (.inl rfl) e,c⟩
 |dK I=>obtain⟨z,y,vs,r,B,es,D,e,c⟩:=AU x;exact⟨z,y,vs,r,B,es,D,k _ _ (.inl rfl) e,c⟩
 |dT I =>
  obtain⟨z,y,xs,r,B,es,D,e,c⟩:=AU x;exact⟨z,y,xs,Paired.mr r λp q z=>⟨z.1,Y _ _ z.2.1,z.2.2⟩,B,es,D,k _ _ (.inl rfl) e,c⟩
 |set S n=>obtain⟨B,es,D,t,e,c⟩:=DW x;exact⟨B,es,D,t,k _ _ (.inl rfl) e,c⟩
 |ins C dx fs =>
  obtain⟨d,z,ne,e,J,⟨L,es,D,e2,c⟩,r⟩:=AU x;exact⟨V _ d,z,ne,k _ _ (.inl rfl) e,J,⟨L,es,D,k _ _ (.inr d) e2,c⟩,r⟩
 |own y=>obtain⟨B,e⟩:=x;exact⟨B,k _ _ (.inl rfl) e⟩
 |xd fs=>obtain⟨J,⟨L,es,D,e,c⟩,r⟩:=Au x;exact⟨J,⟨L,es,D,k _ _ (.inl rfl) e,c⟩,r⟩
 |cy lo hi=>obtain⟨t,u,v,e⟩:=x;exact⟨t,u,v,k _ _ (.inl rfl) e⟩
 |bT B u ih=>obtain⟨e,q⟩:=x;exact⟨k _ _ (.inl rfl) e,ih q⟩
 |fu O =>
  have e:h.get? a=some { cls:=.none,data:=.fields O }:=x;show h'.get? a=some { cls:=.none,data:=.fields O };exact k a _ (.inl rfl) e
 |met f y =>
  have e:h.get? a=some (Z8 (.ref f)<|.ref y):=x;show h'.get? a=some (Z8 (.ref f)<|.ref y);exact k a _ (.inl rfl) e
 |ext φ=>obtain⟨p,⟨o,e⟩,st⟩:=AU x;exact⟨st _ _ p λo q=>k _ _ (.inl rfl) q,⟨o,k _ _ (.inl rfl) e⟩,st⟩
def AY.lt(x:AY P w H h)(e:H a=some o):a<h.objs.size:=(x a o e).lt
def AY.fresh(x:AY P w H h)(e:h.objs.size<=a):H a=none:=by
 cases q:H a with
 |none=>rfl
 |some u=>exact absurd (VM (x.lt q) e)<|Wv _
def AY.kept(x:AY P w H h)(k:∀b u,h.get? b=some u->h'.get? b=some u):AY P w H h':=λa o e =>
 (x a o e).dB (λb u _ q=>k b u q) (λ_ q=>q) λ_ _ q=>q
def AY.laid(x:AY P w H h)(k:∀b u,h.get? b=some u->h'.get? b=some u)(D:h.objs.size<=a)(new:Bv P w (upd H a o) h' a o):AY P w (upd H a o) h':=λb u e=>by
 have B:=x.fresh D;by_cases hb:b=a
 .subst hb;rw[Ao]at e;cases e;exact new
 .rw[Aw hb]at e;exact(x b u e).dB (λc v _ q=>k c v q) (λc q=>by rwa[Aw<|Cn q B]) λc xs q=>by rwa[Aw<|Cn q B]
end
def Rd(H:Hp)(a:ar)(u:HO):Prop:=H a=some u\/∃o,H a=some (.bT o u)
def Rd.ok (r:Rd H a u)(x:AY P w H h):Bv P w H h a u:=by
 rcases r with r|⟨o,r⟩
 .exact x a u r
 .obtain ⟨_,q⟩:=x a _ r;exact q
def IW:Option HO->Prop
 |some (.lst _)=>True
 |some (.dK _)=>True
 |some (.dT _)=>True
 |some (.set _ _)=>True
 |some (.ins _ _ _)=>True
 |some (.ext _)=>True
 |_=>False
section
variable {P:UZ}{w:UU}{H:Hp}{h h':Heap}{x e:ar}{o':HO}
def AY.write(ok:AY P w H h)(B:IW (H x))(J:e=x\/H e=some (.own x))(k:∀b u,b≠e->h.get? b=some u->h'.get? b=some u)(V:∃u,h'.get? e=some u)(new:Bv P w (upd H x o') h' x o'):AY P w (upd H x o') h':=λb u q=>by
 have L:∀c y,H c=some (.own y)->c≠x:=λc y r z=>by subst z;rwa[r]at B
 have I:∀c xs,H c=some (.tup xs)->c≠x:=λc xs r z=>by subst z;rwa[r]at B
 by_cases hb:b=x
 .subst hb;rw[Ao]at q;cases q;exact new
 .rw[Aw hb]at q;by_cases D:b=e
  .have O:H b=some (.own x):=by
    rcases J with z|z
    .exact absurd (D.trans z) hb
    .rwa[D]
   rw [q]at O;cases O;obtain⟨v,hv⟩:=V;exact⟨v,by rwa[D]⟩
  .refine (ok b u q).dB (λc v hc r=>k c v ?_ r) (λc r=>by rwa[Aw<|L c b r]) λc xs r=>by rwa[Aw<|I c xs r]
   rcases hc with rfl|hc
   .exact D
   .rintro rfl;rcases J with z|z
    .exact L c b hc z
    .rw[hc]at z;cases z;exact hb rfl
end
structure Un(fs ex:List ar)(H H':Hp)(h h':Heap):Prop where
 keep:∀b o,h.get? b=some o->H b=none->b ∉ fs->b ∉ ex->h'.get? b=some o
 slot:∀b o,h.get? b=some o->H b=none->b∈fs->b ∉ ex->∃sl,h'.get? b=some { o with slots:=sl }
 free:∀b o,h.get? b=some o->H b=none->b ∉ ex->H' b=none
 there:∀b o,h.get? b=some o->b ∉ ex->∃o',h'.get? b=some o'
 aj:∀b xs,H b=some (.tup xs)->H' b=some (.tup xs)
 cO:∀b o u,H b=some (.bT o u)->H' b=some (.bT o u)
 cX:∀b ps,H b=some (.fu ps)->∃more,H' b=some (.fu (ps++more))
section
variable {fs fA ex ex':List ar}{H H1 H2:Hp}{h h1 h2 h':Heap}{a x e:ar}{o:HO}
def Un.any (u:Un fs ex H H1 h h1)(q:h.get? b=some B)(n:H b=none)(hx:b ∉ ex):∃D,h1.get? b=some { B with slots:=D }:=by
 by_cases hb:b∈fs
 .exact u.slot b B q n hb hx
 .exact ⟨B.slots,u.keep b B q n hb hx⟩
def Un.kept(k:∀b u,h.get? b=some u->h'.get? b=some u):Un fs ex H H h h' :=
 ⟨λb B q _ _ _=>k b B q,λb B q _ _ _=>⟨B.slots,k b B q⟩,λ_ _ _ n _=>n,λb B q _=>⟨B,k b B q⟩,λ_ _ q=>q,λ_ _ _ q=>q,λ_ D q=>⟨#[],by rw[q];simp⟩⟩
def Un.refl:Un fs ex H H h h:=Un.kept λ_ _ q=>q
theorem Un.laid(k:∀b u,h.get? b=some u->h'.get? b=some u)(D:h.objs.size<=a)(B:H a=none):Un fs ex H (upd H a o) h h' where
 keep:=λb u q _ _ _=>k b u q
 slot:=λb u q _ _ _=>⟨u.slots,k b u q⟩
 free:=λb u q n _=>by rw[Aw (Vv (VM (Vk q) D))];exact n
 there:=λb u q _=>⟨u,k b u q⟩
 aj:=λb xs q=>by rw[Aw (Cn q B)];exact q
 cO:=λb u xs q=>by rw[Aw (Cn q B)];exact q
 cX:=λb I q=>⟨#[],by rw[Aw (Cn q B),q];simp⟩
def Un.write(B:IW (H x))(J:e=x\/H e=some (.own x))(k:∀b u,b≠e->h.get? b=some u->h'.get? b=some u)(L:∃u,h'.get? e=some u):Un fs ex H (upd H x o) h h':=by
 have hx:∀b,H b=none->b≠x:=λb n z=>by subst z;rwa[n]at B
 have hb:∀b,H b=none->b≠e:=λb n z=>by
  subst z;rcases J with r|r
  .exact hx b n r
  .rw[n]at r;cases r
 have D:∀b u,H b=some u->¬IW (some u)->b≠x:=λb u q nm z=>by subst z;rw[q]at B;exact nm B
 refine⟨λb u q n _ _=>k b u (hb b n) q,λb u q n _ _=>⟨u.slots,k b u (hb b n) q⟩,λb u q n _=>by rwa[Aw<|hx b n],λb u q _=>?_,
  λb xs q=>by rwa[Aw<|D b _ q λz=>z],λb u xs q=>by rwa[Aw<|D b _ q λz=>z],λb O q=>⟨#[],by rw[Aw<|D b _ q λz=>z,q];simp⟩⟩
 by_cases I:b=e
 .subst I;exact L
 .exact ⟨u,k b u I q⟩
end
noncomputable def Km(h:Heap)(H:Hp):List ar:=(VN h.objs.size).filter λa=>(H a).isSome
def FY(h:Heap)(H:Hp):Heap:=Zo h (Km h H)
def Aah(h:Heap)(H:Hp):(FY h H).objs.size=h.objs.size:=PySem.W.hideAll_size _ _
def Aai (e:h.get? b=some o)(n:H b=none):(FY h H).get? b=some o :=
 YR _ e λB=>by
  have q:(H b).isSome=true:=(X5.mp B).2;rw[n]at q;simp at q
def Aaj (e:(FY h H).get? b=some o):h.get? b=some o/\H b=none:=by
 have B:h.get? b=some o:=xp (Km h H) e;refine⟨B,?_⟩;cases q:H b with
 |none=>rfl
 |some x =>
  have D:b∈Km h H:=X5.mpr ⟨We.mpr<|Vk B,by simp[q]⟩;have z:(FY h H).get? b=none:=PySem.W.hideAll_none (Km h H) D;rw[z]at e;cases e
structure Mod(K:UT)(mg:aU->Option af)(base:Heap):Prop where
 d7:K.In base
 glob:base.Ns Xd mg
 blt:∃mb,base.Ns Zp mb/\∀x:aU,x≠"__name__"->mb x=VS x
 nolimit:base.NoLimit
structure Cx where
 prog:UZ
 w:UU
 K:UT
 mg:aU->Option af
 base:Heap
 A:Vf
 N:List aU
 s₀:US
 H₀:Hp
 env:Env
 outer:List Env
 stack:List Env
 ex:List ar
 fn:aU->Bool
 calm:Bool
 pn:List (ar×Obj)
 xe:af->US->Prop
noncomputable def Du(l:List Env):List ar:=l.filterMap (·.frame)
abbrev Cx.fs(X:Cx):List ar:=Du X.outer
def Kn(sc:Scope)(x:aU):Prop:=sc.names.lookup x=some .local\/sc.names.lookup x=some .cell\/sc.names.lookup x=some .free
def HY(sc:Scope)(x:aU):Prop:=sc.names.lookup x=some .local\/sc.names.lookup x=some .cell
def Pd(env:Env)(h:Heap)(m:aU->Option af)(x:aU)(u:af):Prop :=
 (env.kindOf x=some .local/\m x=some u)\/((env.kindOf x=some .cell\/env.kindOf x=some .free)/\∃c,env.cells.lookup x=some c/\h.IsCell c (some u))
structure Cx.Ok(X:Cx):Prop where
 mod:Mod X.K X.mg X.base
 kind:X.env.scope.kind=.function
 glob:X.env.globals=Xd
 blt:X.env.builtins=Zp
 above:X.s₀.heap.objs.size<=X.env.locals
 inj:∀x y c,X.env.cells.lookup x=some c->X.env.cells.lookup y=some c->x=y
 has:∀x,(X.env.kindOf x=some .cell\/X.env.kindOf x=some .free)->∃c,X.env.cells.lookup x=some c
 dC:∀x c,X.fn x=true->X.env.cells.lookup x=some c->X.s₀.heap.objs.size<=c
 hd:X.calm=true->X.A.handled=none
 frames:X.A.frames=some X.stack
 aM:X.stack=X.outer\/(X.stack=X.env::X.outer/\X.env.frame=some X.env.locals)
 fB:∀b∈X.ex,b≠X.env.locals/\∀x c,X.env.cells.lookup x=some c->c≠b
 bs:∀b o,X.base.get? b=some o->X.s₀.heap.get? b=some o/\X.H₀ b=none
 cz:X.base.objs.size<=X.s₀.heap.objs.size
 dD:∀b o,X.base.get? b=some o->b ∉ X.ex
 dE:∀b∈X.ex,b ∉ X.fs
 bD:X.s₀.heap.FunFrames X.base X.outer
 cP:∀b∈X.fs,X.H₀ b=none
structure Ac(X:Cx)(π:List (ar×Obj))(σ:List (Option V))(H:Hp)(s:US):Prop where
 ok:X.Ok
 os:s.os=X.s₀.os
 bare:Xe s.gens
 base:Un X.fs X.ex X.H₀ H X.s₀.heap s.heap
 loc:∃m,s.heap.Ns X.env.locals m/\∀(i:Nat)(x:aU)(v:V),X.N[i]?=some x->σ[i]?=some (some v)->Kn X.env.scope x->∃u,AH v u/\Pd X.env s.heap m x u
 cell:∀x c,X.env.cells.lookup x=some c->∃v,s.heap.IsCell c v
 free:H X.env.locals=none
 bM:∀x c,X.env.cells.lookup x=some c->H c=none
 pin:∀p∈X.pn++π,s.heap.get? p.1=some p.2/\H p.1=none/\p.1≠X.env.locals/\p.1 ∉ X.fs/\∀v,p.2.data≠.cell v
 ah:AY X.prog X.w H s.heap
 len:σ.length=X.N.length
section
variable {X:Cx}{π:List (ar×Obj)}{σ:List (Option V)}{H H':Hp}{s:US}{h':Heap}
def Cx.Ok.aab (ok:X.Ok)(e:X.base.get? b=some o):b ∉ X.fs:=λhb=>by
 have:=(ok.bD.mem hb).1;rw[e]at this;cases this
def Ac.bs(I:Ac X π σ H s):∀b o,X.base.get? b=some o->s.heap.get? b=some o/\H b=none:=λb o e =>
 ⟨I.base.keep b o (I.ok.bs b o e).1 (I.ok.bs b o e).2 (I.ok.aab e)<|I.ok.dD b o e,I.base.free b o (I.ok.bs b o e).1 (I.ok.bs b o e).2<|I.ok.dD b o e⟩
def Ac.bk(I:Ac X π σ H s):∀b o,X.base.get? b=some o->s.heap.get? b=some o:=λb o e=>(I.bs b o e).1
def Ac.mod(I:Ac X π σ H s):Mod X.K X.mg X.base:=I.ok.mod
def Ac.aH(I:Ac X π σ H s):X.K.In s.heap:=I.ok.mod.d7.keeps I.bk
def Ac.lt(I:Ac X π σ H s):X.env.locals<s.heap.objs.size:=let ⟨_,B,_⟩:=I.loc;B.lt
def Ac.sz(I:Ac X π σ H s):X.s₀.heap.objs.size<=s.heap.objs.size:=V7 I.ok.above<|XA I.lt
def Ac.aac(I:Ac X π σ H s){a:ar}(h:s.heap.objs.size<=a):a ∉ X.fs:=λhb=>by
 obtain⟨_,o,B,_⟩:=I.ok.bD.mem hb;exact absurd (VM (Vk B)<|V7 I.sz h)<|Wv _
def Ac.d8(I:Ac X π σ H s):∀x c,X.env.cells.lookup x=some c->c≠X.env.locals:=λx c e z=>by
 obtain⟨v,o,B,hd⟩:=Bz<|I.cell x c e;obtain⟨m,⟨L,es,O,D,J,_⟩,_⟩:=Au I.loc;rw[z,D]at B;cases B;rw[J]at hd;cases hd
def Ac.bD(I:Ac X π σ H s):s.heap.FunFrames X.base X.outer:=by
 have all:∀(l:List Env),(∀b∈Du l,b∈X.fs)->X.s₀.heap.FunFrames X.base l->s.heap.FunFrames X.base l:=by
  intro l;induction l with
  |nil=>intro _ _;trivial
  |cons env r ih =>
   intro hs J;obtain⟨hk,⟨L,o,B,O,Y,hd⟩,hr⟩:=AU J;have D:L∈X.fs:=hs L (by unfold Du;rw[Z9,B];exact VJ);obtain⟨sl,e⟩:=I.base.slot L o Y (I.ok.cP L D) D λz=>I.ok.dE L z D;exact⟨hk,⟨L,_,B,O,e,hd⟩,ih (λb hb=>hs b<|by unfold Du;rw[Z9,B];exact Vw _ hb) hr⟩
 exact all X.outer (λ_ hb=>hb) I.ok.bD
def Ac.stack(I:Ac X π σ H s):s.heap.FunFrames X.base X.stack:=by
 rcases I.ok.aM with e|⟨e,B⟩
 .rw[e];exact I.bD
 .rw[e];obtain⟨m,D,_⟩:=Au I.loc;refine .cons (by rw[I.ok.kind];decide) B D ?_ I.bD;exact Heap.get?_none_of_le<|V7 I.ok.cz I.ok.above
def Ac.d9(I:Ac X π σ H s):∀b∈Du X.stack,b∈X.env.locals::X.fs:=λb hb=>by
 rcases I.ok.aM with e|⟨e,B⟩
 .rw[e]at hb;exact Vw _ hb
 .rw[e]at hb;unfold Du at hb;rwa[Z9,B]at hb
def Ac.mD(I:Ac X π σ H s):∀b∈Du X.stack,H b=none:=λb hb=>by
 rcases Vc.mp (I.d9 b hb)with e|hb
 .rw[e];exact I.free
 .obtain ⟨_,o,B,_⟩:=I.ok.bD.mem hb;exact I.base.free b o B (I.ok.cP b hb) λz=>I.ok.dE b z hb
def Ac.step{g':Array X6}{t':Nat}{d':Drawn}{ch:List ar}(I:Ac X π σ H s)(L:∀b∈ch,(b∈X.ex\/X.s₀.heap.objs.size<=b)/\b≠X.env.locals/\(∀x c,X.env.cells.lookup x=some c->c≠b)/\∀p∈X.pn++π,p.1≠b)(keep:∀b o,b≠X.env.locals->b ∉ X.fs->b ∉ ch->s.heap.get? b=some o->H b=none->h'.get? b=some o)(slot:∀b o,b≠X.env.locals->b∈X.fs->b ∉ ch->s.heap.get? b=some o->H b=none->∃sl,h'.get? b=some { o with slots:=sl })(free:∀b o,b ∉ ch->s.heap.get? b=some o->H b=none->H' b=none)(there:∀b o,b ∉ ch->s.heap.get? b=some o->∃o',h'.get? b=some o')(aj:∀b xs,H b=some (.tup xs)->H' b=some (.tup xs))(cO:∀b o u,H b=some (.bT o u)->H' b=some (.bT o u))(cX:∀b ps,H b=some (.fu ps)->∃more,H' b=some (.fu<|ps++more))(ns:∀m,s.heap.Ns X.env.locals m->h'.Ns X.env.locals m)(ah:AY X.prog X.w H' h')(hg:Xe g') :
  Ac X π σ H' { s with heap:=h',gens:=g',drawn:=d',toks:=t' }:=by
 have cZ:∀b o,X.s₀.heap.get? b=some o->b≠X.env.locals:=λb o e=>Vv<|VM (Vk e) I.ok.above;have kj:∀b o,X.s₀.heap.get? b=some o->b ∉ X.ex->b ∉ ch:=λb o e hx hb=>by
  rcases(L b hb).1 with z|z
  .exact hx z
  .exact absurd (VM (Vk e) z) (Wv _)
 have B:∀x c,X.env.cells.lookup x=some c->∀v,s.heap.IsCell c v->h'.IsCell c v:=λx c e v zz=>DV zz λo J hd=>by
  have O:c ∉ ch:=λz=>(L c z).2.2.1 x c e rfl;by_cases hc:c∈X.fs
  .obtain ⟨sl,q⟩:=slot c o (I.d8 x c e) hc O J<|I.bM x c e;exact⟨_,q,hd⟩
  .exact ⟨o,keep c o (I.d8 x c e) hc O J<|I.bM x c e,hd⟩
 refine⟨I.ok,I.os,hg,⟨λb o e n hb hx=>?_,λb o e n hb hx=>?_,λb o e n hx=>?_,λb o e hx=>?_,λb xs e=>aj b xs<|I.base.aj b xs e,λb o xs e=>cO b o xs<|I.base.cO b o xs e,λb ps e=>?_⟩,?_,λx c e=>?_,?_,λx c e=>?_,λp hp=>?_,ah,I.len⟩
 .exact keep b o (cZ b o e) hb (kj b o e hx) (I.base.keep b o e n hb hx) (I.base.free b o e n hx)
 .obtain ⟨sl,D⟩:=I.base.slot b o e n hb hx;obtain⟨gT,Y⟩:=slot b _ (cZ b o e) hb (kj b o e hx) D<|I.base.free b o e n hx;exact⟨gT,Y⟩
 .obtain ⟨o',D⟩:=I.base.there b o e hx;exact free b o' (kj b o e hx) D<|I.base.free b o e n hx
 .obtain ⟨o',D⟩:=I.base.there b o e hx;exact there b o' (kj b o e hx) D
 .obtain ⟨m1,D⟩:=I.base.cX b ps e;obtain⟨m2,Y⟩:=cX b _ D;exact⟨m1++m2,by rw[Y,Array.append_assoc]⟩
 .obtain ⟨m,hn,hl⟩:=Au I.loc;refine⟨m,ns m hn,λi x v D Y e3=>?_⟩;obtain⟨u,r,l⟩:=Au<|hl i x v D Y e3;refine⟨u,r,?_⟩;rcases l with l|⟨k,c,e,z⟩
  .exact .inl l
  .exact .inr ⟨k,c,e,B x c e _ z⟩
 .obtain ⟨v,z⟩:=I.cell x c e;exact⟨v,B x c e v z⟩
 .obtain ⟨m,⟨o,_,_,J,_⟩,_⟩:=Au I.loc;exact free _ o (λz=>(L _ z).2.1 rfl) J I.free
 .obtain ⟨v,o,J,hd⟩:=Bz<|I.cell x c e;exact free c o (λz=>(L c z).2.2.1 x c e rfl) J<|I.bM x c e
 .obtain ⟨e,n,ne,nf,d⟩:=AU<|I.pin p hp;have O:p.1 ∉ ch:=λz=>(L p.1 z).2.2.2 p hp rfl;exact⟨keep p.1 p.2 ne nf O e n,free p.1 p.2 O e n,ne,nf,d⟩
def Ac.un (I:Ac X π σ H s)(u:Un X.fs [] H H' s.heap h')(L:AY X.prog X.w H' h'):Ac X π σ H' { s with heap:=h',toks:=t' }:=by
 obtain⟨m,⟨o,es,ep,D,r⟩,_⟩:=Au<|id I.loc;obtain⟨sl,O⟩:=u.any D I.free `B;exact I.step (g':=s.gens) (d':=s.drawn) (ch:=[]) (λ_ z=>nomatch z) (λb o _ hb _ e n=>u.keep b o e n hb<|(by simp)) (λb o _ hb _ e n=>u.slot b o e n hb<|(by simp)) (λb o _ e n=>u.free b o e n<|(by simp)) (λb o _ e=>u.there b o e<|(by simp)) u.aj u.cO u.cX (λm' Y=>by
  obtain⟨o',B,mE,J,r'⟩:=Dg Y;rw[D]at J;cases J;exact⟨_,B,mE,O,r'⟩) L I.bare
def Ac.call (I:Ac X π σ H s)(u:Un (Du X.stack) ch H H' s.heap h')(Y:AY X.prog X.w H' h')(hg:Xe g')(J:∀b∈ch,(b∈X.ex\/X.s₀.heap.objs.size<=b)/\b≠X.env.locals/\(∀x c,X.env.cells.lookup x=some c->c≠b)/\∀p∈X.pn++π,p.1≠b):
  Ac X π σ H' { s with heap:=h',gens:=g',drawn:=d',toks:=t' }:=by
 obtain⟨m,⟨o,es,ep,L,r⟩,_⟩:=Au<|id I.loc;obtain⟨sl,B⟩:=u.any L I.free λz=>(J _ z).2.1 rfl;exact I.step (ch:=ch) J (λb o B hb hc e n=>u.keep b o e n (λz=>(Vc.mp<|I.d9 b z).elim B hb) hc) (λb o _ _ hc e n=>u.any e n hc) (λb o hc e n=>u.free b o e n hc) (λb o hc e=>u.there b o e hc) u.aj u.cO u.cX (λm' hm=>by
  obtain⟨o',D,mE,O,r'⟩:=Dg hm;rw[L]at O;cases O;exact⟨_,D,mE,B,r'⟩) Y hg
def Ac.turned (I:Ac X π σ H s)(k:∀b o,b≠it->s.heap.get? b=some o->h'.get? b=some o)(J:H it=none)(B:it≠X.env.locals)(L:it∈X.ex\/X.s₀.heap.objs.size<=it)(O:∀x c,X.env.cells.lookup x=some c->c≠it)(Y:∀p∈X.pn++π,p.1≠it):Ac X π σ H { s with heap:=h',toks:=t' }:=by
 have D:∀b u,H b=some u->b≠it:=λb u e z=>by rw[z,J]at e;cases e
 refine I.step (g':=s.gens) (d':=s.drawn) (ch:=[it]) (λb hb=>?_) (λb o _ _ hc e _=>k b o (λz=>hc<|by simp[z]) e) (λb o _ _ hc e _=>⟨o.slots,k b o (λz=>hc<|by simp[z]) e⟩) (λ_ _ _ _ n=>n)
  (λb o hc e=>⟨o,k b o (λz=>hc<|by simp[z]) e⟩) (λ_ _ e=>e) (λ_ _ _ e=>e) (λb ps e=>⟨#[],by rw[e];simp⟩) (λm hm=>?_) (λb u e=>?_) I.bare
 .have e:b=it:=by simpa using hb
  subst e;exact⟨L,B,O,Y⟩
 .obtain ⟨o,es,ep,ho,r⟩:=Dg hm;exact⟨o,es,ep,k _ o (Vy B) ho,r⟩
 .refine (I.ah b u e).dB (λc v hc q=>k c v ?_ q) (λ_ q=>q) λ_ _ q=>q;rcases hc with z|z
  .rw[z];exact D b u e
  .exact D c _ z
def Ac.tok(I:Ac X π σ H s)(t:Nat):Ac X π σ H { s with toks:=t }:=I.un (h':=s.heap) (t':=t) Un.refl I.ah
def Ac.kept (I:Ac X π σ H s)(k:∀b u,s.heap.get? b=some u->h'.get? b=some u):Ac X π σ H { s with heap:=h',toks:=t' }:=I.un (Un.kept k)<|I.ah.kept k
def Ac.laid{a:ar}{o:HO}{t':Nat}(I:Ac X π σ H s)(k:∀b u,s.heap.get? b=some u->h'.get? b=some u)(B:s.heap.objs.size<=a)(new:Bv X.prog X.w (upd H a o) h' a o) :
  Ac X π σ (upd H a o) { s with heap:=h',toks:=t' }:=I.un (Un.laid k B<|I.ah.fresh B)<|I.ah.laid k B new
def Ac.write (I:Ac X π σ H s)(B:IW (H x))(D:e=x\/H e=some (.own x))(k:∀b u,b≠e->s.heap.get? b=some u->h'.get? b=some u)(J:∃u,h'.get? e=some u)(new:Bv X.prog X.w (upd H x o) h' x o):Ac X π σ (upd H x o) { s with heap:=h',toks:=t' }:=I.un (Un.write B D k J)<|I.ah.write B D k J new
def Ac.qW (I:Ac X π σ H s)(h:∀p∈bU,s.heap.get? p.1=some p.2/\H p.1=none/\p.1≠X.env.locals/\p.1 ∉ X.fs/\∀v,p.2.data≠.cell v):Ac X bU σ H s :=
 ⟨I.ok,I.os,I.bare,I.base,I.loc,I.cell,I.free,I.bM,λp B=>(Vx.mp B).elim (λz=>I.pin p<|Yt _ z)<|h p,I.ah,I.len⟩
def Me{N:List aU}(B:N.Nodup){i j:Nat}{x:aU}(a:N[i]?=some x)(b:N[j]?=some x):i=j:=by obtain⟨J,D⟩:=Vz.mp a;obtain⟨L,I⟩:=Vz.mp b;exact(YS B).mp (D.trans I.symm)
def Pe (I:Ac X π σ H s)(hN:X.N.Nodup)(O:X.N[i]?=some x)(hx:HY X.env.scope x)(r:AH v u)(h:∀s',Ac X π (σ.set i<|some v) H s'->(∃a,V8 a s.heap s'.heap/\(a=X.env.locals\/X.env.cells.lookup x=some a))->Q () s')(hf:X.fn x=true\/X.env.scope.names.lookup x=some .local:=by first|exact .inl rfl|exact .inr rfl|assumption):UY M A (storeName X.env x u) Q E s:=by
 obtain⟨m,hn,hl⟩:=Au<|id I.loc;have aad:(X.env.scope.kind == .class || (X.env.scope.kind == .module && X.env.locals != X.env.globals))=false:=by rw[I.ok.kind];rfl
 have qX:i<σ.length:=by rw[I.len];exact(Vz.mp O).1
 have d8:=I.d8;have B:∀{a:ar}{h':Heap},(∃o,s.heap.get? a=some o/\H a=none)->V8 a s.heap h'->AY X.prog X.w H h':=λ{a h'} ha hs b ob e=>by
  obtain⟨_,_,qY⟩:=Au ha;refine(I.ah b ob e).dB (λc Y hc q=>(hs.2 c ?_).trans q) (λ_ q=>q) λ_ _ q=>q;rintro rfl;rcases hc with rfl|hc
  .rw[qY]at e;cases e
  .rw[qY]at hc;cases hc
 rcases hx with hk|hk
 .refine wpAny_storeName_local hk hn (λh' mF hs=>?_) aad;obtain⟨oL,_,_,hoL,_⟩:=Dg<|id hn;refine h _ ⟨I.ok,I.os,I.bare,⟨λb o e n hb hx=>?_,λb o e n hb hx=>?_,I.base.free,λb o e hx=>?_,I.base.aj,I.base.cO,I.base.cX⟩,⟨_,mF,λj y v' D J e3=>?_⟩,λy c e=>?_,I.free,I.bM,λp hp=>?_,B ⟨oL,hoL,I.free⟩ hs,by simpa using I.len⟩ ⟨_,hs,.inl rfl⟩
  .exact (hs.2 b<|Vv (VM (Vk e) I.ok.above)).trans (I.base.keep b o e n hb hx)
  .obtain ⟨sl,D⟩:=I.base.slot b o e n hb hx;exact⟨sl,(hs.2 b<|Vv (VM (Vk e) I.ok.above)).trans D⟩
  .obtain ⟨o',D⟩:=I.base.there b o e hx;exact⟨o',(hs.2 b<|Vv (VM (Vk e) I.ok.above)).trans D⟩
  .by_cases L:j=i
   .subst L;rw[O]at D;cases D;rw[X7 qX]at J;cases J;exact⟨u,r,.inl ⟨hk,(by simp)⟩⟩
   .rw[Ww<|Vy L]at J;obtain⟨u',r',q⟩:=Au<|hl j y v' D J e3;refine⟨u',r',?_⟩;rcases q with ⟨k,e⟩|⟨k,c,e,z⟩
    .refine .inl ⟨k,?_⟩;have:y≠x:=λe=>L<|Me hN D (e▸O);simp[this,e]
    .exact .inr ⟨k,c,e,z.sameBut hs<|d8 y c e⟩
  .obtain ⟨Y,z⟩:=I.cell y c e;exact⟨Y,z.sameBut hs<|d8 y c e⟩
  .obtain ⟨e,n,ne,nf,d⟩:=AU<|I.pin p hp;exact⟨(hs.2 p.1 ne).trans e,n,ne,nf,d⟩
 .have mI:X.fn x=true:=by
   rcases hf with z|z
   .exact z
   .rw[z]at hk;cases hk
  obtain⟨c,hc⟩:=I.ok.has x<|.inl hk;obtain⟨Y,z⟩:=I.cell x c hc;refine wpAny_storeName_cell I.ok.kind hk hc z λh' qZ hs=>?_;obtain⟨oc,rf,aae⟩:=Au<|id z;refine h { s with heap:=h' } ⟨I.ok,I.os,I.bare,⟨λb o e n hb hx=>?_,λb o e n hb hx=>?_,I.base.free,λb o e hx=>?_,I.base.aj,I.base.cO,I.base.cX⟩,⟨m,hn.sameBut hs<|Vy (d8 x c hc),λj y v' D J e3=>?_⟩,λy c' e=>?_,I.free,I.bM,λp hp=>?_,B ⟨oc,rf,I.bM x c hc⟩ hs,by simpa using I.len⟩ ⟨c,hs,.inr hc⟩
  .exact (hs.2 b<|Vv (VM (Vk e)<|I.ok.dC x c mI hc)).trans (I.base.keep b o e n hb hx)
  .obtain ⟨sl,D⟩:=I.base.slot b o e n hb hx;exact⟨sl,(hs.2 b<|Vv (VM (Vk e)<|I.ok.dC x c mI hc)).trans D⟩
  .obtain ⟨o',D⟩:=I.base.there b o e hx;exact⟨o',(hs.2 b<|Vv (VM (Vk e)<|I.ok.dC x c mI hc)).trans D⟩
  .by_cases L:j=i
   .subst L;rw[O]at D;cases D;rw[X7 qX]at J;cases J;exact⟨u,r,.inr ⟨.inl hk,c,hc,qZ⟩⟩
   .rw[Ww<|Vy L]at J;obtain⟨u',r',q⟩:=Au<|hl j y v' D J e3;refine⟨u',r',?_⟩;rcases q with q|⟨k,c',e,z'⟩
    .exact .inl q
    .refine .inr ⟨k,c',e,z'.sameBut hs ?_⟩;rintro rfl;exact L<|Me hN D (I.ok.inj _ _ _ e hc▸O)
  .by_cases rg:c'=c
   .subst rg;exact⟨_,qZ⟩
   .obtain ⟨w2,z2⟩:=I.cell y c' e;exact⟨w2,z2.sameBut hs rg⟩
  .obtain ⟨e,n,ne,nf,d⟩:=AU<|I.pin p hp;refine⟨(hs.2 p.1 ?_).trans e,n,ne,nf,d⟩;intro q;rw[q,rf]at e;have q':oc=p.2:=Vq e;exact d Y<|by rwa[<-q']
def Mf (I:Ac X π σ H s)(D:X.N.Nodup)(J:X.N[i]?=some x)(hx:HY X.env.scope x)(r:AH v u)(h:∀B,Ac X π (σ.set i<|some v) H B->Q () B)(L:X.fn x=true\/X.env.scope.names.lookup x=some .local:=by first|exact .inl rfl|exact .inr rfl|assumption):UY M A (storeName X.env x u) Q E s :=
 Pe I D J hx r (λB O _=>h B O) L
def Ac.rh (I:Ac X π σ H s)(O:B.os=s.os)(u:Un (Du X.stack) ch H H' s.heap B.heap)(Y:AY X.prog X.w H' B.heap)(hg:Xe B.gens)(bp:∀b∈ch,(b∈X.ex\/X.s₀.heap.objs.size<=b)/\b≠X.env.locals/\(∀x c,X.env.cells.lookup x=some c->c≠b)/\∀p∈X.pn++π,p.1≠b):Ac X π σ H' B:=by obtain⟨h',D,J,L,o'⟩:=B;have e:o'=s.os:=O;subst e;exact I.call (g':=D) (t':=L) (d':=J) u Y hg bp
end
abbrev XK:=af->Option ar->Hp->Prop
abbrev St:=List (Option V)
abbrev VK:=V->Hp->Prop
abbrev TE:=St->Hp->VK->Prop
abbrev TT:=St->Hp->(Bool->Hp->Prop)->Prop
abbrev TA:=St->Hp->(List V->Hp->Prop)->Prop
structure Ek where
 nx:St->Hp->Prop
 rt:VK
 bk:St->Hp->Prop:=λ_ _=>False
 ct:St->Hp->Prop:=λ_ _=>False
abbrev TS:=Ek->St->Hp->Prop
def EP(X:Cx)(π:List (ar×Obj))(σ:St)(Q:VK)(u:af)(s':US):Prop:=∃v H',Ac X π σ H' s'/\AH v u/\Q v H'
def TP(X:Cx)(π:List (ar×Obj))(σ:St)(Q:Bool->Hp->Prop)(b:Bool)(s':US):Prop:=∃H',Ac X π σ H' s'/\Q b H'
def AP(X:Cx)(π:List (ar×Obj))(σ:St)(Q:List V->Hp->Prop)(us:List af)(s':US):Prop:=∃vs H',Ac X π σ H' s'/\AA vs us/\Q vs H'
def SP(X:Cx)(π:List (ar×Obj))(D:Ek)(f:Flow)(s':US):Prop :=
 match f with
 |.next=>∃σ' H',Ac X π σ' H' s'/\D.nx σ' H'
 |.brk=>∃σ' H',Ac X π σ' H' s'/\D.bk σ' H'
 |.cont=>∃σ' H',Ac X π σ' H' s'/\D.ct σ' H'
 |.ret u=>∃v σ' H',Ac X π σ' H' s'/\AH v u/\D.rt v H'
def PE(X:Cx)(e:UX)(t:TE):Prop :=
 ∀(π:List (ar×Obj))(s:US)(σ:St)(H:Hp)(Q:VK),Ac X π σ H s->t σ H Q->UY (U1 X.prog X.w) X.A (U9 e X.env) (EP X π σ Q) X.xe s
def PT(X:Cx)(e:UX)(t:TT):Prop :=
 ∀(π:List (ar×Obj))(s:US)(σ:St)(H:Hp)(Q:Bool->Hp->Prop),Ac X π σ H s->t σ H Q->UY (U1 X.prog X.w) X.A (YT e X.env (U9 e X.env)) (TP X π σ Q) X.xe s
def PW(X:Cx)(e:UX)(t:TT):Prop :=
 ∀(whole:Sem af)(π:List (ar×Obj))(s:US)(σ:St)(H:Hp)(Q:Bool->Hp->Prop),Ac X π σ H s->t σ H Q->UY (U1 X.prog X.w) X.A (YT e X.env whole) (TP X π σ Q) X.xe s
def PW.pt (h:PW X e t):PT X e t:=h _
def PA(X:Cx)(es:List UX)(t:TA):Prop :=
 ∀(pos:Pos)(π:List (ar×Obj))(s:US)(σ:St)(H:Hp)(Q:List V->Hp->Prop),Ac X π σ H s->t σ H Q->UY (U1 X.prog X.w) X.A (spliced (Vu pos (U8 es X.env))) (AP X π σ Q) X.xe s
def PS(X:Cx)(st:Stmt)(t:TS):Prop :=
 ∀(π:List (ar×Obj))(s:US)(σ:St)(H:Hp)(D:Ek),Ac X π σ H s->t D σ H->UY (U1 X.prog X.w) X.A (exec st X.env) (SP X π D) X.xe s
def Di(X:Cx)(st:List Stmt)(t:TS):Prop :=
 ∀(π:List (ar×Obj))(s:US)(σ:St)(H:Hp)(D:Ek),Ac X π σ H s->t D σ H->UY (U1 X.prog X.w) X.A (execs st X.env) (SP X π D) X.xe s
def As{α:Type}{t:Sem α}{Q B:α->US->Prop}{M:Xo}{A:Vf}{E:af->US->Prop}{s:US}(h:UY M A t Q E s)(D:∀a s,Q a s->B a s):UY M A t B E s:=Ws h D λ_ _ x=>x
section
variable {X:Cx}
def IX(i:Nat):TE:=λσ H Q=>∃v,σ[i]?=some (some v)/\Q v H
def tC(v:V):TE:=λ_ H Q=>Q v H
def Mg{i:Nat}{x:aU}{pos:Pos}(J:X.N[i]?=some x)(hv:Kn X.env.scope x)(hd:(x == ("__debug__":aU))=false:=by decide)(L:(x == ("__classdict__":aU))=false:=by decide):PE X (.Name x pos) (IX i):=by
 show 0;replace h:=Au h;obtain⟨v,e,h⟩:=h
 obtain⟨m,O,V⟩:=Au I.loc;obtain⟨u,r,l⟩:=Au<|V i x v J e hv;have B:EP X π σ Q u s:=⟨v,H,I,r,h⟩;rcases l with ⟨hk,Y⟩|⟨hk,c,hc,D⟩
 .exact vF (wpAny_loadName_local I.ok.kind hk O Y B) hd
 .rcases hk with hk|hk
  .exact vF (wpAny_loadName_cell I.ok.kind hk hc D B) hd
  .exact vF (wpAny_loadName_free I.ok.kind hk hc D B L) hd
def Aj:PE X (.Constant (.int i) j pos) (tC<|.int i):=λ_ _ _ H _ I h=>wpAny_Constant_int ⟨.int i,H,I.tok _,(⟨_,rfl⟩),h⟩
def DX:PE X (.Constant (.bool b) j pos) (tC<|.bl b):=λ_ _ _ H _ I h=>Constant_bool ⟨.bl b,H,I,rfl,h⟩
def Cv:PE X (.Constant .none j pos) (tC .aa):=λ_ _ _ H _ I h=>Constant_none ⟨.aa,H,I,rfl,h⟩
def Ae:PE X (.Constant (.str x) j pos) (tC<|.str x):=λ_ _ _ H _ I h=>Calls.Constant_str ⟨.str x,H,I.tok _,(⟨_,rfl⟩),h⟩
def Gl(X:Cx)(x:aU):Prop:=X.env.kindOf x=some .globalImplicit
def IY{E:af->US->Prop}{π:List (ar×Obj)}{s:US}{σ:St}{H:Hp}{x:aU}{u:af}{pos:Pos}{Q:af->US->Prop}(I:Ac X π σ H s)(B:Gl X x)(D:X.mg x=some u)(h:Q u s)(hd:(x == ("__debug__":aU))=false:=by decide):UY (U1 X.prog X.w) X.A (U9 (.Name x pos) X.env) Q E s :=
 xq I.ok.kind B (Calls.loadGlobal_global (by rw[I.ok.glob];exact I.mod.glob.keeps I.bk) D h) hd
def Gn{E:af->US->Prop}{π:List (ar×Obj)}{s:US}{σ:St}{H:Hp}{x:aU}{u:af}{pos:Pos}{Q:af->US->Prop}(I:Ac X π σ H s)(B:Gl X x)(D:X.mg x=none)(hv:VS x=some u)(h:Q u s)(J:x≠"__name__":=by decide)(hd:(x == ("__debug__":aU))=false:=by decide):UY (U1 X.prog X.w) X.A (U9 (.Name x pos) X.env) Q E s:=by obtain⟨V,L,O⟩:=Au I.mod.blt;exact xq I.ok.kind B (Calls.loadGlobal_builtin (by rw[I.ok.glob];exact I.mod.glob.keeps I.bk) D (by rw[I.ok.blt];exact L.keeps I.bk) ((O x J).trans hv) h) hd
def Aak (B:Gl X x)(D:X.mg x=some u)(r:AH v u)(hd:(x == ("__debug__":aU))=false:=by decide):PE X (.Name x pos) (tC v) :=
 λ_ _ _ H _ I h=>IY I B D ⟨v,H,I,r,h⟩ hd
def Aal{x:aU}{v:V}{u:af}{pos:Pos}(B:Gl X x)(D:X.mg x=none)(hv:VS x=some u)(r:AH v u)(J:x≠"__name__":=by decide)(hd:(x == ("__debug__":aU))=false:=by decide):PE X (.Name x pos) (tC v) :=
 λ_ _ _ H _ I h=>Gn I B D hv ⟨v,H,I,r,h⟩ J hd
variable {a b:UX}{ta tb:TE}{pos:Pos}
def tB(t:TE):TT:=λσ H Q=>t σ H λx H1=>∃c,x=.bl c/\Q c H1
def Dj (h:PE X e t)(J:∀B,YT e X.env B=(do let v <-B;Wo e.pos;Wl [v] (truthy v)):=by intro _;rfl):PT X e (tB t):=by
 intro π s σ H Q I hw;refine isTrue_plain (As (h π s σ H _ I hw) λv s1 L=>AF L λx O V Y D=>?_)<|J _;replace D:=Au D;obtain⟨d,rfl,q⟩:=D
 cases Y;exact Xp ⟨O,V,q⟩
variable {tA km:TT}{rest:List UX}
def Aam(t u:TT):TT:=λσ H Q=>t σ H λc H1=>if c=true then u σ H1 Q else Q false H1
def tOr(t u:TT):TT:=λσ H Q=>t σ H λc H1=>if c=true then Q true H1 else u σ H1 Q
def Aan(t:TT):TT:=λσ H Q=>t σ H λc H1=>Q (!c) H1
def Gp(B:PT X a tA):PW X (.BoolOp .And [a] pos) tA:=by
 intro D π s σ H Q I h;refine isTrue_and<|As (B π s σ H Q I h) λc J e=>?_;cases c with
 |true=>exact isTrue_and_nil e
 |false=>exact e
def IZ(B:PT X a tA):PW X (.BoolOp .Or [a] pos) tA:=by
 intro D π s σ H Q I h;refine isTrue_or<|As (B π s σ H Q I h) λc J e=>?_;cases c with
 |false=>exact isTrue_or_nil e
 |true=>exact e
def Fv(L:PT X a tA)(hb:PW X (.BoolOp .And (b::rest) pos) km):PW X (.BoolOp .And (a::b::rest) pos) (Aam tA km):=by
 intro O π s σ H Q I h;refine isTrue_and<|As (L π s σ H _ I h) λc V Y=>DV Y λB D J=>?_;cases c with
 |true=>exact hb O π V σ B Q D J
 |false=>exact⟨B,D,J⟩
def I0(L:PT X a tA)(hb:PW X (.BoolOp .Or (b::rest) pos) km):PW X (.BoolOp .Or (a::b::rest) pos) (tOr tA km):=by
 intro O π s σ H Q I h;refine isTrue_or<|As (L π s σ H _ I h) λc V Y=>DV Y λB D J=>?_;cases c with
 |true=>exact⟨B,D,J⟩
 |false=>exact hb O π V σ B Q D J
def DY(B:PT X a tA):PT X (.UnaryOp .Not a pos) (Aan tA):=by show 0;exact isTrue_not<|B π s σ H (λc D=>Q (!c) D) I h
def Aao(ta tb:TE):TE:=λσ H Q=>ta σ H λx H1=>∃c,x=.bl c/\if c=true then tb σ H1 Q else Q (.bl false) H1
def Aap(ta:TE):TE:=λσ H Q=>ta σ H λx H1=>∃c,x=.bl c/\Q (.bl (!c)) H1
def Mh (h:PE X a t):PE X (.BoolOp op [a] pos) t:=λπ s σ H Q I hw=>BoolOp_one<|h π s σ H Q I hw
def Pf(L:PE X a ta)(hb:PE X (.BoolOp .And (b::rest) pos) tb):PE X (.BoolOp .And (a::b::rest) pos) (Aao ta tb):=by
 show 0;refine BoolOp_and<|As (L π s σ H _ I h) λv O V=>AF V λx D J Y B=>?_;replace B:=Au B;obtain⟨c,rfl,B⟩:=B
 cases Y;apply Xp;cases c with
 |true=>exact hb π O σ D Q J B
 |false=>exact⟨.bl false,D,J,rfl,B⟩
def Mi(D:PE X a ta):PE X (.UnaryOp .Not a pos) (Aap ta):=by
 show 0;refine UnaryOp_<|As (D π s σ H _ I h) λv Y J=>AF J λx L O V B=>?_;replace B:=Au B;obtain⟨c,rfl,B⟩:=B
 cases V;exact not_of<|Xp ⟨.bl<|!c,L,O,rfl,B⟩
def tIf(t:TT)(ta tb:TE):TE:=λσ H Q=>t σ H λc H1=>if c=true then ta σ H1 Q else tb σ H1 Q
def Pg (hc:PT X c tA)(O:PE X a ta)(hb:PE X b tb):PE X (.IfExp c a b pos) (tIf tA ta tb):=by
 show 0;refine wpAny_IfExp<|As (hc π s σ H _ I h) λd B V=>DV V λD J L=>?_;cases d with
 |true=>exact O π B σ D Q J L
 |false=>exact hb π B σ D Q J L
end
def A2(K:UT)(H:Hp)(a:ar)(xs:List V):Prop :=
 Rd H a (.lst xs) \/
  ∃(o:Obj)(its:Array af)(n:Nat),K.lookup a=some o/\o.cls=.type "list"/\o.dict=none/\o.data=.seq its n/\its.size<=sizeLine/\AA xs its.toList
def Bn(K:UT)(H:Hp)(a:ar)(xs:List V):Prop :=
 Rd H a (.tup xs) \/
  ∃(o:Obj)(its:Array af)(n:Nat),K.lookup a=some o/\o.cls=.type "tuple"/\o.data=.seq its n/\its.size<=sizeLine/\AA xs its.toList
noncomputable def Aaq:af->Option V
 |.none=>some .aa
 |.bool b=>some (.bl b)
 |.int i _=>some (.int i)
 |.str x _=>some (.str x)
 |.bytes b _=>some (.cc b)
 |.float b _=>some (.fZ b)
 |.ref a=>some (.ref a)
 |.type n=>some (.ty n)
 |_=>none
def AH.abs (r:AH x u):Aaq u=some x:=by
 cases x with
 |aa=>cases r;rfl
 |bl _=>cases r;rfl
 |int _=>obtain⟨t,rfl⟩:=r;rfl
 |str _=>obtain⟨t,rfl⟩:=r;rfl
 |cc _=>obtain⟨t,rfl⟩:=r;rfl
 |fZ _=>obtain⟨t,rfl⟩:=r;rfl
 |ref _=>cases r;rfl
 |ty _=>cases r;rfl
def AH.inj (r:AH x u)(q:AH y u):x=y:=Vq<|r.abs.symm.trans q.abs
theorem AA.inj:∀{xs ys:List V}{us:List af},AA xs us->AA ys us->xs=ys
 |_,_,_,.nil,.nil=>rfl
 |_,_,_,.cons r t,.cons B D=>by rw[r.inj B,AA.inj t D]
section
variable {X:Cx}{π:List (ar×Obj)}{σ:St}{H:Hp}{s:US}{a:ar}{xs ys:List V}
def A2.of{K:UT}(h:H a=some (.lst xs)):A2 K H a xs:=.inl<|.inl h
def Bn.of{K:UT}(h:H a=some (.tup xs)):Bn K H a xs:=.inl<|.inl h
def Ac.list(I:Ac X π σ H s)(h:A2 X.K H a xs):∃its:List af,AA xs its/\PlainL s.heap a its.toArray/\xs.length<=sizeLine:=by
 rcases h with h|⟨o,its,n,hk,hc,hd,hs,B,r⟩
 .obtain ⟨z,its,n,r,e⟩:=h.ok I.ah;exact⟨its,r,⟨_,n,e,rfl,rfl,rfl⟩,z⟩
 .refine ⟨its.toList,r,⟨o,n,I.aH a o hk,hc,hd,by simpa using hs⟩,?_⟩;have e:=r.length;simp only[Wm]at e;omega
def Ac.tuple(I:Ac X π σ H s)(h:Bn X.K H a xs):∃its:List af,AA xs its/\IsTup s.heap a its.toArray/\xs.length<=sizeLine:=by
 rcases h with h|⟨o,its,n,hk,hc,hs,B,r⟩
 .obtain ⟨z,its,r,p⟩:=h.ok I.ah;exact⟨its,r,p,z⟩
 .refine ⟨its.toList,r,⟨o,I.aH a o hk,hc,n,by simpa using hs⟩,?_⟩;have e:=r.length;simp only[Wm]at e;omega
def Ac.kn(I:Ac X π σ H s)(h:A2 X.K H a xs)(h':A2 X.K H a ys):xs=ys:=by
 obtain⟨its,r,⟨o,n,e,_,_,d⟩,_⟩:=AG<|I.list h;obtain⟨B,L,⟨Y,n',D,_,_,J⟩,_⟩:=AG<|I.list h';rw[e]at D;cases D;rw[d]at J;injection J with O _;have:its=B:=by simpa using congrArg Array.toList O
 subst this;exact r.inj L
def Ac.rj(I:Ac X π σ H s)(h:Bn X.K H a xs)(h':Bn X.K H a ys):xs=ys:=by
 obtain⟨its,r,⟨o,e,_,n,d⟩,_⟩:=AG<|I.tuple h;obtain⟨B,L,⟨Y,D,_,n',J⟩,_⟩:=AG<|I.tuple h';rw[e]at D;cases D;rw[d]at J;injection J with O _;have:its=B:=by simpa using congrArg Array.toList O
 subst this;exact r.inj L
end
noncomputable abbrev Cx.dF(X:Cx)(E:af->US->Prop):Cx:={ X with xe:=E }
noncomputable abbrev Cx.kq(X:Cx):Cx:=X.dF λ_ _=>False
def Cx.Ok.dF{X:Cx}(ok:X.Ok)(E:af->US->Prop):(X.dF E).Ok :=
 ⟨ok.mod,ok.kind,ok.glob,ok.blt,ok.above,ok.inj,ok.has,ok.dC,ok.hd,ok.frames,ok.aM,ok.fB,ok.bs,ok.cz,ok.dD,ok.dE,ok.bD,ok.cP⟩
def Cx.Ok.fD{X:Cx}{E:af->US->Prop}(ok:(X.dF E).Ok):X.Ok :=
 ⟨ok.mod,ok.kind,ok.glob,ok.blt,ok.above,ok.inj,ok.has,ok.dC,ok.hd,ok.frames,ok.aM,ok.fB,ok.bs,ok.cz,ok.dD,ok.dE,ok.bD,ok.cP⟩
section
variable {X:Cx}{π:List (ar×Obj)}{σ:St}{H:Hp}{s:US}{E:af->US->Prop}
def Ac.dF(I:Ac X π σ H s)(E:af->US->Prop):Ac (X.dF E) π σ H s:=⟨I.ok.dF E,I.os,I.bare,I.base,I.loc,I.cell,I.free,I.bM,I.pin,I.ah,I.len⟩
def Ac.fD(I:Ac (X.dF E) π σ H s):Ac X π σ H s:=⟨I.ok.fD,I.os,I.bare,I.base,I.loc,I.cell,I.free,I.bM,I.pin,I.ah,I.len⟩
def SP.fD (h:SP (X.dF E) π D f J):SP X π D f J:=by
 cases f with
 |next=>obtain⟨σ',B,I,q⟩:=Bz h;exact⟨σ',B,I.fD,q⟩
 |brk=>obtain⟨σ',B,I,q⟩:=Bz h;exact⟨σ',B,I.fD,q⟩
 |cont=>obtain⟨σ',B,I,q⟩:=Bz h;exact⟨σ',B,I.fD,q⟩
 |ret u=>obtain⟨v,σ',B,I,r,q⟩:=Dg h;exact⟨v,σ',B,I.fD,r,q⟩
def Di.kq{st:List Stmt}{t:TS}(h:Di X.kq st t):Di X st t:=λπ s σ H D I hw =>
 Ws (h π s σ H D (I.dF _) hw) (λ_ _ q=>q.fD) λ_ _ z=>Wx z
end
section
variable {X:Cx}{st:Stmt}{rest:List Stmt}{t u:TS}{e:UX}{te:TE}{pos:Pos}
def Ph:TS:=λD σ H=>D.nx σ H
def Mj(t u:TS):TS:=λD σ H=>t { D with nx:=u D } σ H
def Aar:Di X [] Ph:=λ_ _ σ H _ I h=>YU ⟨σ,H,I,h⟩
def Ad(B:PS X st t)(J:Di X rest u):Di X (st::rest) (Mj t u):=by
 show 5;refine xr<|As (B π s σ H { D with nx:=u D } I h) λf L q=>?_;cases f with
 |next =>
  replace q:=Bz q;obtain⟨σ',O,V,q⟩:=q
  exact J π L σ' O D V q
 |ret v=>exact q
 |brk=>exact q
 |cont=>exact q
def Ai(B:PS X st t):Di X [st] t:=by
 show 5;refine xr<|As (B π s σ H D I h) λf J q=>?_;cases f with
 |next=>exact YU q
 |ret v=>exact q
 |brk=>exact q
 |cont=>exact q
def Ac.quiet{π:List (ar×Obj)}{σ:St}{H:Hp}{s:US}(I:Ac X π σ H s):interactive X.env=false:=by simp[interactive,I.ok.kind]
def Aas(te:TE):TS:=λD σ H=>te σ H λ_ H1=>D.nx σ H1
def A4(B:PE X e te)(hs:Xq e none pos.line X.env=pure false:=by rfl):PS X (.Expr e pos) (Aas te):=by show 5;exact wpAny_Expr_any (As (B π s σ H _ I h) λv Y J=>AF J λx L O r1 V=>⟨σ,L,O,V⟩) I.quiet hs
def Aat(te:TE):TS:=λD σ H=>te σ H D.rt
def AB(B:PE X e te):PS X (.Return (some e) pos) (Aat te):=by show 5;exact wpAny_Return_some<|As (B π s σ H _ I h) λv s1 J=>AF J λx L O V Y=>⟨x,σ,L,O,V,Y⟩
def Pj(c:TT)(t u:TS):TS:=λD σ H=>c σ H λb H1=>if b=true then t D σ H1 else u D σ H1
def Ja (hc:PT X c B)(Y:Di X a t)(hb:Di X b u):PS X (.If c a b pos) (Pj B t u):=by
 show 5;refine wpAny_If<|As (hc π s σ H _ I h) λd J zz=>DV zz λL O V=>?_;cases d with
 |true=>exact Y π J σ L D O V
 |false=>exact hb π J σ L D O V
end
abbrev TG:=V->St->Hp->(St->Hp->Prop)->Prop
abbrev Gq:=List V->St->Hp->(St->Hp->Prop)->Prop
def PG(X:Cx)(target:UX)(t:TG):Prop :=
 ∀(π:List (ar×Obj))(s:US)(σ:St)(H:Hp)(v:V)(u:af)(Q:St->Hp->Prop),Ac X π σ H s->AH v u->t v σ H Q ->
  UY (U1 X.prog X.w) X.A (WS target X.env u) (λ_ s'=>∃σ' H',Ac X π σ' H' s'/\Q σ' H') X.xe s
def Jb(X:Cx)(ts:List UX)(t:Gq):Prop :=
 ∀(π:List (ar×Obj))(s:US)(σ:St)(H:Hp)(vs:List V)(us:List af)(Q:St->Hp->Prop),Ac X π σ H s->AA vs us->t vs σ H Q ->
  UY (U1 X.prog X.w) X.A (assignInOrder ((XB ts X.env).map (·.2)) us) (λ_ s'=>∃σ' H',Ac X π σ' H' s'/\Q σ' H') X.xe s
abbrev Jc:=V->V->V->Hp->(Hp->Prop)->Prop
def Ml(X:Cx)(t:Jc):Prop :=
 ∀(π:List (ar×Obj))(s:US)(σ:St)(H:Hp)(o i v:V)(ov iv u:af)(Q:Hp->Prop),Ac X π σ H s->AH o ov->AH i iv->AH v u->t o i v H Q ->
  UY (U1 X.prog X.w) X.A (YV ov iv u) (λ_ s'=>∃H',Ac X π σ H' s'/\Q H') X.xe s
abbrev Ko:=V->V->Hp->VK->Prop
def Pk(X:Cx)(op:Yu)(t:Ko):Prop :=
 ∀(π:List (ar×Obj))(s:US)(σ:St)(H:Hp)(x y:V)(v u:af)(Q:VK),Ac X π σ H s->AH x v->AH y u->t x y H Q ->
  UY (U1 X.prog X.w) X.A (inplaceOp op v u) (EP X π σ Q) X.xe s
section
variable {X:Cx}{pos:Pos}
def EV(i:Nat):TG:=λv σ H Q=>Q (σ.set i (some v)) H
def Pl (B:X.N.Nodup)(D:X.N[i]?=some x)(hx:HY X.env.scope x)(J:X.fn x=true\/X.env.scope.names.lookup x=some .local:=by first|exact .inl rfl|exact .inr rfl|assumption):PG X (.Name x pos) (EV i):=by intro π s σ H v u Q I r h;exact xt<|Mf I B D hx r (λO L=>⟨_,H,L,h⟩) J
def Aau:Gq:=λvs σ H Q=>vs=[]/\Q σ H
def Aav(t:TG)(u:Gq):Gq:=λvs σ H Q=>∃v r,vs=v::r/\t v σ H λσ' H'=>u r σ' H' Q
def D7:Jb X [] Aau:=by intro π s σ H vs us Q I r h;obtain⟨e,h⟩:=h;subst e;cases r;exact assignInOrder_nil ⟨σ,H,I,h⟩
def BW (B:PG X e t)(D:Jb X es u)(hs:(XB (e::es) X.env).map (·.2)=WS e X.env::(XB es X.env).map (·.2):=by rfl):Jb X (e::es) (Aav t u):=by
 intro π s σ H vs us Q I r h;replace h:=Bz h;obtain⟨v,vr,J,h⟩:=h
 subst J;cases r with
 |cons r L =>
  rw [hs];refine assignInOrder_cons<|As (B π s σ H _ _ _ I r h) λ_ O V=>Mc V λσ1 Y I1 q1=>?_;exact D π O σ1 Y _ _ Q I1 L q1
def Pn(K:UT)(n:Nat)(t:Gq):TG:=λv σ H Q=>∃a xs,v=.ref a/\Bn K H a xs/\xs.length=n/\t xs σ H Q
def FZ{es:List UX}{k:Nat}{t:Gq}{n:Nat}(hc:X.calm=true)(h:Jb X es t)(D:(XB es X.env).length=n:=by rfl)(J:(XB es X.env).findIdx? (·.1)=none:=by rfl):PG X (.Tuple es k pos) (Pn X.K n t):=by
 intro π s σ H v u Q I r hw;replace hw:=BB hw;obtain⟨a,xs,L,hq,O,hw⟩:=hw
 subst L;cases r;obtain⟨its,B,V,hz⟩:=AG<|I.tuple hq;refine assign_Tuple_tuple (I.ok.hd hc) V (by simp[D,<-O,B.length]) J λY hx=>?_;have I1:Ac X π σ H { s with heap:=Y }:=I.kept (t':=s.toks) λb o e=>hx b o (Vv<|Vk e) e;exact h π _ σ H xs _ Q I1 (by simpa using B) hw
def Aaw(to ti:TE)(t:Jc):TG:=λv σ H Q=>to σ H λo H1=>ti σ H1 λi H2=>t o i v H2 λH3=>Q σ H3
def Fw (V:PE X o L)(Y:PE X i O)(hs:Ml X t)(ha:∀v,WS (.Subscript o i pos) X.env v=(do
   let B <-Wl [v] (U9 o X.env)
   let D <-Wl [v,B] (U9 i X.env)
   Wo pos
   Wl [v,B,D] (YV B D v)
   release [v,B,D] []):=by intro _;rfl):PG X (.Subscript o i pos) (Aaw L O t):=by
 intro π s σ H v u Q I r h;rw[ha];refine U2<|WJ (As (V π s σ H _ I h) λB s1 J=>AF J λx H1 I1 r1 q1=>?_);refine U2<|WJ (As (Y π s1 σ H1 _ I1 q1) λD s2 J=>AF J λy H2 I2 r2 q2=>?_);refine U2<|X8 (U2<|WJ (As (hs π s2 σ H2 x y v B D u _ I2 r1 r2 r q2) λ_ s3 J=>DV J λH3 I3 q3=>?_));exact wpAny_release ⟨σ,H3,I3,q3⟩
def Gs(te:TE)(g:TG):TS:=λD σ H=>te σ H λx H1=>g x σ H1 D.nx
def El (L:PE X e J)(O:PG X B g)(hs:swapsWithSole [B] e pos.line X.env=pure false:=by rfl)(hw:swappedStores [B] e X.env=pure none:=by rfl)(V:(XB [B] X.env).map (·.2)=[WS B X.env]:=by rfl):PS X (.Assign [B] e pos) (Gs J g):=by show 5;refine wpAny_Assign_stores (As (L π s σ H _ I h) λv Y zz=>AF zz λx H1 I1 r1 q1=>?_) hs hw;rw[V];exact As (O π Y σ H1 x v _ I1 r1 q1) λ_ s2 q=>q
def Po (L:X.N.Nodup)(O:X.N[i]?=some x)(hx:HY X.env.scope x)(V:PE X e J)(hs:Xq e (some<|.Name x B) pos.line X.env=pure false:=by rfl)(Y:X.fn x=true\/X.env.scope.names.lookup x=some .local:=by first|exact .inl rfl|exact .inr rfl|assumption):
  PS X (.Assign [.Name x B] e pos) (Gs J<|EV i):=by
 show 5;refine wpAny_Assign_Name (As (V π s σ H _ I h) λv s1 zz=>AF zz λy H1 I1 r1 q1=>?_) hs;exact Mf I1 L O hx r1 (λs2 I2=>⟨_,H1,I2,q1⟩) Y
def Aax(to ti te:TE)(kr:V->V->Hp->VK->Prop)(ku:Ko)(kA:Jc):TS:=λD σ H=>to σ H λo H1=>ti σ H1 λi H2=>kr o i H2 λx H3=>te σ H3 λy H4=>ku x y H4 λz H5=>kA o i z H5 λH6=>D.nx σ H6
def Pp(X:Cx)(t:V->V->Hp->VK->Prop):Prop :=
 ∀(π:List (ar×Obj))(s:US)(σ:St)(H:Hp)(o i:V)(ov iv:af)(Q:VK),Ac X π σ H s->AH o ov->AH i iv->t o i H Q ->
  UY (U1 X.prog X.w) X.A (Ya ov iv) (EP X π σ Q) X.xe s
def Jd (ho:PE X o Y)(hi:PE X i ti)(hg:Pp X kr)(he:PE X e te)(hp:Pk X op ku)(hs:Ml X kA)(ha:∀J L new,augStore i J L new=(do Wl [new,J,L] (YV J L new);release [new,J,L] [];pure .next):=by intros;rfl):PS X (.AugAssign (.Subscript o i iZ) op e pos) (Aax Y ti te kr ku kA):=by show 5;refine xu (As (ho π s σ H _ I h) λJ s1 B=>AF B λx1 H1 I1 r1 q1=>?_) ha;refine As (hi π s1 σ H1 _ I1 q1) λL s2 B=>AF B λx2 H2 I2 r2 q2=>?_;refine As (hg π s2 σ H2 x1 x2 J L _ I2 r1 r2 q2) λO s3 B=>AF B λx3 H3 I3 r3 q3=>?_;refine As (he π s3 σ H3 _ I3 q3) λv s4 B=>AF B λx4 H4 I4 r4 q4=>?_;refine As (hp π s4 σ H4 x3 x4 O v _ I4 r3 r4 q4) λnew s5 B=>AF B λx5 H5 I5 r5 q5=>?_;exact As (hs π s5 σ H5 x1 x2 x5 J L new _ I5 r1 r2 r5 q5) λ_ s6 B=>DV B λH6 I6 q6=>⟨σ,H6,I6,q6⟩
def ipI(f:Int->Int->Int):Ko:=λx y H Q=>∃i j,x=.int i/\y=.int j/\Q (.int (f i j)) H
def Je:Pk X .Add (ipI λi j=>i+j):=by intro π s σ H x y v u Q I B D h;obtain⟨i,j,J,L,q⟩:=BB h;subst J;subst L;obtain⟨t,rfl⟩:=B;obtain⟨O,rfl⟩:=D;exact iadd_int ⟨.int _,H,I.tok _,(⟨_,rfl⟩),q⟩
end
section
variable {X:Cx}{pos:Pos}
def Aay(c:TT)(tb:TS):TS:=λD σ H=>∃W:Nat->St->Hp->Prop,(∃m,W m σ H)/\∀m σ H,W m σ H ->
 c σ H λb H1=>if b=true then ∃N:St->Hp->Prop,(∀σ' H',N σ' H'->∃m',m'<m/\W m' σ' H')/\tb { D with nx:=N,ct:=N,bk:=D.nx } σ H1 else D.nx σ H1
def Pq (hp:Zq (U1 X.prog X.w) X.A X.env X.xe)(hc:PT X c tc)(hb:Di X body tb):PS X (.While c body [] pos) (Aay tc tb):=by
 show 5;obtain⟨W,⟨m0,w0⟩,turn⟩:=Au h;refine wpAny_While<|codeAny_whileLoop (λn s'=>∃σ' H',Ac X π σ' H' s'/\W n σ' H') ?_ m0 ⟨σ,H,I,w0⟩;rintro n s1 ⟨σ1,H1,I1,w1⟩;refine Yb hp<|As (hc π s1 σ1 H1 _ I1<|turn n σ1 H1 w1) λb s2 zz=>DV zz λH2 I2 B=>?_;cases b with
 |true =>
  replace B:=Au B;obtain⟨N,hN,B⟩:=B
  rw [bf rfl];refine Yb hp<|As (hb π s2 σ1 H2 _ I2 B) λf s3 L=>?_;cases f with
  |next =>
   obtain⟨σ3,J,O,V⟩:=Bz L;obtain⟨m',Y,w3⟩:=Au<|hN σ3 J V;exact⟨m',Y,σ3,J,O,w3⟩
  |cont =>
   obtain⟨σ3,J,O,V⟩:=Bz L;obtain⟨m',Y,w3⟩:=Au<|hN σ3 J V;exact⟨m',Y,σ3,J,O,w3⟩
  |brk=>exact L
  |ret v=>exact L
 |false =>
  rw [ck VG];exact YU ⟨σ1,H2,I2,B⟩
end
structure It where
 go:Nat->Hp->Prop
 mJ:Nat->Hp->V->Hp->Prop
 stop:Nat->Hp->Prop
def ED(X:Cx)(π:List (ar×Obj))(H:Hp)(b:ar):Prop :=
 H b=none/\b≠X.env.locals/\b ∉ X.fs/\(b∈X.ex\/X.s₀.heap.objs.size<=b)/\(∀x c,X.env.cells.lookup x=some c->c≠b)/\∀p∈X.pn++π,p.1≠b
def Ac.eF{X:Cx}{π:List (ar×Obj)}{σ:St}{H B:Hp}{s:US}{b:ar}(I:Ac X π σ H s)(hb:s.heap.objs.size<=b)(D:B b=none):ED X π B b:=by
 refine⟨D,Xf<|VM I.lt hb,I.aac hb,.inr<|V7 I.sz hb,λx c e z=>?_,λp J z=>?_⟩
 .obtain ⟨v,q⟩:=I.cell x c e;exact absurd (VM q.lt<|by rwa[z])<|Wv _
 .exact absurd (VM (Vk (I.pin p J).1)<|by rwa[z]) (Wv _)
structure Gu(P:UZ)(w:UU)(K:UT)(tg:UX)(J:It)(fp:List ar)(it:ar)(tn:Nat->Heap->Prop):Prop where
 mem:it∈fp
 obj:∀i h,tn i h->∀b∈fp,∃o,h.get? b=some o/\∀v,o.data≠.cell v
 keep:∀i h h',tn i h->(∀b∈fp,∀o,h.get? b=some o->h'.get? b=some o)->tn i h'
 item:∀(X:Cx),X.prog=P->X.w=w->X.K=K->X.calm=true->∀(i:Nat)(π:List (ar×Obj))(s:US)(σ:St)(H:Hp)(E:af->US->Prop),Ac X π σ H s->(∀b∈fp,ED X π H b)->tn i s.heap->J.go i H ->
  UY (U1 P w) X.A (WT (.ref it)) (λr s1=>∃u,r=some u /\
   UY (U1 P w) X.A (Yv tg (.ref it) u) (λ_ s2=>∃x H',Ac X π σ H' s2/\AH x u/\J.mJ i H x H'/\tn (i+1) s2.heap/\∀b∈fp,H' b=none) E s1) E s
 done:∀(X:Cx),X.prog=P->X.w=w->X.K=K->X.calm=true->∀(i:Nat)(π:List (ar×Obj))(s:US)(σ:St)(H:Hp)(E:af->US->Prop),Ac X π σ H s->(∀b∈fp,ED X π H b)->tn i s.heap->J.stop i H ->
  UY (U1 P w) X.A (WT (.ref it)) (λr s1=>r=none/\Ac X π σ H s1) E s
 self:∀(A:Vf)(i:Nat)(s:US)(Q:af->US->Prop)(E:af->US->Prop),tn i s.heap->Q (.ref it) s->UY (U1 P w) A (Yw (.ref it)) Q E s
abbrev TI:=St->Hp->(It->Hp->Prop)->Prop
def Pt(X:Cx)(π:List (ar×Obj))(σ:St)(tg:UX)(R:It->Hp->Prop)(mK:af)(s2:US):Prop :=
 ∃(it:ar)(fp:List ar)(tn:Nat->Heap->Prop)(J:It)(H':Hp),mK=.ref it/\Ac X π σ H' s2/\Gu X.prog X.w X.K tg J fp it tn/\tn 0 s2.heap/\(∀b∈fp,ED X π H' b)/\R J H'
def PI(X:Cx)(tg iter:UX)(wi:TI):Prop :=
 ∀(π:List (ar×Obj))(s:US)(σ:St)(H:Hp)(R:It->Hp->Prop),Ac X π σ H s->wi σ H R ->
  UY (U1 X.prog X.w) X.A (U9 iter X.env) (λv s1=>UY (U1 X.prog X.w) X.A (Yw v) (Pt X π σ tg R) X.xe s1) X.xe s
def Kp (H:s.heap.get? it=some o)(hc:o.cls=.type n)(hd:o.data=.fields vs)(I:["enumerate","zip","dict_itemiterator","dict_reverseitemiterator","odict_iterator","itertools.zip_longest","itertools.pairwise"].contains n=false)(B:Q () s):UY M A (Yv D (.ref it) u) Q E s:=by
 unfold Yv;cases D<;>first
  |exact Vd B
  | (cases u<;>first
    |exact Vd B
    | (refine U2 (wpAny_load H ?_)
       rw [hc,hd];show UY M A (if (["enumerate","zip","dict_itemiterator","dict_reverseitemiterator","odict_iterator","itertools.zip_longest","itertools.pairwise"].contains n && vs[0]? == some (Yc _))=true then _ else _) Q E s;rw[ck<|by intro h;rw[I,Bool.false_and]at h;cases h];exact Vd B))
def HZ(K:UT)(a:ar):It :=
 ⟨λi H=>∃xs x,A2 K H a xs/\xs[i]?=some x,λi H x H'=>H'=H/\∀xs,A2 K H a xs->xs[i]?=some x,λi H=>∃xs,A2 K H a xs/\xs.length<=i⟩
def Jf(K:UT)(a:ar):It :=
 ⟨λi H=>∃xs x,Bn K H a xs/\xs[i]?=some x,λi H x H'=>H'=H/\∀xs,Bn K H a xs->xs[i]?=some x,λi H=>∃xs,Bn K H a xs/\xs.length<=i⟩
def G1(lo:Int)(n:Nat):It:=⟨λi _=>i<n,λi H x H'=>H'=H/\x=.int (lo+i),λi _=>n<=i⟩
theorem Aaz{P:UZ}{w:UU}{K:UT}{tg:UX}(a it:ar):Gu P w K tg (HZ K a) [it] it (λi h=>h.IsListIter it a i) where
 mem:=by simp
 obj:=λi h st b hb=>by
  have e:b=it:=by simpa using hb
  subst e;obtain⟨o,e,c,d⟩:=AG st;exact⟨o,e,λv z=>by rw[d]at z;cases z⟩
 keep:=λi h B st k=>st.at λo e=>k it (by simp) o e
 item:=by intro X J hw L hc i π s σ H E I D st O;subst J hw L;obtain⟨xs,x,hq,hx⟩:=Bz O;obtain⟨its,V,p,hz⟩:=AG (I.list hq);obtain⟨u,hu,ru⟩:=Au (V.get hx);obtain⟨Y,f1,f2,f3,f4,f5⟩:=AU (D it (by simp));refine wpAny_pyNext_list_item st p.isList (x:=u) (by simpa using hu) λB bu sb=>?_;have I1:Ac X π σ H { s with heap:=B }:=I.turned (t':=s.toks) (λb o hb e=>(sb.2 b hb).trans e) Y f1 f3 f4 f5;obtain⟨o,e,c,d⟩:=AG (id bu);exact⟨u,rfl,Kp (s:={ s with heap:=B }) e c d (by decide) ⟨x,H,I1,ru,⟨rfl,λys hy=>by rw[I.kn hy hq];exact hx⟩,bu,λb hb=>(D b hb).1⟩⟩
 done:=by intro X J hw L hc i π s σ H E I D st O;subst J hw L;obtain⟨xs,hq,hx⟩:=Au O;obtain⟨its,V,p,hz⟩:=AG (I.list hq);obtain⟨Y,f1,f2,f3,f4,f5⟩:=AU (D it (by simp));have hl:=V.length;exact wpAny_pyNext_list_end (I.ok.hd hc) st p.isList (by simp;omega) λB eb=>⟨rfl,I.turned (t':=s.toks) (λb o hb e=>eb b o hb e) Y f1 f3 f4 f5⟩
 self:=λ_ _ _ _ _ st h=>wpAny_pyIter_listiter st h
theorem AaA{P:UZ}{w:UU}{K:UT}{tg:UX}(a it:ar):Gu P w K tg (Jf K a) [it] it (λi h=>h.IsTupleIter it a i) where
 mem:=by simp
 obj:=λi h st b hb=>by
  have e:b=it:=by simpa using hb
  subst e;obtain⟨o,e,c,d⟩:=AG st;exact⟨o,e,λv z=>by rw[d]at z;cases z⟩
 keep:=λi h B st k=>st.at λo e=>k it (by simp) o e
 item:=by intro X J hw L hc i π s σ H E I D st O;subst J hw L;obtain⟨xs,x,hq,hx⟩:=Bz O;obtain⟨its,V,p,hz⟩:=AG (I.tuple hq);obtain⟨u,hu,ru⟩:=Au (V.get hx);obtain⟨Y,f1,f2,f3,f4,f5⟩:=AU (D it (by simp));refine wpAny_pyNext_tuple_item st (show s.heap.IsTuple a its.toArray from p) (x:=u) (by simpa using hu) λB bu sb=>?_;have I1:Ac X π σ H { s with heap:=B }:=I.turned (t':=s.toks) (λb o hb e=>(sb.2 b hb).trans e) Y f1 f3 f4 f5;obtain⟨o,e,c,d⟩:=AG (id bu);exact⟨u,rfl,Kp (s:={ s with heap:=B }) e c d (by decide) ⟨x,H,I1,ru,⟨rfl,λys hy=>by rw[I.rj hy hq];exact hx⟩,bu,λb hb=>(D b hb).1⟩⟩
 done:=by intro X J hw L hc i π s σ H E I D st O;subst J hw L;obtain⟨xs,hq,hx⟩:=Au O;obtain⟨its,V,p,hz⟩:=AG (I.tuple hq);obtain⟨Y,f1,f2,f3,f4,f5⟩:=AU (D it (by simp));have hl:=V.length;exact wpAny_pyNext_tuple_end (I.ok.hd hc) st (show s.heap.IsTuple a its.toArray from p) (by simp;omega) λB eb=>⟨rfl,I.turned (t':=s.toks) (λb o hb e=>eb b o hb e) Y f1 f3 f4 f5⟩
 self:=λ_ _ _ _ _ st h=>wpAny_pyIter_tupleiter st h
theorem AaB{P:UZ}{w:UU}{K:UT}{tg:UX}(it:ar)(lo:Int)(n:Nat):Gu P w K tg (G1 lo n) [it] it (λi h=>IsRangeIter h it (lo+(i:Nat)*1) ((n:Int)-(i:Nat)) 1) where
 mem:=by simp
 obj:=λi h st b hb=>by
  have e:b=it:=by simpa using hb
  subst e;exact⟨_,st,λv z=>by
   have z':Data.fields _=Data.cell v:=z;cases z'⟩
 keep:=λi h B st k=>k it (by simp) _ st
 item:=by intro X J hw L hc i π s σ H E I D st O;subst J hw L;obtain⟨V,f1,f2,Y,f4,f5⟩:=AU (D it (by simp));have W:=Walks.range (prog:=X.prog) (w:=X.w) (I.ok.hd hc) it lo 1 n;refine W.item i s _ _ O st λv B tk hv bu kk=>?_;obtain⟨t,rfl⟩:=hv;have I1:Ac X π σ H { s with heap:=B,toks:=tk }:=I.turned (λb o hb e=>kk b o (by simpa using hb) e) V f1 Y f4 f5;refine⟨_,rfl,Kp (s:={ s with heap:=B,toks:=tk }) (n:="range_iterator") bu rfl rfl (by decide) ⟨.int (lo+i),H,I1,⟨t,?_⟩,⟨rfl,rfl⟩,bu,λb hb=>(D b hb).1⟩⟩;rw[Int.mul_one]
 done:=by intro X J hw L hc i π s σ H E I D st O;subst J hw L;obtain⟨V,f1,f2,Y,f4,f5⟩:=AU (D it (by simp));exact wpAny_pyNext_range_end (I.ok.hd hc) st (by have:n<=i:=O;omega) λB eb=>⟨rfl,I.turned (t':=s.toks) (λb o hb e=>eb b o hb e) V f1 Y f4 f5⟩
 self:=λ_ _ _ _ _ st h=>wpAny_pyIter_rangeiter st h
section
variable {X:Cx}{tg:UX}
def AaC(K:UT)(tl:TE):TI:=λσ H R=>tl σ H λx H1=>∃a,x=.ref a/\(∃xs,A2 K H1 a xs)/\R (HZ K a) H1
def AaD(K:UT)(tl:TE):TI:=λσ H R=>tl σ H λx H1=>∃a,x=.ref a/\(∃xs,Bn K H1 a xs)/\R (Jf K a) H1
def Dk (J:PE X l tl):PI X tg l (AaC X.K tl):=by
 intro π s σ H R I h;refine As (J π s σ H _ I h) λv B L=>AF L λx O D V Y=>?_;obtain⟨a,e,⟨xs,hq⟩,q⟩:=AG Y;subst e;cases V;obtain⟨its,rv,p,hz⟩:=AG<|D.list hq;apply vG p.isList;refine⟨B.heap.objs.size,[B.heap.objs.size],_,_,O,rfl,D.kept (t':=B.toks) λb o e=>Vp _ e,Aaz a _,⟨_,VO _ rfl,rfl,rfl⟩,λb hb=>?_,q⟩;have e:b=B.heap.objs.size:=(by simpa using hb)
 subst e;exact D.eF (Vb _)<|D.ah.fresh (Vb _)
def Pu (J:PE X l tl):PI X tg l (AaD X.K tl):=by
 intro π s σ H R I h;refine As (J π s σ H _ I h) λv B L=>AF L λx O D V Y=>?_;obtain⟨a,e,⟨xs,hq⟩,q⟩:=AG Y;subst e;cases V;obtain⟨its,rv,p,hz⟩:=AG<|D.tuple hq;apply vH (show B.heap.IsTuple a its.toArray from p);refine⟨B.heap.objs.size,[B.heap.objs.size],_,_,O,rfl,D.kept (t':=B.toks) λb o e=>Vp _ e,AaA a _,⟨_,VO _ rfl,rfl,rfl⟩,λb hb=>?_,q⟩;have e:b=B.heap.objs.size:=(by simpa using hb)
 subst e;exact D.eF (Vb _)<|D.ah.fresh (Vb _)
def Pw{π:List (ar×Obj)}{σ:St}{H:Hp}{s:US}{R:It->Hp->Prop}{E:af->US->Prop}{lo B:Int}{t u v:Tok}{tk:Nat}(I:Ac X π σ H s)(J:-(2 ^ 62)<=lo)(L:lo<2 ^ 62)(O:-(2 ^ 62)<=B)(V:B<2 ^ 62)(q:R (G1 lo (B-lo).toNat) H):UY (U1 X.prog X.w) X.A (Yw<|.ref s.heap.objs.size) (Pt X π σ tg R) E { s with heap:=s.heap.push { cls:=.type "range",data:=.fields #[.int lo t,.int B u,.int 1 v] },toks:=tk }:=by
 apply wpAny_pyIter_range (IsRange.new ..) (small_one J L O V);have D:Ac X π σ H { s with heap:=s.heap.push { cls:=.type "range",data:=.fields #[.int lo t,.int B u,.int 1 v] },toks:=tk }:=I.kept λb o e=>Vp _ e;refine⟨(s.heap.push { cls:=.type "range",data:=.fields #[.int lo t,.int B u,.int 1 v] }).objs.size,[(s.heap.push { cls:=.type "range",data:=.fields #[.int lo t,.int B u,.int 1 v] }).objs.size],_,_,H,rfl,
  D.kept (t':=tk) λb o e=>Vp _ e,AaB _ lo (B-lo).toNat,?_,λb hb=>?_,q⟩
 .have Y:lo+((0:Nat):Int)*1=lo:=by simp
  have e2:(((B-lo).toNat:Nat):Int)-((0:Nat):Int)=Builtin.Range.rangeSize lo B 1:=by rw[rangeSize_one];split<;>omega
  show IsRangeIter _ _ (lo+((0:Nat):Int)*1) ((((B-lo).toNat:Nat):Int)-((0:Nat):Int)) 1;rw[Y,e2];exact VO _ rfl
 .have e:b=(s.heap.push { cls:=.type "range",data:=.fields #[.int lo t,.int B u,.int 1 v] }).objs.size:=by simpa using hb
  subst e;exact D.eF (Vb _)<|D.ah.fresh (Vb _)
def Px(ta:TA):TI:=λσ H R=>ta σ H λvs H1=>∃j:Int,vs=[.int j]/\-(2 ^ 62)<=j/\j<2 ^ 62/\R (G1 0 j.toNat) H1
def Py(ta:TA):TI:=λσ H R=>ta σ H λvs H1=>∃i j:Int,vs=[.int i,.int j]/\(-(2 ^ 62)<=i/\i<2 ^ 62/\-(2 ^ 62)<=j/\j<2 ^ 62)/\R (G1 i (j-i).toNat) H1
def AaE (J:Gl X "range")(L:X.mg "range"=none)(O:PA X [a] D)(hs:U8 [a] X.env=[(false,U9 a X.env)]:=by rfl):PI X tg (.Call (.Name "range" p) [a] [] pos) (Px D):=by
 intro π s σ H R I h;refine Call_<|Gn I J L boot_range (Yx (As (O pos π s σ H _ I h) λus s1 V=>AF V λvs H1 Y r1 B=>?_) hs rfl);replace B:=AG B;obtain⟨j,e,B,q2,q⟩:=B
 subst e;cases r1 with
 |cons r rr =>
  cases rr;obtain⟨t,rfl⟩:=r;exact call_range_1<|Pw Y (by omega) (by omega) B q2 (by simpa using q)
def AaF{a b:UX}{J:TA}{p pos:Pos}(O:Gl X "range")(V:X.mg "range"=none)(Y:PA X [a,b] J)(hs:U8 [a,b] X.env=[(false,U9 a X.env),(false,U9 b X.env)]:=by rfl)(L:U8 [b] X.env=[(false,U9 b X.env)]:=by rfl) :
  PI X tg (.Call (.Name "range" p) [a,b] [] pos) (Py J):=by
 intro π s σ H R I h;refine Call_<|Gn I O V boot_range (Yx (As (Y pos π s σ H _ I h) λus s1 zz=>AF zz λvs H1 I1 r1 B=>?_) (by rw[hs,L])<|by rw[L];rfl);replace B:=BB B;obtain⟨i,j,e,⟨B,q2,q3,q4⟩,q⟩:=B
 subst e;cases r1 with
 |cons r D =>
  cases D with
  |cons r' D =>
   cases D;obtain⟨t,rfl⟩:=r;obtain⟨t',rfl⟩:=r';exact call_range_2<|Pw I1 B q2 q3 q4 q
abbrev CW(J:It)(g:TG)(T:(St->Hp->Prop)->St->Hp->Prop)(σ0:St)(H0:Hp)(Q:St->Hp->Prop):Prop:=∃W:Nat->Nat->St->Hp->Prop,(∃m,W 0 m σ0 H0)/\∀i m σ H,W i m σ H ->
 (J.stop i H/\Q σ H)\/(J.go i H/\∃N:St->Hp->Prop,(∀σ' H',N σ' H'->∃m',m'<m/\W (i+1) m' σ' H')/\∀x H',J.mJ i H x H'->g x σ H' (T N))
def G2 (n:Nat)(Pv:Nat->St->Hp->Prop)(L:Pv 0 σ0 D)(hs:∀i σ H,i<n->Pv i σ H->J.go i H/\∀x B,J.mJ i H x B->g x σ B (T<|Pv (i+1)))(hd:∀σ H,Pv n σ H->J.stop n H/\Q σ H):CW J g T σ0 D Q:=by
 refine⟨λi m σ H=>m=n-i/\i<=n/\Pv i σ H,⟨n,rfl,Wn _,L⟩,?_⟩;rintro i m σ H ⟨rfl,V,p⟩;by_cases I:i<n
 .obtain ⟨a,b⟩:=hs i σ H I p;exact .inr ⟨a,Pv<|i+1,λσ' B O=>⟨n-(i+1),(by omega),rfl,I,O⟩,b⟩
 .obtain rfl:i=n:=by omega
  exact .inl<|hd σ H p
def AaG(wi:TI)(g:TG)(tb:TS):TS:=λD σ H=>wi σ H λJ H1=>CW J g (λN σ2 H2=>tb { D with nx:=N,ct:=N,bk:=D.nx } σ2 H2) σ H1 D.nx
noncomputable def Jg(fp:List ar)(h:Heap):List (ar×Obj):=fp.filterMap λb=>(h.get? b).map λo=>(b,o)
def Kq (hb:b∈B)(e:h.get? b=some o):(b,o)∈Jg B h:=vI.mpr ⟨b,hb,by rw[e];rfl⟩
def AaH (D:p∈Jg B h):p.1∈B/\h.get? p.1=some p.2:=by
 obtain⟨b,hb,e⟩:=Au<|vI.mp D;cases q:h.get? b with
 |none=>rw[q]at e;cases e
 |some o =>
  rw [q]at e;have H:(b,o)=p:=Vq e;subst H;exact⟨hb,q⟩
def Ac.pinned{π:List (ar×Obj)}{σ:St}{H:Hp}{s:US}{B:List ar}(I:Ac X π σ H s)(J:∀b∈B,ED X π H b)(L:∀b∈B,∃o,s.heap.get? b=some o/\∀v,o.data≠.cell v):Ac X (π++Jg B s.heap) σ H s :=
 I.qW λp O=>(Vx.mp O).elim (λz=>I.pin p<|V2 _ z) λz=>by
  obtain⟨hb,e⟩:=AaH z;obtain⟨V,f1,f2,_⟩:=AU<|J p.1 hb;obtain⟨o,D,d⟩:=Au<|L p.1 hb;rw[e]at D;cases D;exact⟨e,V,f1,f2,d⟩
def Ac.i4{π pl:List (ar×Obj)}{σ:St}{H:Hp}{s:US}(I:Ac X (π++pl) σ H s):Ac X π σ H s:=I.qW λp B=>I.pin p<|V2 _ (Yt _ B)
def CM (Y:Zq (U1 X.prog X.w) X.A X.env X.xe)(hc:X.calm=true)(hi:PI X tg iter wi)(hg:PG X tg g)(hb:Di X body tb)(hs:∀x,XC iter X.env x=pure x:=by intro _;rfl):PS X (.For tg iter body [] pos) (AaG wi g tb):=by
 show 5;refine wpAny_For (As (hi π s σ H _ I h) λv s1 h1=>As h1 λmK s2 h2=>?_) hs;obtain⟨it,fp,tn,J,H2,e,I2,T,st2,f2,W,⟨m0,w0⟩,turn⟩:=IV h2;subst e;have mM:∀{V:Hp},(∀b∈fp,V b=none)->∀b∈fp,ED X π V b:=λhn b hb=>⟨hn b hb,(f2 b hb).2⟩;refine codeAny_forLoop_any (λn s'=>∃i σ' V,Ac X π σ' V s'/\tn i s'.heap/\(∀b∈fp,V b=none)/\W i n σ' V) ?_ m0 ⟨0,σ,H2,I2,st2,λb hb=>(f2 b hb).1,w0⟩;rintro n s3 ⟨i,σ3,H3,I3,i5,i6,w3⟩;rcases turn i n σ3 H3 w3 with ⟨stop,qn⟩|⟨go,N,hN,step⟩
 .refine Yb Y (As (T.done X rfl rfl rfl hc i π s3 σ3 H3 X.xe I3 (mM i6) i5 stop) λr s4 ⟨hr,I4⟩=>?_);subst hr;exact YU ⟨σ3,H3,I4,qn⟩
 .refine Yb Y (As (T.item X rfl rfl rfl hc i π s3 σ3 H3 X.xe I3 (mM i6) i5 go) λr s4 zz=>DV zz λu hr h4=>?_);subst hr;refine Yb Y<|As h4 λ_ s5 zz=>AF zz λx H5 I5 r5 ⟨y5,gh,mO⟩=>?_;have mQ:=I5.pinned (mM mO)<|T.obj _ _ gh;refine Yb Y<|As (hg _ s5 σ3 H5 x u _ mQ r5<|step x H5 y5) λ_ s6 zz=>Mc zz λσ6 H6 I6 q6=>?_;refine Yb Y<|As (hb _ s6 σ6 H6 _ I6 q6) λf s7 B=>?_;have again:∀{σ7:St}{L:Hp},Ac X (π++Jg fp s5.heap) σ7 L s7->N σ7 L->∃m,m<n/\∃i σ' V,Ac X π σ' V s7/\tn i s7.heap/\(∀b∈fp,V b=none)/\W i m σ' V:=λ{σ7 L} O n7=>by
   obtain⟨m',hm,w7⟩:=Au<|hN σ7 L n7;refine⟨m',hm,i+1,σ7,L,O.i4,T.keep _ _ _ gh λb hb o e=>(O.pin (b,o)<|V2 _ (V2 _<|Kq hb e)).1,λb hb=>?_,w7⟩;obtain⟨o,e,d⟩:=Au<|T.obj _ _ gh b hb;exact(O.pin (b,o)<|V2 _ (V2 _<|Kq hb e)).2.1
  cases f with
  |next=>obtain⟨σ7,L,O,n7⟩:=Bz B;exact again O n7
  |cont=>obtain⟨σ7,L,O,n7⟩:=Bz B;exact again O n7
  |brk=>replace B:=Bz B;obtain⟨σ7,L,O,B⟩:=B;exact⟨σ7,L,O.i4,B⟩
  |ret v=>replace B:=Dg B;obtain⟨x7,σ7,L,O,r7,B⟩:=B;exact⟨x7,σ7,L,O.i4,r7,B⟩
end
def Mm{K:UT}{a:ar}{xs:List V}{g:TG}{T:(St->Hp->Prop)->St->Hp->Prop}{Q:St->Hp->Prop}{σ:St}{H:Hp}(Pv:Nat->St->Hp->Prop)(I:Pv 0 σ H)(B:∀i σ H,i<=xs.length->Pv i σ H->A2 K H a xs)(hs:∀i x σ H,xs[i]?=some x->Pv i σ H->g x σ H (T<|Pv (i+1)))(hd:∀σ H,Pv xs.length σ H->Q σ H):CW (HZ K a) g T σ H Q :=
 G2 xs.length Pv I (λi σ H D p=>have q:=B i σ H (XA D) p;⟨⟨xs,xs[i],q,by simp[D]⟩,λx J ⟨e,y⟩=>by subst e;exact hs i x σ _ (y xs q) p⟩) λσ H p=>⟨⟨xs,B _ σ H (Vb _) p,Vb _⟩,hd σ H p⟩
def Pz{K:UT}{a:ar}{xs:List V}{g:TG}{T:(St->Hp->Prop)->St->Hp->Prop}{Q:St->Hp->Prop}{σ:St}{H:Hp}(Pv:Nat->St->Hp->Prop)(I:Pv 0 σ H)(B:∀i σ H,i<=xs.length->Pv i σ H->Bn K H a xs)(hs:∀i x σ H,xs[i]?=some x->Pv i σ H->g x σ H (T<|Pv (i+1)))(hd:∀σ H,Pv xs.length σ H->Q σ H):CW (Jf K a) g T σ H Q :=
 G2 xs.length Pv I (λi σ H D p=>have q:=B i σ H (XA D) p;⟨⟨xs,xs[i],q,by simp[D]⟩,λx J ⟨e,y⟩=>by subst e;exact hs i x σ _ (y xs q) p⟩) λσ H p=>⟨⟨xs,B _ σ H (Vb _) p,Vb _⟩,hd σ H p⟩
def PB{lo:Int}{n:Nat}{g:TG}{T:(St->Hp->Prop)->St->Hp->Prop}{Q:St->Hp->Prop}{σ:St}{H:Hp}(Pv:Nat->St->Hp->Prop)(D:Pv 0 σ H)(hs:∀i σ H,i<n->Pv i σ H->g (.int<|lo+i) σ H (T<|Pv (i+1)))(hd:∀σ H,Pv n σ H->Q σ H):CW (G1 lo n) g T σ H Q :=
 G2 n Pv D (λi σ H B p=>⟨B,λx I ⟨e,y⟩=>by subst e y;exact hs i σ _ B p⟩) λσ H p=>⟨Vb _,hd σ H p⟩
def D8{K:UT}{a:ar}{xs:List V}{g:TG}{I:TS}{D:Ek}{σ:St}{H:Hp}(Pv:Nat->St->Hp->Prop)(J:Pv 0 σ H)(L:∀i σ H,i<=xs.length->Pv i σ H->A2 K H a xs)(hs:∀i x σ H,xs[i]?=some x->Pv i σ H->g x σ H λσ2 B=>I { D with nx:=Pv<|i+1,ct:=Pv<|i+1,bk:=D.nx } σ2 B)(hd:∀σ H,Pv xs.length σ H->D.nx σ H):CW (HZ K a) g (λN σ2 B=>I { D with nx:=N,ct:=N,bk:=D.nx } σ2 B) σ H D.nx :=
 Mm Pv J L hs hd
def AaI{K:UT}{a:ar}{xs:List V}{g:TG}{I:TS}{D:Ek}{σ:St}{H:Hp}(Pv:Nat->St->Hp->Prop)(J:Pv 0 σ H)(L:∀i σ H,i<=xs.length->Pv i σ H->Bn K H a xs)(hs:∀i x σ H,xs[i]?=some x->Pv i σ H->g x σ H λσ2 B=>I { D with nx:=Pv<|i+1,ct:=Pv<|i+1,bk:=D.nx } σ2 B)(hd:∀σ H,Pv xs.length σ H->D.nx σ H):CW (Jf K a) g (λN σ2 B=>I { D with nx:=N,ct:=N,bk:=D.nx } σ2 B) σ H D.nx :=
 Pz Pv J L hs hd
def Jh{lo:Int}{n:Nat}{g:TG}{I:TS}{D:Ek}{σ:St}{H:Hp}(Pv:Nat->St->Hp->Prop)(J:Pv 0 σ H)(hs:∀i σ H,i<n->Pv i σ H->g (.int<|lo+i) σ H λσ2 B=>I { D with nx:=Pv<|i+1,ct:=Pv<|i+1,bk:=D.nx } σ2 B)(hd:∀σ H,Pv n σ H->D.nx σ H):CW (G1 lo n) g (λN σ2 B=>I { D with nx:=N,ct:=N,bk:=D.nx } σ2 B) σ H D.nx :=
 PB Pv J hs hd
abbrev R2:=V->V->Hp->VK->Prop
def Bc(X:Cx)(f:af->af->Sem af)(r:R2):Prop :=
 ∀(π:List (ar×Obj))(s:US)(σ:St)(H:Hp)(x y:V)(v u:af)(Q:VK),Ac X π σ H s->AH x v->AH y u->r x y H Q ->
  UY (U1 X.prog X.w) X.A (f v u) (EP X π σ Q) X.xe s
def BX(X:Cx)(f:af)(r:List V->Hp->VK->Prop):Prop :=
 ∀(π:List (ar×Obj))(s:US)(σ:St)(H:Hp)(xs:List V)(us:List af)(Q:VK),Ac X π σ H s->AA xs us->r xs H Q ->
  UY (U1 X.prog X.w) X.A (call f us) (EP X π σ Q) X.xe s
def AaJ(X:Cx)(r:V->Hp->(Bool->Hp->Prop)->Prop):Prop :=
 ∀(π:List (ar×Obj))(s:US)(σ:St)(H:Hp)(x:V)(v:af)(Q:Bool->Hp->Prop),Ac X π σ H s->AH x v->r x H Q ->
  UY (U1 X.prog X.w) X.A (truthy v) (TP X π σ Q) X.xe s
def G3(r:R2)(ta tb:TE):TE:=λσ H Q=>ta σ H λx H1=>tb σ H1 λy H2=>r x y H2 Q
def rI(C:Int->Int->Prop)(g:Int->Int->V):R2:=λx y H Q=>∃i j,x=.int i/\y=.int j/\C i j/\Q (g i j) H
def Gv(g:Int->Int->V):R2:=λx y H Q=>∃i j,x=.int i/\y=.int j/\Q (g i j) H
section
variable {X:Cx}{a b c:UX}{ta tb tc:TE}{pos:Pos}
def Mn(L:PE X a ta)(hb:PE X b tb){π:List (ar×Obj)}{s:US}{σ:St}{H:Hp}{R:V->V->Hp->Prop}(I:Ac X π σ H s)(h:ta σ H λx D=>tb σ D λy B=>R x y B){Q:af->US->Prop}{f:af->af->Sem af}(O:∀v u s2 x y B,Ac X π σ B s2->AH x v->AH y u->R x y B->UY (U1 X.prog X.w) X.A (f v u) Q X.xe s2) :
  UY (U1 X.prog X.w) X.A (U9 a X.env) (λv Y=>UY (U1 X.prog X.w) X.A (U9 b X.env) (λu s₂=>UY (U1 X.prog X.w) X.A (f v u) Q X.xe s₂) X.xe Y) X.xe s:=by
 refine As (L π s σ H _ I h) λv s1 J=>AF J λx D I1 r1 q1=>?_;refine As (hb π s1 σ D _ I1 q1) λu s2 J=>AF J λy B I2 r2 q2=>?_;exact O v u s2 x y B I2 r1 r2 q2
def Ar (D:Bc X (Wz B) r)(J:PE X a ta)(hb:PE X b tb):PE X (.BinOp a B b pos) (G3 r ta tb):=by show 0;exact wpAny_BinOp<|Mn J hb I h λv u L x y O V Y ry q=>D π L σ O x y v u Q V Y ry q
def Kr{f:af->af->Sem af}{C:Int->Int->Prop}{g:Int->Int->Int}(rule:∀(i j:Int) (t u:Tok) (s:US) (Q:af->US->Prop) (E:af->US->Prop),C i j->Q (.int (g i j) s.toks) { s with toks:=s.toks+1 }->UY (U1 X.prog X.w) X.A (f (.int i t)<|.int j u) Q E s) :
  Bc X f (rI C λi j=>.int<|g i j):=by
 intro π s σ H x y v u Q I B D h;replace h:=BB h;obtain⟨i,j,rfl,rfl,hc,q⟩:=h
 obtain⟨t,rfl⟩:=B;obtain⟨J,rfl⟩:=D;exact rule i j t J s _ _ hc ⟨.int<|g i j,H,I.tok _,(⟨_,rfl⟩),q⟩
def PC{f:af->af->Sem af}{g:Int->Int->Int}(rule:∀(i j:Int) (t u:Tok) (s:US) (Q:af->US->Prop) (E:af->US->Prop),Q (.int (g i j) s.toks) { s with toks:=s.toks+1 }->UY (U1 X.prog X.w) X.A (f (.int i t)<|.int j u) Q E s) :
  Bc X f (Gv λi j=>.int<|g i j):=by
 intro π s σ H x y v u Q I B D h;replace h:=BB h;obtain⟨i,j,rfl,rfl,q⟩:=h
 obtain⟨t,rfl⟩:=B;obtain⟨J,rfl⟩:=D;exact rule i j t J s _ _ ⟨.int<|g i j,H,I.tok _,(⟨_,rfl⟩),q⟩
def Ks{f:af->af->Sem af}{g:Int->Int->Bool}(rule:∀(i j:Int) (t u:Tok) (s:US) (Q:af->US->Prop) (E:af->US->Prop),Q (.bool<|g i j) s->UY (U1 X.prog X.w) X.A (f (.int i t)<|.int j u) Q E s) :
  Bc X f (Gv λi j=>.bl<|g i j):=by
 intro π s σ H x y v u Q I B D h;replace h:=BB h;obtain⟨i,j,rfl,rfl,q⟩:=h
 obtain⟨t,rfl⟩:=B;obtain⟨J,rfl⟩:=D;exact rule i j t J s _ _ ⟨.bl<|g i j,H,I,rfl,q⟩
def noP (h:y.natAbs<2147483648):Builtin.divisionGoesByPylong x y=false:=by
 apply PyProof.noPylong_of_log2;by_cases B:y.natAbs=0
 .rw[B];decide +kernel
 .have:=(Nat.log2_lt (k:=31) B).mpr h;omega
def PD(i j:Int):Prop:=0<j/\j<2147483648
def AaK(i j:Int):Prop:=0<=j/\j<=1000000/\i.natAbs<2 ^ 64
def Ji(i j:Int):Prop:=(-(2 ^ 64)<i/\i<2 ^ 64)\/(-(2 ^ 64)<j/\j<2 ^ 64)
def Ji.ok (h:Ji i j):IntMulOk i j:=by
 rcases h with ⟨B,D⟩|⟨B,D⟩
 .exact .of_left (intBits_le_64 B D)
 .exact .of_right (intBits_le_64 B D)
def AaL:Bc X (Wz .Add) (Gv λi j=>.int<|i+j):=PC λ_ _ _ _ _ _ _ q=>add_int q
def DZ:Bc X (Wz .Sub) (Gv λi j=>.int<|i-j):=PC λ_ _ _ _ _ _ _ q=>sub_int q
def AaM:Bc X (Wz .Mult) (rI Ji λi j=>.int<|i*j):=Kr λ_ _ _ _ _ _ _ hc q=>mul_int q hc.ok
def EW:Bc X (Wz .FloorDiv) (rI PD λi j=>.int<|i / j):=Kr λi j _ _ _ _ _ hc q=>by
 have B:(0:Int)<j:=hc.1;have D:j<2147483648:=hc.2;exact floordiv_int (by omega) (by rwa[Int.fdiv_eq_ediv_of_nonneg i<|(by omega)])<|.inl (noP<|(by omega))
def BC:Bc X (Wz .Mod) (rI (λ_ j=>0<j) λi j=>.int<|i%j):=Kr λi j _ _ _ _ _ hc q=>by
 have B:(0:Int)<j:=hc;exact mod_int' (by omega)<|by rwa[Int.fmod_eq_emod_of_nonneg i<|(by omega)]
def AaN:Bc X (Wz .Pow) (rI AaK λi j=>.int<|i ^ j.toNat):=Kr λ_ _ _ _ _ _ _ hc q=>pow_int_small hc.1 hc.2.1 hc.2.2 q
end
noncomputable def PF:V->V->Bool
 |.aa,.aa=>true|.aa,.int _=>true|.int _,.aa=>true|.aa,.bl _=>true|.bl _,.aa=>true|.aa,.str _=>true|.str _,.aa=>true
 |.int _,.int _=>true|.bl _,.bl _=>true|.str _,.str _=>true|.cc _,.cc _=>true
 |.int _,.str _=>true|.str _,.int _=>true|.bl _,.str _=>true|.str _,.bl _=>true
 |_,_=>false
def Mo:R2:=λx y H Q=>PF x y=true/\Q (.bl (decide (x=y))) H
def PH:R2:=λx y H Q=>PF x y=true/\Q (.bl (!decide (x=y))) H
def PK:decide (V.int i=V.int j)=(i == j):=by rw[XD];simp
def PL:decide (V.bl i=V.bl j)=(i == j):=by rw[XD];simp
def PM:decide (V.str i=V.str j)=(i == j):=by rw[XD];simp
def PN:decide (V.cc i=V.cc j)=(i.toList == j.toList):=by rw[XD];cases i;cases j;simp
section
variable {X:Cx}{a b c:UX}{ta tb tc:TE}{pos:Pos}
def BP{π:List (ar×Obj)}{σ:St}{H:Hp}{s:US}{Q:VK}{k k':Bool}(I:Ac X π σ H s)(q:Q (.bl k) H)(e:k=k'):EP X π σ Q (.bool k') s:=by subst e;exact⟨.bl k,H,I,rfl,q⟩
def AaO:Bc X (VE .Eq) Mo:=by
 intro π s σ H x y v u Q I J B h;obtain⟨hs,q⟩:=h;cases x with
 |aa =>
  cases J;cases y with
  |aa=>cases B;exact PySem.EqNone.eq_none_none<|(BP I q `B)
  |bl j=>cases B;exact PySem.EqNone.eq_none_bool<|(BP I q `B)
  |int j=>obtain⟨D,rfl⟩:=B;exact PySem.EqNone.eq_none_int<|(BP I q `B)
  |str j=>obtain⟨D,rfl⟩:=B;exact PySem.EqNone.eq_none_str<|(BP I q `B)
  |_=>exact (absurd (show false=true from hs) VG)
 |bl i =>
  cases J;cases y with
  |aa=>cases B;exact PySem.EqNone.eq_bool_none<|(BP I q `B)
  |bl j=>cases B;exact eq_bool<|BP I q PL
  |str j=>obtain⟨D,rfl⟩:=B;exact PySem.EqMixed.eq_bool_str<|(BP I q `B)
  |_=>exact (absurd (show false=true from hs) VG)
 |int i =>
  obtain⟨t,rfl⟩:=J;cases y with
  |aa=>cases B;exact PySem.EqNone.eq_int_none<|(BP I q `B)
  |int j=>obtain⟨D,rfl⟩:=B;exact eq_int<|BP I q PK
  |str j=>obtain⟨D,rfl⟩:=B;exact PySem.EqMixed.eq_int_str<|(BP I q `B)
  |_=>exact (absurd (show false=true from hs) VG)
 |str i =>
  obtain⟨t,rfl⟩:=J;cases y with
  |aa=>cases B;exact PySem.EqNone.eq_str_none<|(BP I q `B)
  |bl j=>cases B;exact PySem.EqMixed.eq_str_bool<|(BP I q `B)
  |int j=>obtain⟨D,rfl⟩:=B;exact PySem.EqMixed.eq_str_int<|(BP I q `B)
  |str j=>obtain⟨D,rfl⟩:=B;exact eq_str<|BP I q PM
  |_=>exact (absurd (show false=true from hs) VG)
 |cc i =>
  obtain⟨t,rfl⟩:=J;cases y with
  |cc j=>obtain⟨D,rfl⟩:=B;exact PySem.W.eq_bytes<|BP I q PN
  |_=>exact (absurd (show false=true from hs) VG)
 |_=>cases y<;>exact (absurd (show false=true from hs) VG)
def AaP:Bc X (VE .NotEq) PH:=by
 intro π s σ H x y v u Q I J B h;obtain⟨hs,q⟩:=h;cases x with
 |aa =>
  cases J;cases y with
  |aa=>cases B;exact PySem.EqNone.ne_none_none<|(BP I q `B)
  |bl j=>cases B;exact PySem.EqNone.ne_none_bool<|(BP I q `B)
  |int j=>obtain⟨D,rfl⟩:=B;exact PySem.EqNone.ne_none_int<|(BP I q `B)
  |str j=>obtain⟨D,rfl⟩:=B;exact PySem.EqNone.ne_none_str<|(BP I q `B)
  |_=>exact (absurd (show false=true from hs) VG)
 |bl i =>
  cases J;cases y with
  |aa=>cases B;exact PySem.EqNone.ne_bool_none<|(BP I q `B)
  |bl j=>cases B;exact ne_bool<|BP I q (congrArg not PL)
  |str j=>obtain⟨D,rfl⟩:=B;exact PySem.EqMixed.ne_bool_str<|(BP I q `B)
  |_=>exact (absurd (show false=true from hs) VG)
 |int i =>
  obtain⟨t,rfl⟩:=J;cases y with
  |aa=>cases B;exact PySem.EqNone.ne_int_none<|(BP I q `B)
  |int j=>obtain⟨D,rfl⟩:=B;exact ne_int<|BP I q (congrArg not PK)
  |str j=>obtain⟨D,rfl⟩:=B;exact PySem.EqMixed.ne_int_str<|(BP I q `B)
  |_=>exact (absurd (show false=true from hs) VG)
 |str i =>
  obtain⟨t,rfl⟩:=J;cases y with
  |aa=>cases B;exact PySem.EqNone.ne_str_none<|(BP I q `B)
  |bl j=>cases B;exact PySem.EqMixed.ne_str_bool<|(BP I q `B)
  |int j=>obtain⟨D,rfl⟩:=B;exact PySem.EqMixed.ne_str_int<|(BP I q `B)
  |str j=>obtain⟨D,rfl⟩:=B;exact ne_str<|BP I q (congrArg not PM)
  |_=>exact (absurd (show false=true from hs) VG)
 |cc i =>
  obtain⟨t,rfl⟩:=J;cases y with
  |cc j=>obtain⟨D,rfl⟩:=B;exact PySem.W.ne_bytes<|BP I q (congrArg not PN)
  |_=>exact (absurd (show false=true from hs) VG)
 |_=>cases y<;>exact (absurd (show false=true from hs) VG)
def Jj:Bc X (VE .Lt) (Gv λi j=>.bl<|decide (i<j)):=Ks λ_ _ _ _ _ _ _ q=>lt_int q
def Jk:Bc X (VE .LtE) (Gv λi j=>.bl<|decide (i<=j)):=Ks λ_ _ _ _ _ _ _ q=>le_int q
def Jl:Bc X (VE .Gt) (Gv λi j=>.bl<|decide (j<i)):=Ks λ_ _ _ _ _ _ _ q=>gt_int q
def AaQ:Bc X (VE .GtE) (Gv λi j=>.bl<|decide (j<=i)):=Ks λ_ _ _ _ _ _ _ q=>ge_int q
def AaR:Bc X (VE .In) (λx y H Q=>∃i j,x=.str i/\y=.str j/\Q (.bl<|!(vJ j i 0 j.length 1).isEmpty) H):=by
 intro π s σ H x y v u Q I B D h;replace h:=BB h;obtain⟨i,j,rfl,rfl,q⟩:=h
 obtain⟨t,rfl⟩:=B;obtain⟨J,rfl⟩:=D;exact in_str<|BP I q rfl
def Gw:Bc X (VE .Is) (λx y H Q=>y=.aa/\Q (.bl<|decide (x=.aa)) H):=by
 intro π s σ H x y v u Q I B D h;obtain⟨rfl,q⟩:=h;cases D;refine is_none_gen<|BP I q ?_;cases x<;>first
  | (cases B;rfl)
  | (obtain⟨t,rfl⟩:=B;rfl)
def Mp:Bc X (VE .IsNot) (λx y H Q=>y=.aa/\Q (.bl<|!decide (x=.aa)) H):=by
 intro π s σ H x y v u Q I B D h;obtain⟨rfl,q⟩:=h;cases D;refine isnot_none_gen<|BP I q ?_;cases x<;>first
  | (cases B;rfl)
  | (obtain⟨t,rfl⟩:=B;rfl)
def Bc.or (h:Bc X f r)(h':Bc X f B):Bc X f (λx y H Q=>r x y H Q\/B x y H Q):=by
 intro π s σ H x y v u Q I D J q;rcases q with q|q
 .exact h π s σ H x y v u Q I D J q
 .exact h' π s σ H x y v u Q I D J q
def PQ (b:UX)(h:B≠.In:=by decide)(D:B≠.NotIn:=by decide):YW B b=false:=by
 have H:(B == CmpOp.In)=false:=by cases B<;>first|rfl|exact absurd rfl h
 have I:(B == CmpOp.NotIn)=false:=by cases B<;>first|rfl|exact absurd rfl D
 cases b<;>simp[YW,H,I]
def PR (D:Bc X (VE B) r)(J:PE X a ta)(hb:PE X b tb)(L:YW B b=false):PE X (.Compare a [B] [b] pos) (G3 r ta tb):=by show 0;exact wpAny_Compare1 (Mn J hb I h λv u O x y V Y rx ry q=>D π O σ V x y v u Q Y rx ry q) L
def Kt(t:TE):TT:=λσ H Q=>t σ H λx H'=>∃k,x=.bl k/\Q k H'
def Em (J:Bc X (VE B) r)(L:PE X a ta)(hb:PE X b tb)(O:YW B b=false):PT X (.Compare a [B] [b] pos) (Kt<|G3 r ta tb):=by
 show 0;refine wpAny_isTrue_Compare1 (As (L π s σ H _ I h) λv V D=>AF D λx Y I1 r1 q1=>As (hb π V σ Y _ I1 q1) λu s2 ⟨y,H2,I2,r2,q2⟩ =>
  As (J π s2 σ H2 x y v u _ I2 r1 r2 q2) λc s3 D=>AF D λz H3 I3 r3 ⟨k,e,q3⟩=>?_) O
 subst e;cases r3;exact Xp ⟨H3,I3,q3⟩
def PU(r r':R2)(ta tb tc:TE):TE:=λσ H Q=>ta σ H λx H1=>tb σ H1 λy H2=>r x y H2 λz H3=>∃k,z=.bl k /\
 (if k=true then tc σ H3 λw' H4=>r' y w' H4 Q else Q (.bl false) H3)
def AaS (ho:Bc X (VE D) r)(cY:Bc X (VE J) L)(ha:PE X a ta)(hb:PE X b tb)(hc:PE X c tc)(hm:lastMarks [D,J] [b,c]=false:=by with_unfolding_all rfl):PE X (.Compare a [D,J] [b,c] pos) (PU r L ta tb tc):=by
 show 0;refine Compare_chain (As (ha π s σ H _ I h) λv s1 B=>AF B λx H1 I1 r1 q1=>chain_link (As (hb π s1 σ H1 _ I1 q1) λu s2 ⟨y,H2,I2,O,q2⟩ =>
  As (ho π s2 σ H2 x y v u _ I2 r1 O q2) λd s3 B=>AF B λz V Y r3 ⟨k,e,q3⟩=>?_)) hm
 subst e;cases r3;apply Xp;cases k with
 |false=>exact ite_ff ⟨.bl false,V,Y,rfl,q3⟩
 |true=>exact ite_tt<|chain_last (As (hc π s3 σ V _ Y q3) λw' s4 B=>AF B λz' H4 I4 r4 q4=>cY π s4 σ H4 y z' u w' Q I4 O r4 q4)
def AaT (ho:Bc X (VE D) r)(cY:Bc X (VE J) L)(ha:PE X a ta)(hb:PE X b tb)(hc:PE X c tc)(hm:lastMarks [D,J] [b,c]=false:=by with_unfolding_all rfl):PT X (.Compare a [D,J] [b,c] pos) (Kt<|PU r L ta tb tc):=by
 show 0;refine isTrue_chain (As (ha π s σ H _ I h) λv s1 B=>AF B λx H1 I1 r1 q1=>test_link (As (hb π s1 σ H1 _ I1 q1) λu s2 ⟨y,H2,I2,O,q2⟩ =>
  As (ho π s2 σ H2 x y v u _ I2 r1 O q2) λd s3 B=>AF B λz V Y r3 ⟨k,e,q3⟩=>?_)) hm
 subst e;cases r3;apply Xp;cases k with
 |false =>
  obtain⟨k',e',q'⟩:=Au q3;cases e';exact ite_ff ⟨V,Y,q'⟩
 |true =>
  refine ite_tt<|test_last (As (hc π s3 σ V _ Y q3) λw' s4 B=>AF B λz' H4 I4 r4 q4=>As (cY π s4 σ H4 y z' u w' _ I4 O r4 q4) λd' s5 B=>AF B λz2 H5 I5 r5 ⟨k2,e2,q5⟩=>?_);subst e2;cases r5;exact Xp ⟨H5,I5,q5⟩
def Mq(K:UT)(x:V)(H:Hp)(k:Bool):Prop :=
 match x with
 |.aa=>k=false
 |.bl b=>k=b
 |.int i=>k=(i != 0)
 |.str y=>y.length<=sizeLine/\k=((y.length:Int) != 0)
 |.cc y=>y.size<=sizeLine/\k=((y.size:Int) != 0)
 |.ref p=>(∃xs,A2 K H p xs/\k=!xs.isEmpty)\/(∃xs,Bn K H p xs/\k=!xs.isEmpty)\/∃kvs,H p=some (.dK kvs)/\k=!kvs.isEmpty
 |_=>False
def AaU (r:KV kvs vs):(!vs.isEmpty)=!kvs.isEmpty:=by cases r<;>rfl
def PV (r:AA xs its):(!its.toArray.isEmpty)=!xs.isEmpty:=by cases r<;>simp
def Gx:(sizeLine:Nat)<2 ^ 63:=by rw[U0];decide
def PX:AaJ X (λx H Q=>∃k,Mq X.K x H k/\Q k H):=by
 intro π s σ H x v Q I L h;obtain⟨k,e,q⟩:=Au h;have V:=Gx;have hs:sizeLine=16777216:=U0;cases x with
 |aa =>
  cases L;have B:k=false:=e;subst B;exact truthy_none ⟨H,I,q⟩
 |bl b =>
  cases L;have B:k=b:=e;subst B;exact Xp ⟨H,I,q⟩
 |int i =>
  obtain⟨t,rfl⟩:=L;have B:k=(i != 0):=e;subst B;exact PySem.P.truthy_int ⟨H,I,q⟩
 |str y =>
  obtain⟨t,rfl⟩:=L;obtain⟨hy,B⟩:y.length<=sizeLine/\k=((y.length:Int) != 0):=e;subst B;exact PySem.P.truthy_str (by omega) ⟨H,I.tok _,q⟩
 |cc y =>
  obtain⟨t,rfl⟩:=L;obtain⟨hy,B⟩:y.size<=sizeLine/\k=((y.size:Int) != 0):=e;subst B;exact PySem.W.truthy_bytes (by omega) ⟨H,I.tok _,q⟩
 |ref p =>
  cases L;have B:(∃xs,A2 X.K H p xs/\k=!xs.isEmpty)\/(∃xs,Bn X.K H p xs/\k=!xs.isEmpty)\/∃D,H p=some (.dK D)/\k=!D.isEmpty:=e;rcases B with ⟨xs,hx,B⟩|⟨xs,hx,B⟩|⟨D,hx,B⟩
  .subst B;obtain⟨its,r,pl,O⟩:=AG<|I.list hx;have J:=r.length;exact wpAny_truthy_list pl.isList (by simp only[Vs];omega) ⟨H,I.tok _,by rwa[PV r]⟩
  .subst B;obtain⟨its,r,pl,O⟩:=AG<|I.tuple hx;have J:=r.length;exact truthy_tuple pl (by simp only[Vs];omega) ⟨H,I.tok _,by rwa[PV r]⟩
  .subst B;obtain⟨O,hS,vs,r,m⟩:D.length<=sizeLine/\(p == Wj)=false/\∃vs,KV D vs/\s.heap.DictOf (BG X.prog X.w) p vs:=I.ah p _ hx;have J:D.length=vs.length:=Paired.length r;exact wpAny_truthy_dict hS m (by omega) ⟨H,I.tok _,by rwa[AaU r]⟩
 |_=>exact(show False from e).elim
def AaV(J:PE X a ta)(L:∀B,YT a X.env B=(do let v <-B;Wo a.pos;Wl [v] (truthy v))) :
  PT X a (λσ H Q=>ta σ H λx D=>∃k,Mq X.K x D k/\Q k D):=by
 show 0;exact isTrue_plain (As (J π s σ H _ I h) λv O V=>AF V λx Y I1 r1 q1=>PX π O σ Y x v Q I1 r1 q1)<|L _
def AaW:Bc X (Wz .Add) (λx y H Q=>∃i j,x=.str i/\y=.str j/\i.length+j.length<=sizeLine/\Q (.str<|i++j) H):=by
 intro π s σ H x y v u Q I B D h;replace h:=BB h;obtain⟨i,j,rfl,rfl,J,q⟩:=h
 obtain⟨t,rfl⟩:=B;obtain⟨L,rfl⟩:=D;exact add_str (λL O=>⟨.str<|i++j,H,I.tok _,(⟨_,rfl⟩),q⟩) J
def DA (r:AA [x] us):∃u,us=[u]/\AH x u:=by
 cases r with
 |cons B D=>cases D;exact⟨_,rfl,B⟩
def Mr (r:AA [x,y] us):∃u B,us=[u,B]/\AH x u/\AH y B:=by
 cases r with
 |cons D H =>
  cases H with
  |cons I J=>cases J;exact⟨_,_,rfl,D,I⟩
def AaX(hc:X.calm=true):BX X (.builtin "min") (λxs H Q=>∃i j,xs=[.int i,.int j]/\Q (.int (if j<i then j else i)) H):=by
 show 2;replace h:=Bz h;obtain⟨i,j,rfl,q⟩:=h
 obtain⟨u,D,rfl,⟨t,rfl⟩,⟨J,rfl⟩⟩:=BB<|Mr r;refine min_two_ints (I.ok.hd hc) λL O k=>⟨_,H,I.kept k,?_,q⟩;by_cases B:j<i
 .rw[bf B,bf B];exact(⟨_,rfl⟩)
 .rw[ck B,ck B];exact(⟨_,rfl⟩)
def PY:BX X (.type "int") (λxs H Q=>(∃i,xs=[.int i]/\Q (.int i) H)\/∃k,xs=[.bl k]/\Q (.int (if k then 1 else 0)) H):=by
 show 2;rcases h with ⟨i,rfl,q⟩|⟨k,rfl,q⟩
 .obtain ⟨u,rfl,t,rfl⟩:=Au<|DA r;exact call_int_int ⟨.int i,H,I,(⟨_,rfl⟩),q⟩
 .obtain ⟨u,rfl,B⟩:=Au<|DA r;cases B;exact call_int_bool ⟨.int (if k then 1 else 0),H,I.tok _,(⟨_,rfl⟩),q⟩
def AaY:BX X (.type "str") (λxs H Q=>∃i,xs=[.int i]/\i.natAbs.log2<1920/\Q (.str<|toString i) H):=by
 show 2;replace h:=AG h;obtain⟨i,rfl,B,q⟩:=h
 obtain⟨u,rfl,t,rfl⟩:=Au<|DA r;exact PySem.P.str_of_int B ⟨.str _,H,I.tok _,(⟨_,rfl⟩),q⟩
end
structure G4(h:Heap)(x dx C:ar)(mA:aU->Option af):Prop where
 obj:h.get? x=some (Xz C dx)
 ns:h.Ns1 dx mA
 ne:dx≠x
def AaZ{h:Heap}{dx:ar}{D:aU->Option af}(n:h.Ns1 dx D):∃H,h.get? dx=some H/\∀name,Zs name H=some (D name):=by
 obtain⟨o,es,O,I,hd,hk,_,J⟩:=Gk n;refine⟨o,I,λname=>?_⟩;have e:=J name;unfold nsFind findBy at e;rw[<-Array.find?_toList]at e;unfold Zs;rw[hd];dsimp only;split
 .rename_i y q
  rw [q]at e;exact congrArg some e
 .rename_i q
  rw [q]at e;have a:es.toList.any (·.refKey)=false:=by rw[List.any_eq_false];intro y hy;obtain⟨z,t,B⟩:=hk y<|xw.mp hy;simp[DictEntry.refKey,B]
  have L:¬es.toList.any (·.refKey)=true:=by rw[a];exact VG
  rw [ck L];exact congrArg some e
def G4.look (I:G4 h x dx C D):∃B,PySem.W.InstAt h x (Xz C dx) C (some B)/\∀name,Zs name B=some (D name) :=
 let ⟨B,H,J⟩:=AaZ I.ns
 ⟨B,⟨I.obj,rfl,rfl,H⟩,J⟩
section
variable {prog:UZ}{w:UU}{A:Vf}{E:af->US->Prop}{s:US}{K:UT}{x dx C f:ar}{mA:aU->Option af}{name:aU}{v:af}
def Aa0 (X:K.In s.heap)(I:G4 s.heap x dx C mA)(B:Zt K C name=true)(D:vK K C=true)(H:V4 K (.ref C) name=some none)(hv:mA name=some v)(L:xx v=true)(h:Q v { s with toks:=s.toks+1 }):
  UY (U1 prog w) A (getAttr (.ref x) name expr) Q E s:=by
 obtain⟨V,J,O⟩:=Au I.look;exact PySem.W.get_value X J (vL B).1 (PySem.W.findObj_own D H rfl<|by rw[O,hv]) L h
def Aa1 (X:K.In s.heap)(I:G4 s.heap x dx C mA)(B:Zt K C name=true)(D:V4 K (.ref C) name=some (some<|.ref f))(H:Yy K (.ref f)=true)(hv:mA name=none)(h:Q (.ref f,[.ref x]) s):
  UY (U1 prog w) A (Xg (.ref x) name pl) Q E s:=by
 obtain⟨L,J,O⟩:=Au I.look;exact PySem.W.method_fn X J (vL B).1 (vL B).2 D (beq_iff_eq.mp H) (by show(Zs name L).map (·.isSome)=some false;rw[O,hv];rfl) h
def Aa2 (X:K.In s.heap)(I:G4 s.heap x dx C mA)(hs:V4 K (.ref C) "__setattr__"=some (some<|.builtin "object.__setattr__"))(O:xy K C=true)(V:vM K C name=some none)(Y:vK K C=true)(hw:Z7 mA ns)(hsz:ns.length<=sizeLine)(h:∀h',G4 h' x dx C (λy=>if y=name then some v else mA y)->V8 dx s.heap h'->Q () { s with heap:=h',toks:=s.toks+2 }):
  UY (U1 prog w) A (setAttr (.ref x) name v) Q E s:=by
 obtain⟨od,J,hl⟩:=Au I.look;refine PySem.W.set_plain X J hs<|PySem.W.osa_open (s:={ s with toks:=s.toks+1 }) (r:=none) X J O V λb=>?_;obtain⟨cd,hc,mB⟩:=Au<|PySem.W.any_some Y;have hx:s.heap.get? x=some ⟨.ref C,some dx,.plain,#[]⟩:=I.obj;refine U2<|Vd (U2<|U2 (xB hx<|U2 (PySem.W.Looks.here (s:={ s with toks:=s.toks+1 }) (PySem.W.looks_clsIn X hc) ?_)));rw[mB];refine Vd (a:=some dx)<|U2 (Vd<|U2 ?_);refine wpAny_nsSet1 (s:={ s with toks:=s.toks+1 }) I.ns λh' H L=>?_;obtain⟨oD,esD,epD,B,D,eI⟩:=Dg<|H.count (PySem.Within.cons name v hw);refine U2<|wpAny_lookBehind B (by rw[D];exact pastItsLine_dict<|V7 eI (by rw[VX];omega)) ?_;exact Vd<|h _ ⟨(L.2 _<|Vy I.ne).trans I.obj,H,I.ne⟩ L
def Aa3 (X:K.In s.heap)(D:vN K C=true)(H:V4 K (.ref C) "__init__"=some (some<|.ref f))(I:Yd K (.ref f)=some (.type "function"))(h:Wf (U1 prog w) (A.under<|.builtin "type.__call__" ⟨.ref C::vs,B⟩) (.call (.ref f) ⟨.ref (s.heap.objs.size+1)::vs,B⟩) (PySem.W.InitBack (s.heap.objs.size+1) R)
   { s with heap:=(s.heap.push Xr).push (Xz C s.heap.objs.size) }):
  Wf (U1 prog w) A (.call (.ref C) ⟨vs,B⟩) R s:=by
 obtain⟨J,g,d,t,os⟩:=s;exact PySem.W.make_core (PySem.W.makes_of X D) (PySem.W.looks_findIn X H) (λself=>PySem.W.bind_fn X self I) (.inl rfl) h
end
noncomputable def A7(f:aU)(v:V):List (aU×V)->List (aU×V)
 |[]=>[(f,v)]
 | (g,x)::r=>if g=f then(g,v)::r else(g,x)::A7 f v r
theorem PZ(f g:aU)(v:V):∀fs:List (aU×V),(A7 f v fs).lookup g=if g=f then some v else fs.lookup g
 |[]=>by
  show Ye g [(f,v)]=_;by_cases h:g=f
  .have hb:(g == f)=true:=beq_iff_eq.mpr h;simp only[Ye,hb,bf h]
  .have hb:(g == f)=false:=beq_eq_false_iff_ne.mpr h;simp only[Ye,hb,ck h]
 | (k,x)::r=>by
  have ih:=PZ f g v r;rw[show A7 f v ((k,x)::r)=(if k=f then(k,v)::r else(k,x)::A7 f v r)from rfl];by_cases hk:k=f
  .rw[bf hk];by_cases h:g=k
   .have hb:(g == k)=true:=beq_iff_eq.mpr h;simp only[Ye,hb,bf (h.trans hk)]
   .have hb:(g == k)=false:=beq_eq_false_iff_ne.mpr h;simp only[Ye,hb,ck (λe:g=f=>h (e.trans hk.symm))]
  .rw[ck hk];by_cases h:g=k
   .have hb:(g == k)=true:=beq_iff_eq.mpr h;simp only[Ye,hb,ck (λe:g=f=>hk (h.symm.trans e))]
   .have hb:(g == k)=false:=beq_eq_false_iff_ne.mpr h;simp only[Ye,hb];exact ih
theorem Ms(f:aU)(v:V):∀fs:List (aU×V),f∈(A7 f v fs).map (·.1)/\∀g,g∈fs.map (·.1)->g∈(A7 f v fs).map (·.1)
 |[]=>⟨by simp[A7],λg h=>by simp at h⟩
 | (k,x)::r=>by
  obtain⟨B,D⟩:=Ms f v r;rw[show A7 f v ((k,x)::r)=(if k=f then(k,v)::r else(k,x)::A7 f v r)from rfl];by_cases hk:k=f
  .rw[bf hk];subst hk;exact⟨by simp,λg h=>by simpa using h⟩
  .rw[ck hk];refine⟨?_,λg h=>?_⟩
   .rw[VP];exact Vw _ B
   .rw[VP]at h ⊢;rcases Vc.mp h with e|e
    .exact Vc.mpr (.inl e)
    .exact Vw _ (D g e)
theorem P0(f:aU)(v:V):∀fs:List (aU×V),(A7 f v fs).length<=fs.length+1
 |[]=>by simp[A7]
 | (k,x)::r=>by
  have ih:=P0 f v r;rw[show A7 f v ((k,x)::r)=(if k=f then(k,v)::r else(k,x)::A7 f v r)from rfl];by_cases hk:k=f
  .rw[bf hk,VX,VX];omega
  .rw[ck hk,VX,VX];omega
def Dh.some_of (r:Dh (some v) o):∃u,o=some u/\AH v u:=by
 cases o with
 |none=>exact(show False from r).elim
 |some u=>exact⟨u,rfl,r⟩
def Dh.none_of (r:Dh none o):o=none:=by
 cases o with
 |none=>rfl
 |some u=>exact(show False from r).elim
def Aa4 (r:AH v u):xx u=true:=by
 cases v with
 |aa=>cases(show u=VU from r);rfl
 |bl b=>cases(show u=YO b from r);rfl
 |int i=>obtain⟨t,e⟩:=(show ∃t,u=V3 i t from r);cases e;rfl
 |str x=>obtain⟨t,e⟩:=(show ∃t,u=VT x t from r);cases e;rfl
 |cc b=>obtain⟨t,e⟩:=(show ∃t,u=Value.bytes b t from r);cases e;rfl
 |fZ b=>obtain⟨t,e⟩:=(show ∃t,u=Z6 b t from r);cases e;rfl
 |ref a=>cases(show u=Vo a from r);rfl
 |ty n=>cases(show u=YQ n from r);rfl
section
variable {P:UZ}{w:UU}{H H':Hp}{h h':Heap}{a C dx:ar}{fs fA:List (aU×V)}
def Ku(D:AY P w H h)(e:H a=some (.ins C dx fs)):∃B,G4 h a dx C B/\(∀f,Dh (fs.lookup f)<|B f)/\Z7 B (fs.map (·.1))/\fs.length<=1000/\H dx=some (.own a):=by obtain⟨d,z,ne,I,B,n,r,q⟩:=AU<|(show Bv P w H h a (.ins C dx fs)from D a _ e);exact⟨B,⟨I,n,ne⟩,r,q,z,d⟩
end
structure CU(K:UT)(C:ar):Prop where
 pg:Zt K C VD=true
 hd:vK K C=true
 po:xy K C=true
 sa:V4 K (.ref C) "__setattr__"=some (some (.builtin "object.__setattr__"))
def CU.get{K:UT}{C:ar}(c:CU K C)(f:aU):Zt K C f=true:=c.pg
def BZ(K:UT)(C:ar)(f:aU):Prop:=V4 K (.ref C) f=some none
def BZ.aag{K:UT}{C:ar}{f:aU}(n:BZ K C f):vM K C f=some none:=by unfold vM;rw[show V4 K (.ref C) f=some none from n];rfl
structure Con(K:UT)(C:ar)(f:aU)(v:V)(u:af):Prop where
 at_:V4 K (.ref C) f=some (some u)
 rel:AH v u
 get:Zu K u "__get__"=some none
 cp:PySem.W.copiedNames.contains f=false
structure Kv(K:UT)(C:ar)(m:aU)(f:ar):Prop where
 at_:V4 K (.ref C) m=some (some (.ref f))
 fn:Yy K (.ref f)=true
 kp:WU K (.ref f)=true
section
variable {X:Cx}{π:List (ar×Obj)}{σ:St}{H:Hp}{s:US}{a C dx:ar}{fs:List (aU×V)}{f:aU}{v:V}{A:Vf}{E:af->US->Prop}
def P6 (I:Ac X π σ H s)(e:H a=some (.ins C dx fs))(c:CU X.K C)(n:BZ X.K C f)(l:fs.lookup f=some v)(h:∀u B,Ac X π σ H B->AH v u->Q u B):UY (U1 X.prog X.w) A (getAttr (.ref a) f b) Q E s:=by obtain⟨J,O,r,_,_,_⟩:=AG<|Ku I.ah e;obtain⟨u,hu,D⟩:=Au<|Dh.some_of (v:=v) (o:=J f) (by rw[<-l];exact r f);exact Aa0 I.aH O (c.get f) c.hd n hu (Aa4 D)<|h u _ (I.tok _) D
def Jm (I:Ac X π σ H s)(e:H a=some (.ins C dx fs))(c:CU X.K C)(k:Kv X.K C m g)(l:fs.lookup m=none)(h:Q (.ref g,[.ref a]) s):UY (U1 X.prog X.w) A (Xg (.ref a) m pl) Q E s:=by obtain⟨B,O,r,_,_,_⟩:=AG<|Ku I.ah e;have D:B m=none:=Dh.none_of (by rw[<-l];exact r m);exact Aa1 I.aH O (c.get m) k.at_ k.fn D h
def P7 (I:Ac X π σ H s)(e:H a=some (.ins C dx fs))(c:CU X.K C)(n:BZ X.K C f)(hl:fs.length<1000)(ry:AH y u)(h:∀D,Ac X π σ (upd H a<|.ins C dx (A7 f y fs)) D->Q () D):UY (U1 X.prog X.w) A (setAttr (.ref a) f u) Q E s:=by
 obtain⟨J,O,r,L,_,Y⟩:=AG<|Ku I.ah e;have hz:(fs.map (·.1)).length<=sizeLine:=by rw[UW,U0];omega
 refine Aa2 I.aH O c.sa c.po n.aag c.hd L hz λh' B sb=>h _ ?_;have hd:∃o,h'.get? dx=some o:=let ⟨o,_,_,e',_⟩:=B.ns;⟨o,e'⟩;refine I.write (x:=a) (e:=dx) (by rw[e];exact Wt) (.inr Y) (λb q hb z=>(sb.2 b hb).trans z) hd ?_;refine⟨by rw[Aw O.ne];exact Y,?_,O.ne,B.obj,_,B.ns,λg=>?_,λg hg=>?_⟩
 .have:=P0 f y fs;omega
 .show Dh ((A7 f y fs).lookup g) (if g=f then some u else J g);rw[PZ];by_cases q:g=f
  .rw[bf q,bf q];exact ry
  .rw[ck q,ck q];exact r g
 .by_cases q:g=f
  .rw[q];exact(Ms f y fs).1
  .refine (Ms f y fs).2 g (L g λz=>hg ?_);show(if g=f then some u else J g)=none;rw[ck q];exact z
def Ac.made(I:Ac X π σ H s):Ac X π σ (upd (upd H s.heap.objs.size<|.own (s.heap.objs.size+1)) (s.heap.objs.size+1)<|.ins C s.heap.objs.size [])
  { s with heap:=(s.heap.push Xr).push (Xz C s.heap.objs.size) }:=by
 have B:(s.heap.push Xr).get? s.heap.objs.size=some Xr:=VO s.heap rfl;have D:((s.heap.push Xr).push<|Xz C s.heap.objs.size).get? (s.heap.objs.size+1)=some (Xz C s.heap.objs.size):=by have:=VO (s.heap.push Xr) (o:=Xz C s.heap.objs.size) rfl;rwa [WA]at this
 have J:(s.heap.push Xr).Ns s.heap.objs.size (λ_=>none):=⟨Xr,#[],_,B,rfl,(λe L=>absurd L<|(by simp)),λ_=>rfl⟩;have O:=I.laid (a:=s.heap.objs.size) (o:=.own<|s.heap.objs.size+1) (h':=s.heap.push Xr) (t':=s.toks) (λb u q=>Vp _ q) (Vb _) ⟨_,B⟩;apply O.laid (a:=s.heap.objs.size+1) (o:=.ins C s.heap.objs.size []) (t':=s.toks) (λb u q=>Vp _ q) (Nat.le_of_eq<|WA _ _);have ne:s.heap.objs.size≠s.heap.objs.size+1:=Vv<|YA _;refine⟨by rw[Aw ne,Ao],Wn _,ne,D,λ_=>none,(Heap.Ns1.of_empty J).at λo q=>Vp _ q,λ_=>Wt,λy hy=>absurd rfl hy⟩
def Aa5 (hb:YX e f env (U9 e env)=U9 e env)(h:UY (U1 prog w) A (U9 e env) (λo B=>UY (U1 prog w) A (getAttr o f true) Q E B) E s):UY (U1 prog w) A (U9 (.Attribute e f pos) env) Q E s :=
 Attribute_any_ h (by rw[arm_eval_Attribute,hb])
end
def Aa6(K:UT)(ta:TE)(f:aU):TE:=λσ H Q=>ta σ H λx H1=>∃a C dx fs v,x=.ref a/\H1 a=some (.ins C dx fs)/\CU K C/\BZ K C f/\fs.lookup f=some v/\Q v H1
def Aa7(K:UT)(ta tv:TE)(f:aU):TS:=λD σ H=>tv σ H λy H1=>ta σ H1 λx H2=>∃a C dx fs,x=.ref a/\H2 a=some (.ins C dx fs)/\CU K C/\BZ K C f/\fs.length<1000 /\
 D.nx σ (upd H2 a (.ins C dx (A7 f y fs)))
def Kw(X:Cx)(op:Yu)(rd:V->V->Hp->VK->Prop):Prop :=
 ∀(π:List (ar×Obj))(s:US)(σ:St)(H:Hp)(x y:V)(u v:af)(Q:VK),Ac X π σ H s->AH x u->AH y v->rd x y H Q->UY (U1 X.prog X.w) X.A (inplaceOp op u v) (EP X π σ Q) X.xe s
def Aa8(K:UT)(ta tv:TE)(rd:V->V->Hp->VK->Prop)(f:aU):TS:=λD σ H=>ta σ H λx H1=>∃a C dx fs v,x=.ref a/\H1 a=some (.ins C dx fs)/\CU K C/\BZ K C f/\fs.lookup f=some v /\
 tv σ H1 λy H2=>rd v y H2 λz H3=>∃dx' fA,H3 a=some (.ins C dx' fA)/\fA.length<1000/\D.nx σ (upd H3 a (.ins C dx' (A7 f z fA)))
section
variable {X:Cx}{o e value:UX}{f:aU}{pos pos' iZ:Pos}{ta tv:TE}
def AD(B:PE X e ta)(hb:YX e f X.env (U9 e X.env)=U9 e X.env):PE X (.Attribute e f pos) (Aa6 X.K ta f):=by show 0;refine Aa5 hb<|As (B π s σ H _ I h) λu s1 D=>AF D λx J L O zz=>?_;obtain⟨a,C,dx,fs,v,ex,V,c,n,l,q⟩:=IV zz;subst ex;obtain rfl:u=Vo a:=O;exact P6 L V c n l λu' s2 Y ru=>⟨v,J,Y,ru,q⟩
def BM(J:PE X o ta)(hv:PE X value tv)(hs:Xq value (some<|.Attribute o f pos') pos.line X.env=pure false):PS X (.Assign [.Attribute o f pos'] value pos) (Aa7 X.K ta tv f):=by show 5;refine plainObj_wpAny_Assign_Attribute (As (hv π s σ H _ I h) λu L B=>AF B λy O V Y q=>As (J π L σ O _ V q) λov s2 B=>AF B λx H2 I2 rx zz=>?_) hs;obtain⟨a,C,dx,fs,ex,ea,c,n,l,q2⟩:=HV zz;subst ex;obtain rfl:ov=Vo a:=rx;exact P7 I2 ea c n l Y λs3 I3=>⟨σ,_,I3,q2⟩
def P8 (Y:PE X o ta)(hv:PE X value tv)(mR:Kw X L O):PS X (.AugAssign (.Attribute o f iZ) L value pos) (Aa8 X.K ta tv O f):=by show 5;refine wpAny_AugAssign_AttributeAny<|As (Y π s σ H _ I h) λov s1 B=>AF B λx H1 I1 rx zz=>?_;obtain⟨a,C,dx,fs,v,ex,ea,c,n,l,q⟩:=IV zz;subst ex;obtain rfl:ov=Vo a:=rx;refine P6 I1 ea c n l λu s2 I2 ru=>As (hv π s2 σ H1 _ I2 q) λw3 s3 B=>AF B λy H2 I3 ry q3=>As (mR π s3 σ H2 v y u w3 _ I3 ru ry q3) λw4 s4 B=>AF B λz H3 I4 rz zz=>?_;obtain⟨dx',fA,J,l',q4⟩:=BB zz;exact P7 I4 J c n l' rz λs5 I5=>⟨σ,_,I5,q4⟩
def Aa9:V->V->Hp->VK->Prop:=λx y H Q=>∃i j,x=.int i/\y=.int j/\Q (.int (i+j)) H
def P9:Kw X .Add Aa9:=by rintro π s σ H x y u v Q I D J ⟨i,j,rfl,rfl,q⟩;obtain⟨t,rfl⟩:=(show ∃t,u=V3 i t from D);obtain⟨B,rfl⟩:=(show ∃B,v=V3 j B from J);exact PyProof.Rows.iadd_int ⟨.int<|i+j,H,I.tok _,(⟨_,rfl⟩),q⟩
end
section
variable {X:Cx}{π:List (ar×Obj)}{σ:St}{H:Hp}{s:US}{A:Vf}{E:af->US->Prop}{Q:af->US->Prop}{c:af}{b:Bool}
inductive En(K:UT)(H:Hp):V->af->Prop where
 |aa:En K H .aa (.type "NoneType")
 |bl (x:Bool):En K H (.bl x) (.type "bool")
 |int (i:Int):En K H (.int i) (.type "int")
 |str (x:aU):En K H (.str x) (.type "str")
 |fZ (x:UInt64):En K H (.fZ x) (.type "float")
 |lst {a:ar} {xs:List V} (e:H a=some (.lst xs)):En K H (.ref a) (.type "list")
 |bT {a:ar} {o:Obj} {xs:List V} (e:H a=some (.bT o (.lst xs))):En K H (.ref a) (.type "list")
 |tup {a:ar} {xs:List V} (e:H a=some (.tup xs)):En K H (.ref a) (.type "tuple")
 |dK {a:ar} {kvs:List (Ay×V)} (e:H a=some (.dK kvs)):En K H (.ref a) (.type "dict")
 |dT {a:ar} {kvs:List (List Ay×V)} (e:H a=some (.dT kvs)):En K H (.ref a) (.type "dict")
 |ins {a C dx:ar} {fs:List (aU×V)} (e:H a=some (.ins C dx fs)) (cl:CU K C) (ha:V4 K (.ref C) "__class__"=some (some (.builtin "object.__class__")))
   (hn:Zu K (.builtin "object.__class__") "__get__"=some (some (.builtin "getset_descriptor.__get__"))) (gj:PySem.W.takesIn K (.builtin "object.__class__")=some true)
   (hm:PySem.W.mroIn K C (.type "object")=some true):En K H (.ref a) (.ref C)
def Aba (I:Ac X π σ H s)(B:AH x u)(ty:En X.K H x t)(e:WB X.K t c=some b)(h:∀tk,Q (.bool b) { s with toks:=tk }):
  UY (U1 X.prog X.w) A (call (.builtin "isinstance") [u,c]) Q E s:=by
 cases ty with
 |aa=>cases(show u=VU from B);exact WK PySem.W.kitx_none I.aH Wt e (λz=>nomatch z) h
 |bl y=>cases(show u=YO y from B);exact WK PySem.W.kitx_bool I.aH Wt e (λz=>nomatch z) h
 |int i=>obtain⟨t,q⟩:=(show ∃t,u=V3 i t from B);cases q;exact WK PySem.W.kitx_int I.aH Wt e (λz=>nomatch z) h
 |str y=>obtain⟨t,q⟩:=(show ∃t,u=VT y t from B);cases q;exact WK PySem.W.kitx_str I.aH Wt e (λz=>nomatch z) h
 |fZ y=>obtain⟨t,q⟩:=(show ∃t,u=Z6 y t from B);cases q;exact WK PySem.W.kitx_float I.aH Wt e (λz=>nomatch z) h
 |@lst a xs D =>
  cases(show u=Vo a from B);obtain⟨_,_,n,_,L⟩:=(show Bv X.prog X.w H s.heap a (.lst xs)from I.ah a _ D);exact WK xC I.aH ⟨_,L,rfl⟩ e (λz=>nomatch z) h
 |@bT a ob xs D =>
  cases(show u=Vo a from B);obtain⟨_,_,_,n,_,L⟩:=AU<|(show Bv X.prog X.w H s.heap a (.bT ob<|.lst xs)from I.ah a _ D);exact WK xC I.aH ⟨_,L,rfl⟩ e (λz=>nomatch z) h
 |@tup a xs D =>
  cases(show u=Vo a from B);obtain⟨_,_,_,p⟩:=(show Bv X.prog X.w H s.heap a (.tup xs)from I.ah a _ D);obtain⟨o,L,h2,_⟩:=AG p;exact WK PySem.W.kitx_tuple I.aH ⟨o,L,h2⟩ e (λz=>nomatch z) h
 |@dK a Y D =>
  cases(show u=Vo a from B);obtain⟨_,_,vs,_,p⟩:=AU<|(show Bv X.prog X.w H s.heap a (.dK Y)from I.ah a _ D);obtain⟨o,es,ep,L,h2,_⟩:=Dg p;exact WK xF I.aH ⟨o,L,h2.1⟩ e (λz=>nomatch z) h
 |@dT a Y D =>
  cases(show u=Vo a from B);obtain⟨_,_,xs,_,o,es,ep,L,h2,_⟩:=AU<|(show Bv X.prog X.w H s.heap a (.dT Y)from I.ah a _ D);exact WK xF I.aH ⟨o,L,h2.1⟩ e (λz=>nomatch z) h
 |@ins a C dx fs D cl ha hn gj hm =>
  cases(show u=Vo a from B);obtain⟨mA,O,_⟩:=Au<|Ku I.ah D;obtain⟨od,J,_⟩:=Au O.look;exact WK (PySem.W.kitx_own (cl.get _) cl.hd ha hn gj hm) I.aH J e (λz=>nomatch z) h
end
structure BE(k:Nat)(A:Vf):Prop where
 hd:A.handled=none
 dp:A.depth+3*k+5<recursionLimit
 un:A.units+16*k+200<cLine
def BE.mono (r:BE k A)(h:j<=k):BE j A:=⟨r.hd,by have:=r.dp;omega,by have:=r.un;omega⟩
def BE.d (r:BE k A)(h:j<=k:=by decide):BE j A:=r.mono h
def BE.deeper (r:BE (k+1) A)(env:Env):BE k (A.deeper env) :=
 ⟨r.hd,by have:=r.dp;show A.depth+1+3*k+5<_;omega,by have:=r.un;show A.units+3+16*k+200<_;omega⟩
def Abb{A:Vf}{C:ar}{us:List af}{B:List (aU×af)}:(A.under<|.builtin "type.__call__" ⟨.ref C::us,B⟩).depth=A.depth+1:=by first|rfl|simp[vO,Code.weight,Code.isCreation,Code.isGuard,Code.isCaller,Code.frames,vP,guardIds]
def Abd{A:Vf}{C:ar}{us:List af}{B:List (aU×af)}:(A.under<|.builtin "type.__call__" ⟨.ref C::us,B⟩).units=A.units+1:=by first|rfl|simp[vO,Code.cUnits,Code.frames,vP]
def BE.make (r:BE (k+1) A)(C:ar)(us:List af)(B:List (aU×af)):BE k (A.under<|.builtin "type.__call__" ⟨.ref C::us,B⟩) :=
 ⟨r.hd,by have:=r.dp;rw[Abb];omega,by have:=r.un;rw[Abd];omega⟩
def BE.depth (r:BE k A):A.depth<recursionLimit:=by have:=r.dp;omega
def BE.units (r:BE k A):A.units+64<cLine:=by have:=r.un;omega
def BA:TA:=λ_ H Q=>Q [] H
def Gy(ta:TE)(tr:TA):TA:=λσ H Q=>ta σ H λx H1=>tr σ H1 λxs H2=>Q (x::xs) H2
section
variable {X:Cx}{e:UX}{es:List UX}{te:TE}{t:TA}{pos:Pos}
def B3:PA X [] BA:=λ_ _ _ _ H Q I h=>xG ⟨[],H,I,.nil,h⟩
def Co(D:PE X e te)(J:PA X es t)(hs:U8 (e::es) X.env=(false,U9 e X.env)::U8 es X.env:=by rfl):PA X (e::es) (Gy te t):=by intro pos π s σ H Q I h;rw[hs];show UY _ _ (spliced ((false,U9 e X.env)::Vu pos (U8 es X.env))) _ _ s;refine vQ<|As (D π s σ H _ I h) λu L B=>AF B λx O V Y q1=>?_;exact As (J pos π L σ O _ V q1) λus s2 B=>AF B λxs H2 I2 r2 q2=>⟨x::xs,H2,I2,.cons Y r2,q2⟩
def Abe(t:TA):TE:=λσ H Q=>t σ H λxs H1=>xs.length<=sizeLine/\∀p,H1 p=none->Q (.ref p) (upd H1 p (.tup xs))
def Abf(t:TA):TE:=λσ H Q=>t σ H λxs H1=>xs.length<=sizeLine/\∀p,H1 p=none->Q (.ref p) (upd H1 p (.lst xs))
def Fx (h:PA X es t):PE X (.Tuple es x1 pos) (Abe t):=by intro π s σ H Q I hq;refine xH<|As (h pos π s σ H _ I hq) λus B L=>FV L λxs D J r z q=>⟨by rwa[<-r.length],?_⟩;have O:D B.heap.objs.size=none:=J.ah.fresh<|Vb _;refine⟨.ref B.heap.objs.size,upd D B.heap.objs.size<|.tup xs,J.laid (t':=B.toks) (λb u e=>Vp _ e) (Vb _) ?_,rfl,q _ O⟩;exact⟨z,us,r,⟨_,VO _ rfl,rfl,_,rfl⟩⟩
def CV(h:PA X es t):PE X (.List es pos) (Abf t):=by intro π s σ H Q I hq;refine xI<|As (h pos π s σ H _ I hq) λus B L=>FV L λxs D J r z q=>⟨by rwa[<-r.length],?_⟩;have O:D B.heap.objs.size=none:=J.ah.fresh<|Vb _;refine⟨.ref B.heap.objs.size,upd D B.heap.objs.size<|.lst xs,J.laid (t':=B.toks) (λb u e=>Vp _ e) (Vb _) ?_,rfl,q _ O⟩;exact⟨z,us,0,r,VO _ rfl⟩
end
abbrev Sp:=List V->Hp->VK->XK->Prop
abbrev Cp:=List Env->Hp->US->XK->af->US->Prop
structure G5(P:UZ)(w:UU)(K:UT)(mg:aU->Option af)(base:Heap)(A:Vf)(outer:List Env)(s:US)(H:Hp):Prop where
 frames:A.frames=some outer
 mod:Mod K mg base
 bs:∀b o,base.get? b=some o->s.heap.get? b=some o/\H b=none
 cz:base.objs.size<=s.heap.objs.size
 bD:s.heap.FunFrames base outer
 cP:∀b∈Du outer,H b=none
 ah:AY P w H s.heap
 bare:Xe s.gens
def CE(outer:List Env)(P:UZ)(w:UU)(H:Hp)(s:US)(Q:VK)(u:af)(s':US):Prop :=
 ∃v H',s'.os=s.os/\Xe s'.gens/\Un (Du outer) [] H H' s.heap s'.heap/\AY P w H' s'.heap/\AH v u/\Q v H'
def CR(CX:Cp)(outer:List Env)(P:UZ)(w:UU)(H:Hp)(s:US)(Q:VK)(E:XK)(r:Yz)(s':US):Prop :=
 match r with
 |.ok (.ret u)=>CE outer P w H s Q u s'
 |.ok _=>False
 |.error e=>CX outer H s E e s'
structure Az(P:UZ)(w:UU)(K:UT)(mg:aU->Option af)(base:Heap)(CX:Cp)(k:Nat)(f:ar)(fd:U7)(ps:List aU)(sp:Sp):Prop where
 len:∀vs H Q E,sp vs H Q E->vs.length=ps.length
 run:∀(A:Vf)(outer:List Env)(s:US)(H:Hp)(args:Args)(us:List af)(vs:List V)(Q:VK)(E:XK),BE k A->G5 P w K mg base A outer s H->Yf s fd args (ps.zip us)->AA vs us->sp vs H Q E ->
  Wf (U1 P w) A (.call (.ref f) args) (CR CX outer P w H s Q E) s
def Az.mono{P:UZ}{w:UU}{K:UT}{mg:aU->Option af}{base:Heap}{CX:Cp}{j k:Nat}{f:ar}{B:U7}{ps:List aU}{sp:Sp}(F:Az P w K mg base CX j f B ps sp)(h:j<=k) :
  Az P w K mg base CX k f B ps sp:=⟨F.len,λA outer s H args us vs Q E D=>F.run A outer s H args us vs Q E<|D.mono h⟩
def G5.make{P:UZ}{w:UU}{K:UT}{mg:aU->Option af}{base:Heap}{A:Vf}{outer:List Env}{s:US}{H:Hp}(e:G5 P w K mg base A outer s H)(C:ar)(us:List af)(B:List (aU×af)) :
  G5 P w K mg base (A.under<|.builtin "type.__call__" ⟨.ref C::us,B⟩) outer s H:=⟨by first|exact e.frames|(simpa [vO,Code.envs,vP,pushEnvs]using e.frames),e.mod,e.bs,e.cz,e.bD,e.cP,e.ah,e.bare⟩
section
variable {X:Cx}{π:List (ar×Obj)}{σ:St}{H:Hp}{s s':US}
def Ac.gW(I:Ac X π σ H s):G5 X.prog X.w X.K X.mg X.base X.A X.stack s H :=
 ⟨I.ok.frames,I.ok.mod,I.bs,V7 I.ok.cz I.sz,I.stack,I.mD,I.ah,I.bare⟩
def Ac.after (I:Ac X π σ H s)(h:CE X.stack X.prog X.w H s Q u s'):EP X π σ Q u s':=by obtain⟨v,D,os,B,un,J,r,q⟩:=IU h;obtain⟨L,g,d,t,O⟩:=s';obtain rfl:O=s.os:=os;exact⟨v,D,I.call (h':=L) (g':=g) (d':=d) (t':=t) (ch:=[]) un J B λb z=>absurd z<|(by simp),r,q⟩
end
def Kx(sp:Sp)(dvs:List V)(E:XK)(t:TA):TE:=λσ H Q=>t σ H λvs H1=>sp (vs++dvs) H1 Q E
def Kz(C:ar)(m:aU)(sp:Sp)(dvs:List V)(E:XK)(ta:TE)(t:TA):TE:=λσ H Q=>ta σ H λx H1=>∃a dx fs,x=.ref a/\H1 a=some (.ins C dx fs)/\fs.lookup m=none /\
 t σ H1 λvs H2=>sp (x::(vs++dvs)) H2 Q E
def Qa(C:ar)(sp:Sp)(dvs:List V)(E:XK)(t:TA):TE:=λσ H Q=>t σ H λvs H1=>∀x dx,H1 x=none->H1 dx=none->dx≠x ->
 sp (.ref x::(vs++dvs)) (upd (upd H1 dx (.own x)) x (.ins C dx [])) (λv H2=>v=.aa/\Q (.ref x) H2) E
def DI(K:UT)(fd:U7)(ps:List aU)(ds:List af):Prop :=
 ∀(s:US)(us:List af),K.In s.heap->(us++ds).length=ps.length->Yf s fd ⟨us,[]⟩ (ps.zip (us++ds))
def DI.all{K:UT}{B:U7}{ps:List aU}(h:∀us:List af,us.length=ps.length->bindArgs B ⟨us,[]⟩=pure (ps.zip us)):DI K B ps []:=λs us _ D=>by
 rw [V5]at D ⊢;exact .of_eq<|h us D
def DB(CX:Cp)(X:Cx)(E:XK):Prop:=∀(π:List (ar×Obj))(σ:St)(H:Hp)(s:US)(e:af)(s':US),Ac X π σ H s->CX X.stack H s E e s'->X.xe e s'
section
variable {X:Cx}{CX:Cp}{k:Nat}{f C:ar}{fd:U7}{ps:List aU}{sp:Sp}{dvs:List V}{ds:List af}{E:XK}{x m:aU}{p pos apos:Pos}{e o:UX}{es:List UX}{ta:TE}{t:TA}
def Ia{π:List (ar×Obj)}{σ:St}{H:Hp}{s:US}{Q:VK}{us:List af}{vs:List V}(F:Az X.prog X.w X.K X.mg X.base CX k f fd ps sp)(D:BE k X.A)(hb:DI X.K fd ps ds)(hd:AA dvs ds)(hx:DB CX X E)(I:Ac X π σ H s)(r:AA vs us)(h:sp (vs++dvs) H Q E):UY (U1 X.prog X.w) X.A (call (.ref f) us) (EP X π σ Q) X.xe s:=by
 have B:AA (vs++dvs) (us++ds):=r.append hd;have J:(us++ds).length=ps.length:=by rw[<-B.length];exact F.len _ _ _ _ h
 refine Zv<|Yg (F.run X.A X.stack s H ⟨us,[]⟩ (us++ds) (vs++dvs) Q E D I.gW (hb s us I.aH J) B h) λr L hq=>?_;cases r with
 |error e=>exact hx π σ H s e L I hq
 |ok O =>
  cases O with
  |ret u=>exact I.after hq
  |next=>exact Wx hq
  |brk=>exact Wx hq
  |cont=>exact Wx hq
def Abg(F:Az X.prog X.w X.K X.mg X.base CX k f fd ps sp)(D:BE k X.A)(J:Gl X x)(L:X.mg x=some (.ref f))(hk:WU X.K (.ref f)=true)(hb:DI X.K fd ps ds)(hd:AA dvs ds)(hx:DB CX X E)(O:PA X (e::es) t)(Y:(x == ("__debug__":aU))=false:=by decide)(he:U8 (e::es) X.env=(false,U9 e X.env)::U8 es X.env:=by rfl)(aN:(Vu pos<|U8 es X.env).any (·.1)=false:=by rfl) :
  PE X (.Call (.Name x p) (e::es) [] pos) (Kx sp dvs E t):=by
 show 0;refine Zw<|IY I J L ?_ Y;refine YB (h₀:=X.base) I.ok.mod.d7 hk (As (O pos π s σ H _ I h) λus s1 zz=>AF zz λvs H1 B r q=>⟨B.aH,?_⟩) he aN;exact Ia F D hb hd hx B r q
def Abh{pl:Sem Bool}(Y:PE X o ta)(c:CU X.K C)(D:Kv X.K C m f)(F:Az X.prog X.w X.K X.mg X.base CX k f fd ps sp)(hr:BE k X.A)(hb:DI X.K fd ps ds)(hd:AA dvs ds)(hx:DB CX X E)(ha:PA X (e::es) t)(aG:U8 (e::es) X.env=(false,U9 e X.env)::U8 es X.env:=by rfl)(aN:(Vu pos<|U8 es X.env).any (·.1)=false:=by rfl)(ht:U9 (.Call (.Attribute o m apos) (e::es) [] pos) X.env=(do
   let J <-U9 o X.env
   Wo apos.atName
   let (f,first) <-Wl [J] (Xg J m pl)
   XE pos f first (Vu pos<|U8 (e::es) X.env) (WV pos<|WW [] X.env)):=by rfl) :
  PE X (.Call (.Attribute o m apos) (e::es) [] pos) (Kz C m sp dvs E ta t):=by
 show 0;refine YC (pl:=pl) (As (Y π s σ H _ I h) λu s1 B=>AF B λx H1 L rx zz=>?_) ht;obtain⟨a,dx,fs,ex,ea,l,q⟩:=Dg zz;subst ex;obtain rfl:u=Vo a:=rx;apply Jm L ea c D l;refine YB (first:=[.ref a]) (h₀:=X.base) I.ok.mod.d7 D.kp (As (ha pos π s1 σ H1 _ L q) λus s2 B=>AF B λvs H2 O r q2=>⟨O.aH,?_⟩) aG aN;exact Ia (us:=.ref a::us) (vs:=.ref a::vs) F hr hb hd hx O (.cons rfl r) q2
def Abi{pl:Sem Bool}(L:PE X o ta)(c:CU X.K C)(D:Kv X.K C m f)(F:Az X.prog X.w X.K X.mg X.base CX k f fd ps sp)(O:BE k X.A)(hb:DI X.K fd ps ds)(hd:AA dvs ds)(hx:DB CX X E)(Y:U9 (.Call (.Attribute o m apos) [] [] pos) X.env=(do
   let J <-U9 o X.env
   Wo apos.atName
   let (f,first) <-Wl [J] (Xg J m pl)
   XE pos f first (Vu pos<|U8 [] X.env) (WV pos<|WW [] X.env)):=by rfl) :
  PE X (.Call (.Attribute o m apos) [] [] pos) (Kz C m sp dvs E ta BA):=by
 show 0;refine YC (pl:=pl) (As (L π s σ H _ I h) λu s1 zz=>AF zz λx H1 B rx zz=>?_) Y;obtain⟨a,dx,fs,ex,ea,l,q⟩:=Dg zz;subst ex;obtain rfl:u=Vo a:=rx;apply Jm B ea c D l;exact xJ (first:=[.ref a]) B.aH D.kp<|Ia (us:=[.ref a]) (vs:=[.ref a]) F O hb hd hx B (.cons rfl .nil) q
structure Mk(K:UT)(C f:ar):Prop where
 makes:vN K C=true
 init:V4 K (.ref C) "__init__"=some (some (.ref f))
 fn:Yy K (.ref f)=true
 kp:WU K (.ref C)=true
def Abj{π:List (ar×Obj)}{σ:St}{H:Hp}{s:US}{Q:VK}{us:List af}{vs:List V}(M:Mk X.K C f)(F:Az X.prog X.w X.K X.mg X.base CX k f fd ps sp)(L:BE (k+1) X.A)(hb:DI X.K fd ps ds)(hd:AA dvs ds)(hx:DB CX X E)(I:Ac X π σ H s)(r:AA vs us)(h:∀x dx,H x=none->H dx=none->dx≠x->sp (.ref x::(vs++dvs)) (upd (upd H dx<|.own x) x<|.ins C dx []) (λv O=>v=.aa/\Q (.ref x) O) E) :
  UY (U1 X.prog X.w) X.A (call (.ref C) us) (EP X π σ Q) X.xe s:=by
 have hq:=h (s.heap.objs.size+1) s.heap.objs.size (I.ah.fresh<|Wu _) (I.ah.fresh<|Vb _)<|Vv (YA _);have D:=Ac.made (C:=C) I;have J:AA (V.ref (s.heap.objs.size+1)::(vs++dvs)) (Vo (s.heap.objs.size+1)::(us++ds)):=.cons rfl<|r.append hd;have Y:(Vo (s.heap.objs.size+1)::us++ds).length=ps.length:=by have e:=J.length;rw[F.len _ _ _ _ hq]at e;exact e.symm
 refine Zv (Aa3 (f:=f) I.aH M.makes M.init (beq_iff_eq.mp M.fn) (Yg (F.run _ X.stack _ _ ⟨Vo (s.heap.objs.size+1)::us,[]⟩ (Vo (s.heap.objs.size+1)::(us++ds)) _ _ E (L.make C us [])
  (D.gW.make C us []) (hb _ (Vo (s.heap.objs.size+1)::us) D.aH Y) J hq) λr s' B=>?_))
 cases r with
 |error e=>exact hx π σ _ _ e s' D B
 |ok fl =>
  cases fl with
  |ret u =>
   obtain⟨v,H',I3,rv,ev,q3⟩:=BB<|D.after B;subst ev;exact⟨rv,⟨V.ref<|s.heap.objs.size+1,H',I3,rfl,q3⟩⟩
  |next=>exact Wx B
  |brk=>exact Wx B
  |cont=>exact Wx B
def Abk(M:Mk X.K C f)(F:Az X.prog X.w X.K X.mg X.base CX k f fd ps sp)(D:BE (k+1) X.A)(J:Gl X x)(L:X.mg x=some (.ref C))(hb:DI X.K fd ps ds)(hd:AA dvs ds)(hx:DB CX X E)(O:PA X (e::es) t)(Y:(x == ("__debug__":aU))=false:=by decide)(he:U8 (e::es) X.env=(false,U9 e X.env)::U8 es X.env:=by rfl)(aN:(Vu pos<|U8 es X.env).any (·.1)=false:=by rfl) :
  PE X (.Call (.Name x p) (e::es) [] pos) (Qa C sp dvs E t):=by
 show 0;refine Zw<|IY I J L ?_ Y;refine YB (h₀:=X.base) I.ok.mod.d7 M.kp (As (O pos π s σ H _ I h) λus s1 zz=>AF zz λvs H1 B r q=>⟨B.aH,?_⟩) he aN;exact Abj M F D hb hd hx B r q
end
section
variable {X:Cx}{CX:Cp}{k:Nat}{f C:ar}{fd:U7}{ps ks:List aU}{sp:Sp}{E:XK}{x m:aU}{p pos apos adj:Pos}{e o:UX}{es:List UX}{kws:List Yh}{te ta:TE}{t tk:TA}{nm:Option aU}
structure Ais(K:UT)(fd:U7)(ps ks:List aU)(g:List af->List af->List af)(gV:List V->List V->List V):Prop where
 to:∀(s:US)(us ws:List af),K.In s.heap->(g us ws).length=ps.length->Yf s fd ⟨us,ks.zip ws⟩ (ps.zip (g us ws))
 rel:∀{vs:List V}{us:List af}{zs:List V}{ws:List af},AA vs us->AA zs ws->AA (gV vs zs) (g us ws)
variable {g:List af->List af->List af}{gV:List V->List V->List V}
end
structure EE(N P:List aU)(sc:Scope):Prop where
 kind:sc.kind=.function
 co:sc.isCoroutine=false
 gen:sc.isGenerator=false
 nd:N.Nodup
 pre:N.take P.length=P
 par:∀x∈P,sc.names.lookup x=some .local\/sc.names.lookup x=some .cell
 aah:∀y∈sc.names,y.2≠.free
theorem Qb{kindOf:aU->Option XF}{x:aU}:∀{binds:List (aU×af)}{m:aU->Option af},(∀v,(x,v) ∉ binds)->XG kindOf binds m x=m x
 |[],_,_=>rfl
 | (n,v)::r,m,h=>by
  unfold XG;rw[Qb λw hw=>h w (Vw _ hw)];split
  .have:x≠n:=by rintro rfl;exact h v VJ
   simp[this]
  .rfl
theorem Qc{kindOf:aU->Option XF}{x:aU}:∀{binds:List (aU×af)}{m:aU->Option af},(∀v,(x,v) ∉ binds)->XH kindOf binds m x=m x
 |[],_,_=>rfl
 | (n,v)::r,m,h=>by
  unfold XH;rw[Qc λw hw=>h w (Vw _ hw)];split
  .rfl
  .have:x≠n:=by rintro rfl;exact h v VJ
   simp[this]
theorem Qd{kindOf:aU->Option XF}{x:aU}{v:af}:∀{P:List aU}{vs:List af}{i:Nat}{m:aU->Option af},P.Nodup->P[i]?=some x->vs[i]?=some v->kindOf x=some .local ->
  XG kindOf (P.zip vs) m x=some v
 |[],_,_,_,_,h,_,_=>by simp at h
 |_::_,[],_,_,_,_,h,_=>by simp at h
 |p::P,w::vs,0,m,nd,h1,h2,hk=>by
  simp at h1 h2;subst h1;subst h2;show XG kindOf ((p,w)::P.zip vs) m p=_;unfold XG;rw[Qb λv hv=>(Vr.mp nd).1 (vR hv).1,bf hk];simp
 |p::P,w::vs,i+1,m,nd,h1,h2,hk=>by
  show XG kindOf ((p,w)::P.zip vs) m x=_;unfold XG;exact Qd (i:=i) (Vr.mp nd).2 (by simpa using h1) (by simpa using h2) hk
theorem Qe{kindOf:aU->Option XF}{x:aU}{v:af}:∀{P:List aU}{vs:List af}{i:Nat}{m:aU->Option af},P.Nodup->P[i]?=some x->vs[i]?=some v->kindOf x≠some .local ->
  XH kindOf (P.zip vs) m x=some v
 |[],_,_,_,_,h,_,_=>by simp at h
 |_::_,[],_,_,_,_,h,_=>by simp at h
 |p::P,w::vs,0,m,nd,h1,h2,hk=>by
  simp at h1 h2;subst h1;subst h2;show XH kindOf ((p,w)::P.zip vs) m p=_;unfold XH;rw[Qc λv hv=>(Vr.mp nd).1 (vR hv).1,ck hk];simp
 |p::P,w::vs,i+1,m,nd,h1,h2,hk=>by
  show XH kindOf ((p,w)::P.zip vs) m x=_;unfold XH;exact Qe (i:=i) (Vr.mp nd).2 (by simpa using h1) (by simpa using h2) hk
noncomputable def start(N:List aU)(vs:List V):St:=vs.map some++U5 (N.length-vs.length) none
noncomputable def DJ(CX:Cp)(P:UZ)(w:UU)(K:UT)(mg:aU->Option af)(base:Heap)(N:List aU)(qual:aU)(scope:Scope)(f:ar)(cd:af)(A:Vf)(outer:List Env)(s:US)(H:Hp)(E:XK):Cx where
 prog:=P
 w:=w
 K:=K
 mg:=mg
 base:=base
 A:=A.deeper (Xh qual scope s.heap.objs.size f cd)
 N:=N
 s₀:=s
 H₀:=H
 env:=Xh qual scope s.heap.objs.size f cd
 outer:=outer
 stack:=Xh qual scope s.heap.objs.size f cd::outer
 ex:=[]
 calm:=true
 fn:=λ_=>true
 pn:=[]
 xe:=λe s'=>UY (U1 P w) (A.deeper (Xh qual scope s.heap.objs.size f cd)) (leaving (Xh qual scope s.heap.objs.size f cd) e) (λ_ bN=>CX outer H s E e bN) (λe' bN=>CX outer H s E e' bN) s'
def Qf{sc:Scope}{n:Nat}{x:aU}(h:sc.names.lookup x=some .cell):∃c,(YD n sc.names []).lookup x=some c:=by have q:=xK sc.names n []<|.inl h;exact Zx.mp q
def Abl{CX:Cp}{P:UZ}{w:UU}{K:UT}{mg:aU->Option af}{base:Heap}{N ps:List aU}{D:aU}{B:Scope}{f:ar}{O:af}{A:Vf}{outer:List Env}{s s1:US}{H:Hp}{E:XK}{us:List af}{vs:List V}(S:EE N ps B)(hd:A.handled=none)(J:G5 P w K mg base A outer s H)(hl:vs.length=ps.length)(r:AA vs us)(x:InCallC s s.heap.objs.size (XG (Xh D B s.heap.objs.size f O).kindOf (ps.zip us) λ_=>none) (YD (s.heap.objs.size+1) B.names []) (XH (Xh D B s.heap.objs.size f O).kindOf (ps.zip us) λ_=>none) s1) :
  Ac (DJ CX P w K mg base N D B f O A outer s H E) [] (start N vs) H s1:=by
 have aN:ps.length<=N.length:=by have:=congrArg Yi S.pre;rw[Wg]at this;omega
 obtain⟨Y,tk,rfl,hk⟩:=Bz x.done;have i8:∀b:ar,b ∉ (DJ CX P w K mg base N D B f O A outer s H E).ex:=λb z=>absurd (show b∈([]:List ar)from z) `B;refine⟨⟨J.mod,S.kind,rfl,rfl,Vb _,λy z c Y I=>?_,λy hy=>?_,λy c _ h=>?_,λ_=>hd,Around.frames_deeper J.frames,.inr ⟨rfl,rfl⟩,λb z=>absurd z<|i8 b,J.bs,J.cz,λb _ _=>i8 b,λb z=>absurd z<|i8 b,J.bD,J.cP⟩,
  rfl,J.bare,Un.kept hk,⟨_,x.toInCall.ns,λi y v Y I h3=>?_⟩,λy c h=>⟨_,x.cell y c h⟩,J.ah.fresh<|Vb _,λy c h=>?_,λp L=>absurd (show p∈([]:List (ar×Obj))from L)<|(by simp),J.ah.kept hk,?_⟩
 .exact name_of_addr x.apart (Xs Y) (Xs I)
 .have hy:B.names.lookup y=some .cell\/B.names.lookup y=some .free:=hy;rcases hy with hy|hy
  .exact Qf hy
  .exact absurd rfl (S.aah _<|Xs hy)
 .exact XA (x.above y c<|Xs h)
 .have hi:i<vs.length:=by
   unfold start at I;by_cases hi:i<vs.length
   .exact hi
   .rw[List.getElem?_append_right<|by simpa using hi]at I;rw[List.getElem?_replicate]at I;split at I<;>cases I
  have ha:vs[i]?=some v:=by
   unfold start at I;rw[vS<|by simpa using hi,Va]at I;cases e:vs[i]? with
   |none=>rw[e]at I;cases I
   |some a=>rw[e]at I;cases I;rfl
  obtain⟨u,hu,rv⟩:=Au<|r.get ha;have L:ps[i]?=some y:=by rwa[<-S.pre,List.getElem?_take_of_lt<|(by omega)]
  have rm:ps.Nodup:=by rw[<-S.pre];exact S.nd.sublist<|YY _ _
  refine⟨u,rv,?_⟩;rcases S.par y (Vh L)with k|k
  .exact .inl ⟨k,Qd rm L hu k⟩
  .obtain ⟨c,e⟩:=Qf (n:=s.heap.objs.size+1) k;refine .inr ⟨.inl k,c,e,?_⟩;have q:=x.cell y c e;rw[Qe rm L hu<|by show B.names.lookup y≠_;rw[k];decide]at q;exact q
 .exact J.ah.fresh (XA<|x.above y c (Xs h))
 .unfold start;show _=N.length;rw[VA,UW,VY];omega
def Qg{CX:Cp}{P:UZ}{w:UU}{K:UT}{mg:aU->Option af}{base:Heap}{k:Nat}{f:ar}{name D:aU}{L:Arguments}{body:List Stmt}{B:Scope}{dV kV doc pm Y ct oc:af}{an od:Option ar}{eK:Array (Option af)}{N ps:List aU}{sp:Sp}(lk:K.lookup f=some ⟨oc,od,.func<|Xi name D L body B dV kV doc pm an Y ct,eK⟩)(c6:YZ K Y D=true)(S:EE N ps B)(len:∀vs H Q E,sp vs H Q E->vs.length=ps.length)(i9:∀(A:Vf) (outer:List Env) (s:US) (H:Hp) (vs:List V) (Q:VK) (E:XK),BE k (A.deeper<|Xh D B s.heap.objs.size f Y)->sp vs H Q E ->
   ∃t,Di (DJ CX P w K mg base N D B f Y A outer s H E) body t/\t { nx:=λ_ O=>Q .aa O,rt:=Q } (start N vs) H) :
  Az P w K mg base CX (k+1) f (Xi name D L body B dV kV doc pm an Y ct) ps sp:=by
 refine⟨len,λA outer s H args us vs Q E hr e0 hb r dG=>?_⟩;have hl:=len _ _ _ _ dG;have KX:K.In s.heap:=e0.mod.d7.keeps λb o e=>(e0.bs b o e).1;have lim:s.heap.NoLimit:=e0.mod.nolimit.keeps λb o e=>(e0.bs b o e).1;have aai:∀y∈ps.zip us,B.names.lookup y.1=some .local\/(B.names.lookup y.1=some .cell/\((YD (s.heap.objs.size+1) B.names []).lookup y.1).isSome=true):=λ⟨n,v⟩ hy=>by
  rcases S.par n (vR hy).1 with q|q
  .exact .inl q
  .exact .inr ⟨q,xK _ _ _<|.inl q⟩
 refine codeAny_call_function hr.depth (KX _ _ lk) rfl S.co S.gen rfl (PySem.W.codeRec_of KX c6)<|hb _ _ _ _ ?_;refine wpAny_newFunctionEnv_cells S.kind aai λenv he s1 x=>?_;subst he;refine⟨lim.keeps x.toInCall.keep,codeAny_func ?_⟩;obtain⟨t,ht,hq⟩:=Au<|i9 A outer s H vs Q E (hr.deeper _) dG;have I:Ac (DJ CX P w K mg base N D B f Y A outer s H E) [] (start N vs) H s1:=Abl S hr.hd e0 hl r x;refine Ws (ht [] s1 (start N vs) H _ I hq) (λfl s' hs=>?_) λe s' hs=>hs;have fin:∀{σ':St}{O:Hp}{v:V}{u:af},Ac (DJ CX P w K mg base N D B f Y A outer s H E) [] σ' O s'->AH v u->Q v O->CE outer P w H s Q u s' :=
  λ{σ' O v u} J rv q=>⟨v,O,J.os,J.bare,J.base,J.ah,rv,q⟩
 cases fl with
 |ret u =>
  obtain⟨v,σ',O,J,rv,q⟩:=Dg hs;exact fin J rv q
 |next =>
  obtain⟨σ',O,J,q⟩:=Bz hs;exact fin (v:=V.aa) (u:=VU) J rfl q
 |brk =>
  obtain⟨_,_,_,q⟩:=Bz hs;exact Wx q
 |cont =>
  obtain⟨_,_,_,q⟩:=Bz hs;exact Wx q
section
variable {X:Cx}{x:aU}{p pos:Pos}{e:UX}{es:List UX}{t:TA}{id T:String}{r:List V->Hp->VK->Prop}
def KA(r:List V->Hp->VK->Prop)(t:TA):TE:=λσ H Q=>t σ H λvs H1=>r vs H1 Q
def Abm(hc:BX X (.builtin id) r)(B:Gl X x)(D:X.mg x=none)(hv:VS x=some (.builtin id))(J:PA X (e::es) t)(L:x≠"__name__":=by decide)(O:(x == ("__debug__":aU))=false:=by decide)(Y:U8 (e::es) X.env=(false,U9 e X.env)::U8 es X.env:=by rfl)(aN:(Vu pos<|U8 es X.env).any (·.1)=false:=by rfl):PE X (.Call (.Name x p) (e::es) [] pos) (KA r t):=by show 0;refine Zw<|Gn I B D hv ?_ L O;exact PyProof.Rows.callWith_builtin1 (As (J pos π s σ H _ I h) λus s1 zz=>AF zz λvs H1 I1 r1 q1=>hc π s1 σ H1 vs us Q I1 r1 q1) Y aN
def Abn(hc:BX X (.type T) r)(B:Gl X x)(D:X.mg x=none)(hv:VS x=some (.type T))(J:PA X (e::es) t)(L:x≠"__name__":=by decide)(O:(x == ("__debug__":aU))=false:=by decide)(Y:U8 (e::es) X.env=(false,U9 e X.env)::U8 es X.env:=by rfl)(aN:(Vu pos<|U8 es X.env).any (·.1)=false:=by rfl):PE X (.Call (.Name x p) (e::es) [] pos) (KA r t):=by show 0;refine Zw<|Gn I B D hv ?_ L O;exact Yx (As (J pos π s σ H _ I h) λus s1 zz=>AF zz λvs H1 I1 r1 q1=>hc π s1 σ H1 vs us Q I1 r1 q1) Y aN
end
end L2
namespace HT
open PySem PyProof.Rows
section
open PySem.SeqAt
open PySem.AutoSeq1 (wpAny_loadPart')
open PySem.MeetsSeq PySem.MeetsSeq2 PySem.MeetsSeq3
end
section
variable {prog:UZ}{w:UU}{A:Vf}{E:af->US->Prop}{s:US}
noncomputable def aJ(n d:Nat):Option Int->Nat
 |none=>d
 |some v=>if v<0 then(v+(n:Int)).toNat else min v.toNat n
def rn(n d:Nat):aJ n d none=d:=rfl
def rp(n d k:Nat):aJ n d (some (k:Int))=min k n:=by show(if (k:Int)<0 then((k:Int)+(n:Int)).toNat else min (k:Int).toNat n)=min k n;rw[ck<|(by omega),XI]
def rq(n d:Nat)(hd:d<=n)(o:Option Int):aJ n d o<=n:=by
 cases o with
 |none=>exact hd
 |some v =>
  show(if v<0 then(v+(n:Int)).toNat else min v.toNat n)<=n;by_cases hv:v<0
  .rw[bf hv];omega
  .rw[ck hv];exact Nat.min_le_right _ _
def aaj(v:Int)(n d:Nat):(if v<0 then max (v+(n:Int)) 0 else min v (n:Int))=((aJ n d (some v):Nat):Int):=by
 show(if v<0 then max (v+(n:Int)) 0 else min v (n:Int))=(((if v<0 then(v+(n:Int)).toNat else min v.toNat n):Nat):Int);by_cases hv:v<0
 .simp only[bf hv];omega
 .simp only[ck hv];omega
end
end HT
namespace L2
open PySem PySem.Spec PyProof.Rows
abbrev TO:=St->Hp->(Option Int->Hp->Prop)->Prop
def PO(X:Cx)(e:Option UX)(t:TO):Prop :=
 ∀(π:List (ar×Obj))(s:US)(σ:St)(H:Hp)(Q:Option Int->Hp->Prop),Ac X π σ H s->t σ H Q ->
  UY (U1 X.prog X.w) X.A (evalPart e X.env) (λu s'=>∃o H',Ac X π σ H' s'/\IsPart u o/\Q o H') X.xe s
def Abo:TO:=λ_ H Q=>Q none H
def Abp(t:TE):TO:=λσ H Q=>t σ H λx H1=>∃i,x=.int i/\Q (some i) H1
section
variable {X:Cx}{e:UX}{te:TE}{lo hi:Option UX}{tl th:TO}{pos p2:Pos}
def Fy:PO X none Abo:=by show 0;rw[evalPart_none];exact Vd ⟨none,H,I,.none,h⟩
def Fz(h:PE X e te):PO X (some e) (Abp te):=by
 intro π s σ H Q I hw;rw[evalPart_some];refine As (h π s σ H _ I hw) λu V D=>AF D λx J L O B=>?_;replace B:=Au B;obtain⟨i,rfl,q⟩:=B
 obtain⟨t,rfl⟩:=O;exact⟨some i,J,L,.int i t,q⟩
def F0(X:Cx)(r:V->Option Int->Option Int->Hp->VK->Prop):Prop :=
 ∀(π:List (ar×Obj))(s:US)(σ:St)(H:Hp)(x:V)(v vl vu:af)(lo hi:Option Int)(sl:ar)(Q:VK),Ac X π σ H s->AH x v->s.heap.IsSliceOf sl vl vu .none->IsPart vl lo->IsPart vu hi->r x lo hi H Q ->
  ∃T id,typeLookup (.type T) "__getitem__"=pure (some (.builtin id))/\s.TypeIs v T/\UY (U1 X.prog X.w) X.A (Ya v (.ref sl)) (EP X π σ Q) X.xe s
def F0.or (h:F0 X r)(h':F0 X B):F0 X (λx lo hi H Q=>r x lo hi H Q\/B x lo hi H Q):=by
 intro π s σ H x v vl D lo hi J Q I L hs pl O q;rcases q with q|q
 .exact h π s σ H x v vl D lo hi J Q I L hs pl O q
 .exact h' π s σ H x v vl D lo hi J Q I L hs pl O q
def tSl(r:V->Option Int->Option Int->Hp->VK->Prop)(te:TE)(tl th:TO):TE:=λσ H Q=>te σ H λx H1=>tl σ H1 λl H2=>th σ H2 λu H3=>r x l u H3 Q
def FA (O:F0 X r)(Y:PE X e te)(hl:PO X lo tl)(hu:PO X hi th):PE X (.Subscript e (.Slice lo hi none p2) pos) (tSl r te tl th):=by show 0;refine vT<|As (Y π s σ H _ I h) λv s1 D=>AF D λx H1 I1 r1 q1=>?_;refine wpAny_Slice<|As (hl π s1 σ H1 _ I1 q1) λvl s2 D=>AF D λl H2 I2 pl q2=>As (hu π s2 σ H2 _ I2 q2) λJ B D=>AF D λu L I3 pu q3=>?_;rw[evalPart_none];apply Vd;have I4:Ac X π σ L { B with heap:=B.heap.push { cls:=.type "slice",data:=.fields #[vl,J,.none] } }:=I3.kept (t':=B.toks) λb ob q=>Vp _ q;obtain⟨T,id,hT,ht,hg⟩:=BB<|O π { B with heap:=B.heap.push { cls:=.type "slice",data:=.fields #[vl,J,.none] } } σ L x v vl J l u B.heap.objs.size Q I4 r1 (Heap.IsSliceOf.new ..) pl pu q3;show UY (U1 X.prog X.w) X.A (vU e (.Slice lo hi none p2) v<|.ref B.heap.objs.size) (EP X π σ Q) X.xe { B with heap:=B.heap.push { cls:=.type "slice",data:=.fields #[vl,J,.none] } };exact tail_any (ops:=[.ref B.heap.objs.size,v]) ht hT hg<|by with_unfolding_all rfl
noncomputable def G6(xs:List V)(lo hi:Option Int):List V:=(xs.drop (HT.aJ xs.length 0 lo)).take (HT.aJ xs.length xs.length hi-HT.aJ xs.length 0 lo)
def Abq(xs:List V)(lo hi:Option Int):(G6 xs lo hi).length<=xs.length:=by unfold G6;rw[Wg,xM];omega
end
noncomputable def CY(n:Nat)(i:Int):Option Nat:=if 0<=i then(if i<n then some i.toNat else none)else if -(n:Int)<=i then some (i+n).toNat else none
noncomputable def Cd{α:Type}(xs:List α)(i:Int):Option α:=(CY xs.length i).bind λj=>xs[j]?
def Qh (h:CY n i=some j):YE i n=some j/\j<n/\-(n:Int)<=i/\i<n:=by
 unfold CY at h;by_cases D:0<=i
 .rw[bf D]at h;by_cases B:i<n
  .rw[bf B]at h;have e:i.toNat=j:=Vq h;exact⟨by rw[Zy D B,e],(by omega),(by omega),B⟩
  .rw[ck B]at h;cases h
 .rw[ck D]at h;by_cases B:-(n:Int)<=i
  .rw[bf B]at h;have e:(i+n).toNat=j:=Vq h;exact⟨by rw[vV (by omega) B,e],(by omega),B,(by omega)⟩
  .rw[ck B]at h;cases h
def KC (h:Cd xs i=some v):∃j,YE i xs.length=some j/\xs[j]?=some v/\j<xs.length/\-(xs.length:Int)<=i/\i<xs.length:=by
 unfold Cd at h;cases e:CY xs.length i with
 |none=>rw[e]at h;cases h
 |some j =>
  rw [e]at h;obtain⟨B,D,H,I⟩:=AU<|Qh e;exact⟨j,B,h,D,H,I⟩
def FC{α:Type}{xs:List α}{j:Nat}{v:α}(h:xs[j]?=some v):Cd xs (j:Int)=some v:=by
 have B:j<xs.length:=(Vz.mp h).1;have e:CY xs.length (j:Int)=some j:=by unfold CY;rw[bf<|(by omega),bf<|(by omega)];simp
 unfold Cd;rwa[e]
def Abr(b:UX):Prop:=∀o i,Zz b false o i=operate [o,i] (Ya o i)
def FD(X:Cx)(r:R2):Prop :=
 ∀(value slice:UX)(π:List (ar×Obj))(s:US)(σ:St)(H:Hp)(x y:V)(v u:af)(Q:VK),Ac X π σ H s->AH x v->AH y u->r x y H Q ->
  Zz slice false v u=operate [v,u] (Ya v u)->UY (U1 X.prog X.w) X.A (vU value slice v u) (EP X π σ Q) X.xe s
def Qi(X:Cx)(id:String)(r:V->List V->Hp->VK->Prop):Prop :=
 ∀(π:List (ar×Obj))(s:US)(σ:St)(H:Hp)(x:V)(xs:List V)(v:af)(us:List af)(Q:VK),Ac X π σ H s->AH x v->AA xs us->r x xs H Q ->
  UY (U1 X.prog X.w) X.A (call (.builtin id) (v::us)) (EP X π σ Q) X.xe s
section
variable {X:Cx}{a b:UX}{ta tb:TE}{pos:Pos}
def FD.or (h:FD X r)(h':FD X B):FD X (λx y H Q=>r x y H Q\/B x y H Q):=by
 intro value slice π s σ H x y v u Q I D J q hs;rcases q with q|q
 .exact h value slice π s σ H x y v u Q I D J q hs
 .exact h' value slice π s σ H x y v u Q I D J q hs
def AN (B:FD X r)(D:PE X a ta)(hb:PE X b tb)(hs:Abr b):PE X (.Subscript a b pos) (G3 r ta tb):=by show 0;exact vT<|Mn D hb I h λv u J x y L O V Y q=>B a b π J σ L x y v u Q O V Y q<|hs _ _
def Qj(K:UT):R2:=λx y H Q=>∃p xs i v,x=.ref p/\y=.int i/\A2 K H p xs/\Cd xs i=some v/\Q v H
def Qk(K:UT):R2:=λx y H Q=>∃p xs i v,x=.ref p/\y=.int i/\Bn K H p xs/\Cd xs i=some v/\Q v H
def Ql:R2:=λx y H Q=>∃z i c,x=.str z/\y=.int i/\z.length<=sizeLine/\Cd z.cps.toList i=some c/\Q (.str ⟨#[c]⟩) H
def Abs:FD X (Qj X.K):=by
 intro value slice π s σ H x y v u Q I V Y h hs;replace h:=DW h;obtain⟨p,xs,i,z,rfl,rfl,hq,he,q⟩:=h
 cases V;obtain⟨t,rfl⟩:=Y;obtain⟨its,r,pl,hz⟩:=AG<|I.list hq;obtain⟨j,D,h2,h3,h4,h5⟩:=AG<|KC he;obtain⟨w,L,aY⟩:=Au<|r.get h2;have hl:=r.length;have hn:=Gx;have B:EP X π σ Q w s:=⟨z,H,I,aY,q⟩;by_cases O:0<=i
 .have J:i.toNat=j:=by
   rw [Zy O h5]at D;exact Vq D
  exact item_listR pl.isList O (by omega) (by rw[J];simpa using L) B hs
 .have J:(i+(its.toArray.size:Int)).toNat=j:=by
   rw [vV (by omega) h4]at D;rw[Vs,<-hl];exact Vq D
  exact xN (x:=w) pl.isList.typeIs xO.lookup
   (wpAny_getItem_list_neg (Q:=λr s'=>r=w/\EP X π σ Q r s') pl.isList (by omega) (by rw[Vs]<;>omega) (by omega) (by rw[J];simpa using L) ⟨rfl,B⟩) hs
def Abt:FD X (Qk X.K):=by
 intro value slice π s σ H x y v u Q I D J h hs;replace h:=DW h;obtain⟨p,xs,i,z,rfl,rfl,hq,L,q⟩:=h
 cases D;obtain⟨t,rfl⟩:=J;obtain⟨its,r,pl,hz⟩:=AG<|I.tuple hq;obtain⟨j,O,V,h3,h4,h5⟩:=AG<|KC L;obtain⟨w,Y,aY⟩:=Au<|r.get V;have hl:=r.length;have hn:=Gx;have B:EP X π σ Q w s:=⟨z,H,I,aY,q⟩;exact xN (x:=w) pl.typeIs slot_tuple_getitem.lookup
  (getItem_tuple (j:=j) (Q:=λr s'=>r=w/\EP X π σ Q r s') pl (by omega) (by omega) (by rwa[Vs,<-hl]) (by simpa using Y) ⟨rfl,B⟩) hs
def Abu:FD X Ql:=by
 intro value slice π s σ H x y v u Q I D J h hs;replace h:=Gk h;obtain⟨z,i,c,rfl,rfl,hz,L,q⟩:=h
 obtain⟨t,rfl⟩:=D;obtain⟨t',rfl⟩:=J;obtain⟨j,B,O,h3,V,Y⟩:=AG<|KC L;have hl:z.cps.toList.length=z.length:=by simp[XJ]
 rw [hl]at B V Y;have hn:=Gx;exact tail_any (ZA s z t) slot_str_getitem.lookup (getItem_str (c:=c) (by
  have e1:decide (i < -(2 ^ 63:Int))=false:=cN (by omega);have e2:decide (i ≥ 2 ^ 63)=false:=cN (by omega);rw[e1,e2,Bool.or_false]) (by rw[B];simpa using O) ⟨.str ⟨#[c]⟩,H,I.tok _,(⟨_,rfl⟩),q⟩) hs
def Qm(K:UT):R2:=λx y H Q=>Qj K x y H Q\/Qk K x y H Q\/Ql x y H Q
def AO:FD X (Qm X.K):=Abs.or<|Abt.or Abu
def Abv(its:List af)(n j:Nat)(u:af):V9 (·.setIfInBounds j u) { cls:=.type "list",data:=.seq its.toArray n }={ cls:=.type "list",data:=.seq (its.set j u).toArray n }:=by simp[V9]
def Ac.lst{π:List (ar×Obj)}{σ:St}{H:Hp}{s:US}{p:ar}{xs:List V}(I:Ac X π σ H s)(h:H p=some (.lst xs)) :
  ∃(its:List af)(n:Nat),AA xs its/\s.heap.get? p=some { cls:=.type "list",data:=.seq its.toArray n }/\xs.length<=sizeLine:=by
 obtain⟨z,its,n,r,e⟩:=I.ah p _ h;exact⟨its,n,r,e,z⟩
def Ac.aak{π:List (ar×Obj)}{σ:St}{H:Hp}{s:US}{p:ar}{xs ys:List V}{its its':List af}{n B:Nat}{f:Obj->Obj}(I:Ac X π σ H s)(h:H p=some (.lst xs))(J:s.heap.get? p=some { cls:=.type "list",data:=.seq its.toArray n })(D:f { cls:=.type "list",data:=.seq its.toArray n }={ cls:=.type "list",data:=.seq its'.toArray B })(r:AA ys its')(L:ys.length<=sizeLine)(t:Nat) :
  Ac X π σ (upd H p<|.lst ys) { s with heap:=s.heap.update p f,toks:=t }:=by
 have e:(s.heap.update p f).get? p=some { cls:=.type "list",data:=.seq its'.toArray B }:=by rw[vW f J (by rw[D]<;>rfl),D]
 refine I.write (x:=p) (e:=p) (by rw[h];trivial) (.inl rfl) (λb u hb q=>(xP _ _<|Vy hb).trans q) ⟨_,e⟩ ?_;exact⟨L,its',B,r,e⟩
def Abw:V->V->V->Hp->(Hp->Prop)->Prop:=λo i v H Q=>∃p xs k j,o=.ref p/\i=.int k/\H p=some (.lst xs)/\CY xs.length k=some j/\Q (upd H p (.lst (xs.set j v)))
def D0:Ml X Abw:=by
 intro π s σ H o i v ov iv u Q I ro ri rv h;replace h:=DW h;obtain⟨p,xs,k,j,rfl,rfl,L,hj,q⟩:=h
 cases ro;obtain⟨t,rfl⟩:=ri;obtain⟨its,n,r,D,hz⟩:=BB<|I.lst L;obtain⟨B,h2,O,V⟩:=AU<|Qh hj;have J:=r.length;have hn:=Gx;have Y:Ac X π σ (upd H p<|.lst (xs.set j v)) { s with heap:=s.heap.update p (V9 (·.setIfInBounds j u)) } :=
  I.aak L D (Abv its n j u) (r.set rv j) (by rwa[Vm]) s.toks
 by_cases h0:0<=k
 .have hk:k.toNat=j:=by
   rw [Zy h0 V]at B;exact Vq B
  exact PySem.W.ki_setAt D h0 (by omega) (by rwa[Vs,<-J])<|by rw[hk];exact⟨_,Y,q⟩
 .have hk:(k+(its.toArray.size:Int)).toNat=j:=by
   rw [vV (by omega) O]at B;rw[Vs,<-J];exact Vq B
  exact PySem.W.ki_setBack D (by omega) (by rwa[Vs,<-J]) (by omega)<|by rw[hk];exact⟨_,Y,q⟩
def Abx(lo B:Option Int)(n:Nat):(Yj lo B none n).1=((HT.aJ n 0 lo:Nat):Int)/\(Yj lo B none n).2.1=((HT.aJ n n B:Nat):Int)/\(Yj lo B none n).2.2=1:=by
 refine⟨?_,?_,rfl⟩
 .cases lo with
  |none=>simp[Yj,HT.aJ]
  |some i =>
   simp only[Yj,HT.aJ,vX,show(1:Int) > 0 by decide,if_true];by_cases h:i<0
   .simp only[h,if_true]<;>omega
   .simp only[h,if_false]<;>omega
 .cases B with
  |none=>simp[Yj,HT.aJ]
  |some i =>
   simp only[Yj,HT.aJ,vX,show(1:Int) > 0 by decide,if_true];by_cases h:i<0
   .simp only[h,if_true]<;>omega
   .simp only[h,if_false]<;>omega
def Aby(its:List af)(lo B:Option Int):slicePick its.toArray lo B none=((its.drop<|HT.aJ its.length 0 lo).take<|HT.aJ its.length its.length B-HT.aJ its.length 0 lo).toArray:=by obtain⟨D,H,I⟩:=AU<|Abx lo B its.toArray.size;unfold slicePick;rw[D,H,I];simp only[sliceRange_one,pick_run,Vs]<;>rfl
def Mt(K:UT):V->Option Int->Option Int->Hp->VK->Prop:=λx lo hi H Q=>∃a xs,x=.ref a/\A2 K H a xs/\∀p,H p=none->Q (.ref p) (upd H p (.lst (G6 xs lo hi)))
def Abz:F0 X (Mt X.K):=by
 intro π s σ H x v vl Y lo D sl Q I L hs pl O h;replace h:=BB h;obtain⟨a,xs,rfl,hx,q⟩:=h
 cases L;obtain⟨its,r,J,V⟩:=AG<|I.list hx;have B:=r.length;refine⟨"list",_,xO.lookup,J.isList.typeIs,?_⟩;refine wpAny_getItem_list_slice J.isList hs pl O .none `B ?_ (by rw[Vs]<;>omega);rw[Aby,<-B];refine⟨.ref s.heap.objs.size,_,I.laid (t':=s.toks) (o:=.lst<|G6 xs lo D) (λb ob q=>Vp _ q) (Vb _) ?_,rfl,q _<|I.ah.fresh (Vb _)⟩;exact⟨V7 (Abq xs lo D) V,_,0,(r.drop<|HT.aJ xs.length 0 lo).take<|HT.aJ xs.length xs.length D-HT.aJ xs.length 0 lo,VO _ rfl⟩
noncomputable def D1:V->Bool
 |.aa=>true
 |.bl _=>true
 |.int _=>true
 |.str _=>true
 |_=>false
noncomputable def D3:V->V->Bool
 |.aa,.aa=>true
 |.bl a,.bl b=>a == b
 |.bl a,.int b=>(if a then 1 else 0) == b
 |.int a,.bl b=>a == (if b then 1 else 0)
 |.int a,.int b=>a == b
 |.str a,.str b=>a == b
 |_,_=>false
def AbA (H:AH y u)(B:AH x v)(J:D1 y=true)(I:D1 x=true):SeqAt.EqAt A s u v (D3 y x):=by
 cases y with
 |aa =>
  cases H;cases x with
  |aa=>cases B;exact SeqAt.EqAt.same _
  |bl b=>cases B;exact SeqAt.EqAt.none_bool b
  |int b=>obtain⟨t,rfl⟩:=B;exact SeqAt.EqAt.none_int b t
  |str b=>obtain⟨t,rfl⟩:=B;exact SeqAt.EqAt.none_str b t
  |_=>exact absurd (show false=true from I) VG
 |bl a =>
  cases H;cases x with
  |aa=>cases B;exact SeqAt.EqAt.bool_none a
  |bl b=>cases B;exact SeqAt.EqAt.bool_bool a b
  |int b=>obtain⟨t,rfl⟩:=B;exact SeqAt.EqAt.bool_int a b t
  |str b=>obtain⟨t,rfl⟩:=B;exact SeqAt.EqAt.bool_str a b t
  |_=>exact absurd (show false=true from I) VG
 |int a =>
  obtain⟨D,rfl⟩:=H;cases x with
  |aa=>cases B;exact SeqAt.EqAt.int_none a D
  |bl b=>cases B;exact SeqAt.EqAt.int_bool a D b
  |int b=>obtain⟨t,rfl⟩:=B;exact SeqAt.EqAt.int_int a D b t
  |str b=>obtain⟨t,rfl⟩:=B;exact xn a D b t
  |_=>exact absurd (show false=true from I) VG
 |str a =>
  obtain⟨D,rfl⟩:=H;cases x with
  |aa=>cases B;exact SeqAt.EqAt.str_none a D
  |bl b=>cases B;exact SeqAt.EqAt.str_bool a D b
  |int b=>obtain⟨t,rfl⟩:=B;exact xo a D b t
  |str b=>obtain⟨t,rfl⟩:=B;exact SeqAt.EqAt.str_str a D b t
  |_=>exact absurd (show false=true from I) VG
 |_=>exact absurd (show false=true from J) VG
noncomputable def DK(x:V)(u:af):Bool:=match u with
 |.none=>D3 .aa x
 |.bool b=>D3 (.bl b) x
 |.int i _=>D3 (.int i) x
 |.str z _=>D3 (.str z) x
 |_=>false
def KD (r:AH y u)(f:D1 y=true):DK x u=D3 y x:=by
 cases y with
 |aa=>cases r;rfl
 |bl b=>cases r;rfl
 |int i=>obtain⟨t,rfl⟩:=r;rfl
 |str z=>obtain⟨t,rfl⟩:=r;rfl
 |_=>exact absurd (show false=true from f) VG
theorem Jn:∀{xs:List V}{us:List af},AA xs us->xs.all D1=true->us.any (DK x)=xs.any λy=>D3 y x
 |_,_,.nil,_=>rfl
 |y::xs,u::us,.cons r t,f=>by
  rw [List.all_cons,WC]at f;rw[Y0,Y0,KD r f.1,Jn t f.2]
theorem Ib (B:AH x v)(D:D1 x=true):∀{xs:List V}{us:List af},AA xs us->xs.all D1=true->∀u∈us,SeqAt.EqAt A s u v (DK x u)
 |_,_,.nil,_=>λu hu=>by cases hu
 |y::xs,u::us,.cons r t,f=>λH hu=>by
  rw [List.all_cons,WC]at f;rcases Vc.mp hu with rfl|hu
  .rw[KD r f.1];exact AbA r B f.1 D
  .exact Ib B D t f.2 H hu
def FE(x:V)(xs:List V):Bool:=xs.any λy=>D3 y x
def Ic(K:UT)(neg:Bool):R2:=λx y H Q=>∃p xs,y=.ref p/\(A2 K H p xs\/Bn K H p xs)/\D1 x=true/\xs.all D1=true/\Q (.bl (if neg then !FE x xs else FE x xs)) H
def AbB:Bc X (VE .In) (Ic X.K false):=by
 intro π s σ H x y v u Q I B J h;replace h:=IU h;obtain⟨p,xs,rfl,hq,D,fs,q⟩:=h
 cases J;rcases hq with hq|hq
 .obtain ⟨its,r,pl,L⟩:=AG<|I.list hq;refine SeqAt.in_listAt (DK x) pl.isList (λw hw=>Ib B D r fs w<|by simpa using hw) ⟨.bl _,H,I,rfl,?_⟩;rwa[show its.toArray.any (DK x)=its.any (DK x) by simp,Jn r fs]
 .obtain ⟨its,r,pl,L⟩:=AG<|I.tuple hq;refine SeqAt.in_tupleAt (DK x) pl (λw hw=>Ib B D r fs w<|by simpa using hw) ⟨.bl _,H,I,rfl,?_⟩;rwa[show its.toArray.any (DK x)=its.any (DK x) by simp,Jn r fs]
def AbC:Bc X (VE .NotIn) (Ic X.K true):=by
 intro π s σ H x y v u Q I B J h;replace h:=IU h;obtain⟨p,xs,rfl,hq,D,fs,q⟩:=h
 cases J;rcases hq with hq|hq
 .obtain ⟨its,r,pl,L⟩:=AG<|I.list hq;refine SeqAt.notIn_listAt (DK x) pl.isList (λw hw=>Ib B D r fs w<|by simpa using hw) ⟨.bl _,H,I,rfl,?_⟩;rwa[show its.toArray.any (DK x)=its.any (DK x) by simp,Jn r fs]
 .obtain ⟨its,r,pl,L⟩:=AG<|I.tuple hq;refine SeqAt.notIn_tupleAt (DK x) pl (λw hw=>Ib B D r fs w<|by simpa using hw) ⟨.bl _,H,I,rfl,?_⟩;rwa[show its.toArray.any (DK x)=its.any (DK x) by simp,Jn r fs]
def AbD:Bc X (VE .NotIn) (λx y H Q=>∃i j,x=.str i/\y=.str j/\Q (.bl<|!(!(vJ j i 0 j.length 1).isEmpty)) H):=by
 intro π s σ H x y v u Q I B D h;replace h:=BB h;obtain⟨i,j,rfl,rfl,q⟩:=h
 obtain⟨t,rfl⟩:=B;obtain⟨J,rfl⟩:=D;exact notIn_str ⟨.bl _,H,I,rfl,q⟩
def AbE:BX X (.builtin "len") (λxs H Q=>∃p ys,xs=[.ref p]/\(A2 X.K H p ys\/Bn X.K H p ys)/\Q (.int ys.length) H):=by
 show 2;replace h:=BB h;obtain⟨p,ys,rfl,hq,q⟩:=h
 obtain⟨u,rfl,J⟩:=Au<|DA r;cases J;have O:=Gx;rcases hq with hq|hq
 .obtain ⟨its,D,pl,L⟩:=AG<|I.list hq;have B:=D.length;exact Calls.call_len_list pl.isList (by simp only[Vs]<;>omega) ⟨.int ys.length,H,I.tok _,⟨s.toks+1,by rw[Vs,B]⟩,q⟩
 .obtain ⟨its,D,pl,L⟩:=AG<|I.tuple hq;have B:=D.length;exact len_tuple pl (by simp only[Vs]<;>omega) ⟨.int ys.length,H,I.tok _,⟨s.toks+1,by rw[Vs,B]⟩,q⟩
def AbF:BX X (.builtin "len") (λxs H Q=>∃z,xs=[.str z]/\z.length<=sizeLine/\Q (.int z.length) H):=by
 show 2;replace h:=AG h;obtain⟨z,rfl,B,q⟩:=h
 obtain⟨u,rfl,t,rfl⟩:=Au<|DA r;have D:=Gx;exact len_str (by omega) ⟨.int z.length,H,I.tok _,⟨_,rfl⟩,q⟩
def BX.or (h:BX X f r)(h':BX X f B):BX X f (λxs H Q=>r xs H Q\/B xs H Q):=by
 intro π s σ H xs us Q I D q;rcases q with q|q
 .exact h π s σ H xs us Q I D q
 .exact h' π s σ H xs us Q I D q
def AbG:BX X (.type "list") (λxs H Q=>∃p ys,xs=[.ref p]/\(A2 X.K H p ys\/Bn X.K H p ys)/\∀l,H l=none->Q (.ref l) (upd H l<|.lst ys)):=by
 show 2;replace h:=BB h;obtain⟨p,ys,rfl,hq,q⟩:=h
 obtain⟨u,rfl,rx⟩:=Au<|DA r;cases rx;have L:∀(its:List af),AA ys its->ys.length<=sizeLine->∀(B:Heap)(D:Nat),(∀b o',s.heap.get? b=some o'->B.get? b=some o') ->
   B.get? s.heap.objs.size=some { cls:=.type "list",dict:=none,data:=.seq its.toArray D,slots:=#[] }->EP X π σ Q (.ref s.heap.objs.size) { s with heap:=B }:=λits J O B D V e =>
  ⟨.ref s.heap.objs.size,_,I.laid (t':=s.toks) V (Vb _) (show Bv X.prog X.w _ B _ (.lst ys) from⟨O,its,D,J,e⟩),rfl,q _<|I.ah.fresh (Vb _)⟩
 rcases hq with hq|hq
 .obtain ⟨its,J,pl,O⟩:=AG<|I.list hq;have Y:=J.length;obtain⟨o,ho,hc,n,hd⟩:=AG pl.isList;exact call_list_seq p (.inl rfl) ho hc hd (λB D V e=>L its J O B D V e)<|by simp only[Vs]<;>omega
 .obtain ⟨its,J,pl,O⟩:=AG<|I.tuple hq;have Y:=J.length;obtain⟨o,ho,hc,n,hd⟩:=AG pl;exact call_list_seq p (.inr rfl) ho hc hd (λB D V e=>L its J O B D V e)<|by simp only[Vs]<;>omega
def KG:BX X (.type "tuple") (λxs H Q=>∃p ys,xs=[.ref p]/\((A2 X.K H p ys/\∀l,H l=none->Q (.ref l) (upd H l<|.tup ys))\/(Bn X.K H p ys/\Q (.ref p) H))):=by
 show 2;replace h:=Bz h;obtain⟨p,ys,rfl,h⟩:=h
 obtain⟨u,rfl,V⟩:=Au<|DA r;cases V;rcases h with ⟨hq,q⟩|⟨hq,q⟩
 .obtain ⟨its,D,pl,J⟩:=AG<|I.list hq;have L:=D.length;refine call_tuple_list pl.isList (λB Y=>?_) (by simp only[Vs]<;>omega);have O:Ac X π σ H { s with heap:=B }:=I.kept (t':=s.toks) Y;have I2:Ac X π σ (upd H B.objs.size<|.tup ys) { s with heap:=B.push { cls:=.type "tuple",data:=.seq its.toArray } } :=
   O.laid (t':=s.toks) (λb o e=>Vp _ e) (Vb _) (show Bv X.prog X.w _ _ _ (.tup ys) from⟨J,its,D,IsTup.new _ _⟩)
  exact⟨.ref B.objs.size,_,I2,rfl,q _<|O.ah.fresh (Vb _)⟩
 .obtain ⟨its,D,pl,J⟩:=AG<|I.tuple hq;exact call_tuple_same pl ⟨.ref p,H,I,rfl,q⟩
def Qn(K:UT)(T:String)(x:V)(H:Hp):Prop:=match x with
 |.str _=>T="str"
 |.int _=>T="int"
 |.ref p=>(T="list"/\∃xs,A2 K H p xs)\/(T="tuple"/\∃o,K.lookup p=some o/\o.cls=.type "tuple"/\o.dict=none) \/
   (T="dict"/\((∃kvs,H p=some (.dK kvs))\/∃kvs,H p=some (.dT kvs)))\/(T="set"/\∃S n,H p=some (.set S n))
 |_=>False
def AbH{π:List (ar×Obj)}{σ:St}{H:Hp}{s:US}{T:String}{x:V}{v:af}(I:Ac X π σ H s)(r:AH x v)(ty:Qn X.K T x H) :
  s.TypeIs v T/\∀a,v=.ref a->∃J,s.heap.get? a=some J/\J.dict=none:=by
 cases x with
 |str z =>
  obtain⟨t,rfl⟩:=r;cases(show T="str" from ty);exact⟨ZA s z t,λ_ e=>(nomatch e)⟩
 |int i =>
  obtain⟨t,rfl⟩:=r;cases(show T="int" from ty);exact⟨vY s i t,λ_ e=>(nomatch e)⟩
 |ref p =>
  cases r;rcases ty with ⟨rfl,xs,hq⟩|⟨rfl,o,hk,hc,hd⟩|⟨rfl,hk⟩|⟨rfl,S,n,hk⟩
  .obtain ⟨its,_,pl,_⟩:=AG<|I.list hq;refine⟨pl.isList.typeIs,λa e=>?_⟩;cases e;obtain⟨o,n,e,c,hd,_⟩:=BB pl;exact⟨o,e,hd⟩
  .refine ⟨⟨o,I.aH p o hk,hc⟩,λa e=>?_⟩;cases e;exact⟨o,I.aH _ o hk,hd⟩
  .have z:∃o,s.heap.get? p=some o/\o.ExactDict:=by
    rcases hk with ⟨B,hk⟩|⟨B,hk⟩
    .obtain ⟨_,_,_,_,o,_,_,e,ex,_⟩:=AU<|I.ah p _ hk;exact⟨o,e,ex⟩
    .obtain ⟨_,_,_,_,o,_,_,e,ex,_⟩:=AU<|I.ah p _ hk;exact⟨o,e,ex⟩
   obtain⟨o,e,ex⟩:=Au z;refine⟨⟨o,e,ex.1⟩,λa D=>?_⟩;cases D;exact⟨o,e,ex.2.1⟩
  .obtain ⟨o,_,_,_,e,ex,_⟩:=DW<|I.ah p _ hk;refine⟨⟨o,e,ex.1⟩,λa D=>?_⟩;cases D;exact⟨o,e,ex.2.1⟩
 |_=>exact Wx ty
def tBM(K:UT)(T:String)(r:V->List V->Hp->VK->Prop)(to:TE)(t:TA):TE:=λσ H Q=>to σ H λx H1=>Qn K T x H1/\t σ H1 λxs H2=>r x xs H2 Q
variable {o e:UX}{es:List UX}{to:TE}{t:TA}{name:aU}{apos aW:Pos}{T id:String}{r:V->List V->Hp->VK->Prop}
def Ci(pa:PlainAttrs T)(slot:Slot T name id)(B:typeOf (.builtin id)=pure (.type "method_descriptor"))(hm:Qi X id r)(ho:PE X o to)(ha:PA X (e::es) t)(D:YX o name X.env (U9 o X.env)=U9 o X.env:=by rfl)(J:((Vu aW<|U8 (e::es) X.env).all (λx=>!x.1) && (WV aW<|WW [] X.env).all (λx=>x.1.isSome)
   && decide ((e::es).length+([]:List Yh).length+(if ([]:List Yh).isEmpty then 0 else 1)<30))=true:=by rfl)(L:(apos.endLine == aW.line)=true:=by rfl)(hs:U8 (e::es) X.env=(false,U9 e X.env)::U8 es X.env:=by rfl)(O:(Vu aW<|U8 es X.env).any (·.1)=false:=by rfl) :
  PE X (.Call (.Attribute o name apos) (e::es) [] aW) (tBM X.K T r to t):=by
 show 0;refine wpAny_Call_method_late D J L rfl<|As (ho π s σ H _ I h) λv s1 Y=>FV Y λx H1 I1 r1 ty q1=>?_;obtain⟨h1,h2⟩:=AbH I1 r1 ty;refine⟨T,id,pa,slot,B,h1,h2,?_⟩;have hA:=ha aW π s1 σ H1 _ I1 q1;rw[hs]at hA ⊢;refine xQ (by show(false || (Vu aW<|U8 es X.env).any (·.1))=false;rw[O]<;>rfl)<|vZ ?_;exact As hA λus s2 Y=>AF Y λvs H2 I2 r2 q2=>hm π s2 σ H2 x vs v us Q I2 r1 r2 q2
end
def Jo(X:Cx)(id:String)(r:V->List V->Hp->VK->Prop):Prop :=
 ∀(π:List (ar×Obj))(s:US)(σ:St)(H:Hp)(x:V)(xs:List V)(v:af)(us:List af)(Q:VK),Ac X π σ H s->AH x v->AA xs us->r x xs H Q ->
  UY (U1 X.prog X.w) X.A (call (.builtin id) (v::us)) (EP X π σ Q) X.xe s
def AA.one (h:AA [x] us):∃u,us=[u]/\AH x u:=DA h
def AA.two (h:AA [x,y] us):∃u v,us=[u,v]/\AH x u/\AH y v:=Mr h
theorem AA.eraseIdx:∀{xs:List V}{us:List af}(i:Nat),AA xs us->AA (xs.eraseIdx i) (us.eraseIdx i)
 |_,_,_,.nil=>.nil
 |_,_,0,.cons _ t=>t
 |_,_,i+1,.cons r t=>.cons r (AA.eraseIdx i t)
theorem AA.rep (h:AA xs us):∀k:Nat,AA (U5 k xs).flatten (U5 k us).flatten
 |0=>.nil
 |k+1=>by
  rw [XM,XM,YF,YF];exact AA.append h (AA.rep h k)
theorem Qo{α:Type}:∀(l:List α)(i:Nat),(l.eraseIdx i).length<=l.length
 |[],_=>Vb _
 |_::_,0=>Wu _
 |_::r,i+1=>ZC (Qo r i)
theorem Qp(its:List af):∀(k:Nat)(B:List af),
  v8 (λD x2=>D++x2) B.toArray (U5 k its.toArray)=(B++(U5 k its).flatten).toArray
 |0,B=>by simp
 |k+1,B=>by
  have e:B.toArray++its.toArray=(B++its).toArray:=by simp
  have H:(B++its)++(U5 k its).flatten=B++(U5 (k+1) its).flatten:=by rw[XM,YF,Vj]
  rw [<-H,<-Qp its k (B++its),<-e,XM,xR]
section
variable {X:Cx}{π:List (ar×Obj)}{σ:St}{H:Hp}{s:US}{l b:ar}{xs ys zs:List V}
def Ac.jc{its its':List af}{n:Nat}{f:Array af->Array af}{t':Nat}(I:Ac X π σ H s)(B:H l=some (.lst xs))(e:s.heap.get? l=some { cls:=.type "list",data:=.seq its.toArray n })(D:f its.toArray=its'.toArray)(hv:AA ys its')(J:ys.length<=sizeLine) :
  Ac X π σ (upd H l<|.lst ys) { s with heap:=s.heap.update l<|V9 f,toks:=t' }:=by
 have q:=PySem.IsL.update e f;rw[D]at q;refine I.write (x:=l) (e:=l) (by rw[B];exact trivial) (.inl rfl) (λL u hb hu=>(xP s.heap (V9 f)<|Vy hb).trans hu) ⟨_,q⟩ ?_;exact⟨J,its',_,hv,q⟩
def Ac.mU (I:Ac X π σ H s)(hv:AA ys its)(B:ys.length<=sizeLine):
  Ac X π σ (upd H s.heap.objs.size<|.lst ys) { s with heap:=s.heap.push { cls:=.type "list",data:=.seq its.toArray },toks:=t' } :=
 I.laid (λ_ _ q=>Vp _ q) (Vb _) ⟨B,its,0,hv,VO _ rfl⟩
def Ac.fresh(I:Ac X π σ H s):H s.heap.objs.size=none:=I.ah.fresh<|Vb _
def Ac.dH(I:Ac X π σ H s)(B:H l=some (.lst xs)):xs.length<=sizeLine/\∃(its:List af)(n:Nat),AA xs its/\xs.length=its.length/\s.heap.get? l=some { cls:=.type "list",data:=.seq its.toArray n }:=by obtain⟨z,its,n,r,e⟩:=I.ah l _ B;exact⟨z,its,n,r,r.length,e⟩
def Qq (h:n<=sizeLine):ZD n=false:=by unfold ZD;exact cN<|(by omega)
end
section
variable {X:Cx}
def AbI:V->List V->Hp->VK->Prop:=λx vs H Q=>∃l xs y,x=.ref l/\vs=[y]/\H l=some (.lst xs)/\xs.length<sizeLine/\Q .aa (upd H l (.lst (xs++[y])))
def Dl:Jo X "list.append" AbI:=by
 intro π s σ H x vs v us Q I D J h;replace h:=Gk h;obtain⟨l,xs,y,rfl,rfl,B,O,q⟩:=h
 cases D;obtain⟨u,rfl,L⟩:=Au J.one;obtain⟨z,its,n,r,V,e⟩:=I.dH B;refine XN F.slot_list_append ⟨_,e,rfl⟩ F.entry_list_append (F.args_list_append_2 _ _) (PySem.list_append l its.toArray n u<|by rw[Vs];omega) ⟨e,?_⟩;refine⟨.aa,_,I.jc (its':=its++[u]) B e `B (r.append<|.cons L .nil) ?_,rfl,q⟩;rw[VA,Wa];omega
def AbJ:V->List V->Hp->VK->Prop:=λx vs H Q=>∃l b xs zs,x=.ref l/\vs=[.ref b]/\H l=some (.lst xs)/\H b=some (.lst zs)/\xs.length+zs.length<=sizeLine/\Q .aa (upd H l (.lst (xs++zs)))
def Qr:Jo X "list.extend" AbJ:=by
 intro π s σ H x vs v us Q I J L h;replace h:=HV h;obtain⟨l,b,xs,zs,rfl,rfl,D,O,hz,q⟩:=h
 cases J;obtain⟨u,rfl,V⟩:=Au L.one;cases V;obtain⟨z,its,n,r,hl,e⟩:=I.dH D;obtain⟨z2,gp,Y,r2,bZ,e2⟩:=I.dH O;have B:its.toArray.size+gp.toArray.size<=sizeLine:=by rw[Vs,Vs];omega
 have gX:¬(!its.toArray.isEmpty && ZD (its.toArray.size+gp.toArray.size))=true:=by rw[Qq B,xS];exact VG
 refine XN F.slot_list_extend ⟨_,e,rfl⟩ F.entry_list_extend (F.args_list_extend_2 _ _)
  (AutoSeq1.list_extend_list_list_0 l its.toArray n b gp.toArray Y gX (by rw[Vs];omega)<|(by omega)) ⟨e,e2,?_⟩
 refine⟨.aa,_,I.jc (its':=its++gp) D e `B (r.append r2) ?_,rfl,q⟩;rw[VA];omega
def AbK:V->List V->Hp->VK->Prop:=λx vs H Q=>∃l xs i k y,x=.ref l/\vs=[.int i]/\H l=some (.lst xs)/\-(2 ^ 63)<=i/\i<2 ^ 63/\YE i xs.length=some k/\xs[k]?=some y/\Q y (upd H l (.lst (xs.eraseIdx k)))
def Qs:Jo X "list.pop" AbK:=by
 intro π s σ H x vs v us Q I D J h;replace h:=IV h;obtain⟨l,xs,i,k,y,rfl,rfl,B,L,O,hk,hy,q⟩:=h
 cases D;obtain⟨u,rfl,V⟩:=Au J.one;obtain⟨t,rfl⟩:=V;obtain⟨z,its,n,r,Y,e⟩:=I.dH B;obtain⟨w,hw,aY⟩:=Au<|r.get hy;refine XN F.slot_list_pop ⟨_,e,rfl⟩ F.entry_list_pop (F.args_list_pop_2 _ _)
  (MeetsSeq.list_pop_at l its.toArray n i t k w (xT L O) (by rwa[Vs,<-Y]) (by rwa[<-ZE])<|by rw[Vs];omega) ⟨e,?_⟩
 refine⟨y,_,I.jc (its':=its.eraseIdx k) B e ?_ (r.eraseIdx k) ?_,aY,q⟩
 .show its.toArray.eraseIdxIfInBounds k=(its.eraseIdx k).toArray;rw[v9]
 .have:=Qo xs k;omega
def Qt:R2:=λx y H Q=>∃l b xs zs,x=.ref l/\y=.ref b/\H l=some (.lst xs)/\H b=some (.lst zs)/\xs.length+zs.length<=sizeLine/\∀p,H p=none->Q (.ref p) (upd H p (.lst (xs++zs)))
def AbL:Bc X (Wz .Add) Qt:=by
 intro π s σ H x y v u Q I B D h;replace h:=HV h;obtain⟨l,b,xs,zs,rfl,rfl,J,L,hz,q⟩:=h
 cases B;cases D;obtain⟨z,its,n,r,hl,e⟩:=I.dH J;obtain⟨z2,gp,n2,O,bZ,V⟩:=I.dH L;refine PySem.P.add_list e V ?_ (by rw[Vs,Vs];omega);have Y:its.toArray++gp.toArray=(its++gp).toArray:=(by simp)
 rw [Y];exact⟨.ref _,_,I.mU (t':=s.toks) (r.append O)<|by rw[VA];omega,rfl,q _ I.fresh⟩
def Qu:R2:=λx y H Q=>∃l k xs,x=.ref l/\y=.int k/\H l=some (.lst xs)/\-(2 ^ 63)<=k/\k<2 ^ 63/\xs.length*k.toNat<=sizeLine /\
 ∀p,H p=none->Q (.ref p) (upd H p (.lst (U5 k.toNat xs).flatten))
def AbM{α:Type}(xs:List α)(k:Nat):(U5 k xs).flatten.length=k*xs.length:=by
 induction k with
 |zero=>simp
 |succ k ih=>rw[XM,YF,VA,ih,Nat.succ_mul,Nat.add_comm]
def AbN:Bc X (Wz .Mult) Qu:=by
 intro π s σ H x y v u Q I Y ry h;replace h:=Gk h;obtain⟨l,k,xs,rfl,rfl,hH,h1,h2,V,q⟩:=h
 cases Y;obtain⟨t,rfl⟩:=ry;obtain⟨z,its,n,r,hl,e⟩:=I.dH hH;have B:its.toArray.size*k.toNat<=sizeLine:=by rw[Vs,<-hl];exact V
 have D:¬its.toArray.size*k.toNat > (2 ^ 63-1) / 8:=by
  have:(sizeLine:Nat)<=(2 ^ 63-1) / 8:=(by decide)
  omega
 have J:¬(!Builtin.List.listFitsIndex k)=true:=by rw[xT h1 h2];exact VG
 have gX:¬ZD (its.toArray.size*k.toNat)=true:=by rw[Qq B];exact VG
 have L:v8 (λO x2=>O++x2) #[] (U5 (if its.toArray.isEmpty=true then 0 else k.toNat) its.toArray)=(U5 k.toNat its).flatten.toArray:=by
  have f0:∀m:Nat,v8 (λO x2=>O++x2) #[] (U5 m its.toArray)=(U5 m its).flatten.toArray:=λm=>by
   have:=Qp its m [];rw[ZF]at this;exact this
  rw [f0];cases its with
  |nil=>simp
  |cons a r'=>rw[ck<|(by simp)]
 refine wpAny_binaryOp_repeat_ref (T:="list") (U:="int") `x ⟨_,e,rfl⟩ (λs'=>vY s' k t) noFill_list_mul F.fills_int_mul xU repeat_list F.slot_int_index.lookup
  (XN xU (vY s k t) F.entry_int_rmul (F.args_int_rmul_2 _ _) (int___rmul___int_list k t l its.toArray n)
   ⟨e,rfl,⟨_,e,rfl⟩,XN F.slot_list_mul ⟨_,e,rfl⟩ F.entry_list_mul (F.args_list_mul_2 _ _) (AutoListH.list___mul___list_int_3 l its.toArray n k t J D gX) ⟨e,?_⟩⟩)
 rw [L];exact⟨.ref _,_,I.mU (t':=s.toks) (r.rep k.toNat)<|by rw[AbM,Nat.mul_comm];exact V,rfl,q _ I.fresh⟩
end
section
variable {prog:UZ}{w:UU}{A:Vf}{E:af->US->Prop}{s:US}
set_option maxRecDepth 100000 in
end
section
variable {X:Cx}
end
end L2
namespace Att
open PySem PySem.W PySem.Calls PyProof.Rows
def AbO:∀(ns:List Int)(vs:List af),WellAll P h vs (ns.map WData.int)->Y2 vs ns:=by
 intro ns;induction ns with
 |nil =>
  intro vs w;rw[Yk]at w;cases w;exact .nil
 |cons n ns ih =>
  intro vs w;rw[VP]at w;cases w with
  |cons a b =>
   cases a;exact .cons _ _<|ih _ b
def AbP{l:OpenLaw}{n:Nat}(L:l.most=some n){P:Y1}{h:Heap}{args:List WData}{vals:List af}(J:l.row.toRowW.claim.pre args=true)(O:WellAll P h vals args) :
  ∃a vs ns,vals=[Vo a]/\args=[WData.list<|ns.map WData.int]/\h.get? a=some { cls:=.type "list",data:=.seq vs.toArray }/\Y2 vs ns/\ns.length<=n:=by
 have I:WShape.hasAll [] args [.list .int]=true:=(pre_splitW J).1;have hc:l.pre.holds [] { args:=args }=true:=(pre_splitW J).2;obtain⟨d,r,rfl,V,Y⟩:=hasAllW_cons I;obtain rfl:=hasAllW_nil Y;obtain⟨xs,rfl,h3⟩:=hasW_list V;obtain⟨ns,rfl⟩:=items_int h3;have B:ns.length<=n:=by
  unfold OpenLaw.pre at hc;have D:(WTm.not<|.lt (.lit<|.int (n:Int)) (.len<|.arg 0)).holds [] { args:=[.list<|ns.map .int] }=true:=by have D:=(holds_andW hc).1;rwa[L]at D
  have H:=condW_of D<|w_not (w_lt w_lit<|w_len_list (w_arg rfl));rw[UW]at H;refine Nat.le_of_not_lt λq=>?_;have q':(n:Int)<((ns.length:Nat):Int):=(by omega)
  first
   | (rw[cx q']at H;exact absurd H<|(by decide))
   | (simp at H;omega)
 cases O with
 |cons w1 w2 =>
  cases w2;cases w1 with
  |list ho aA=>exact⟨_,_,ns,rfl,rfl,ho,AbO ns _ aA,B⟩
def AbQ(l:OpenLaw)(args:List WData):l.row.toRowW.claim.post args (.bool true) args=true :=
 postW_of (r:=l.row.toRowW) (X:=(true == true))
  (show WShape.has [] (.bool true) .bool=true by first|rfl|decide|simp[WShape.has,WShape.arms,WShape.armsAll])
  (show(WTm.eq .res<|.lit (.bool true)).value [] { args:=args,res:=some<|.bool true,after:=args }=some (.bool<|true == true)from w_eq_bool (w_res rfl) w_lit) rfl
def aas{l:OpenLaw}{n:Nat}{q:UZ}{B:List aU}{XP:(aU->Option af)->Heap->Prop}{YP:UU->Heap->Prop}{d:DefRec}(hn:l.most=some n)(jd:d.params.defaults=[])(call:∀(w:UU) (s₀ D:US) (mg V:aU->Option af) (fa:ar) (o:Obj) (pm L H:af) (a:ar) (vs:List af) (ns:List Int),
   Ground q B [] XP w s₀ mg V D.heap->YP w D.heap ->
   D.heap.get? fa=some o->o.data=.func (docDef d.name d.params d.body d.scope pm L H)->D.heap.CodeRec L d.name->mg d.name=some (.ref fa) ->
   D.heap.get? a=some { cls:=.type "list",data:=.seq vs.toArray }->Y2 vs ns->ns.length<=n->D.gens=#[] ->
   Wf (U1 l.prog w) Yl (.call (.ref fa) ⟨[.ref a],[]⟩) (λr O=>r=.ok (.ret<|.bool true)/\OldK D.heap O.heap/\O.os=D.os/\Xe O.gens) D) :
  WalkO q B XP YP l.row.toRowW d [] (λf vs=>wa f vs):=by
 intro w s₀ D mg V G Y fa o pm L H dV kV ho hd c6 hD je hg args vals as kB adk hrd mV hlo;obtain rfl:dV=.none:=Dflts.none hD jd;obtain rfl:kV=.none:=Dflts.noKw hD;obtain⟨a,vs,ns,rfl,rfl,mW,I,J⟩:=AbP hn kB mV;refine enter_call<|Yg (call w s₀ D mg V fa o pm L H a vs ns G Y ho (fd_plain hd) c6 je mW I J hg) λr O hq=>?_;obtain⟨rfl,h2,h3,h4⟩:=hq;exact⟨.inl ⟨.bool true,.bool true,[],rfl,λ_=>rfl,.bool true,AbQ l _,λ_=>⟨List.Pairwise.nil,λ_ hm=>(nomatch hm)⟩⟩,h2,h3,h4⟩
section
variable {prog:UZ}{w:UU}{A:Vf}{E:af->US->Prop}{s:US}{K:Frag}
end
end Att
namespace L2
open PySem PySem.Spec PyProof.Rows
theorem Qw:∀{vs:List af}{ns:List Int},Y2 vs ns->AA (ns.map V.int) vs
 |_,_,.nil=>.nil
 |_,_,.cons n t h=>.cons ⟨t,rfl⟩ (Qw h)
def Mu(H:Hp):Prop:=∀b,H b=none\/∃o xs,H b=some (.bT o (.lst xs))
def AbR{P:UZ}{w:UU}{K:UT}{mg mb:aU->Option af}{CX:Cp}{k:Nat}{fa a:ar}{fd:U7}{x:aU}{sp:Sp}{B:US}{vs:List af}{ns:List Int}(KX:K.In B.heap)(fE:B.heap.Ns Xd mg)(hb:B.heap.Ns Zp mb)(hbb:∀x:aU,x≠"__name__"->mb x=VS x)(aat:B.heap.NoLimit)(hg:B.gens=#[])(Y:B.heap.get? a=some { cls:=.type "list",data:=.seq vs.toArray })(hi:Y2 vs ns)(hl:ns.length<=sizeLine)(hr:BE k Yl)(F:∀base:Heap,K.In base->base.Ns Xd mg->Az P w K mg base CX k fa fd [x] sp)(aau:∀(s:US) (u:af),Yf s fd ⟨[u],[]⟩ [(x,u)])(dG:∀H:Hp,Mu H->A2 K H a (ns.map V.int)->sp [.ref a] H (λv _=>v=.bl true) λ_ _ _=>False)(mX:∀H e D,CX [] H B (λ_ _ _=>False) e D->False) :
  Wf (U1 P w) Yl (.call (.ref fa) ⟨[.ref a],[]⟩) (λr D=>r=.ok (.ret<|.bool true)/\OldK B.heap D.heap/\D.os=B.os/\Xe D.gens) B:=by
 have rv:=Qw hi;have aav:=hi.length;have I:∀H:Hp,Mu H->A2 K H a (ns.map V.int)->AY P w H B.heap->(∀b,H b≠none->b=a)->(H a≠none->K.lookup a=none) ->
   Wf (U1 P w) Yl (.call (.ref fa) ⟨[.ref a],[]⟩) (λr D=>r=.ok (.ret<|.bool true)/\OldK B.heap D.heap/\D.os=B.os/\Xe D.gens) B:=by
  intro H hO hS ah hA hK;have rA:∀{b:ar}{o:Obj},B.heap.get? b=some o->H b=none->(FY B.heap H).get? b=some o:=λe n=>Aai e n;have i8:∀{b:ar}{o:Obj}{es:Array Y3}{J:Nat},B.heap.get? b=some o->o.data=.dict es J->H b=none:=λ{b o es J} e d=>by
   cases q:H b with
   |none=>rfl
   |some u =>
    have e':b=a:=hA b (by rw[q];simp);subst e';rw[Y]at e;cases e;have d':Data.seq vs.toArray _=Data.dict es J:=d;cases d'
  have kC:∀{b:ar}{m:aU->Option af},B.heap.Ns b m->(FY B.heap H).Ns b m:=λ{b m} ⟨o,es,J,e,d,r⟩=>⟨o,es,J,rA e<|i8 e d,d,r⟩;have rB:K.In (FY B.heap H):=λb o e=>rA (KX b o e) (by
   cases q:H b with
   |none=>rfl
   |some u =>
    have e':b=a:=hA b (by rw[q];simp);subst e';rw[hK<|by rw[q];simp]at e;cases e)
  have hM:Mod K mg (FY B.heap H):=⟨rB,kC fE,⟨mb,kC hb,hbb⟩,let ⟨mc,h1,h2⟩:=aat;⟨mc,kC h1,h2⟩⟩;have e0:G5 P w K mg (FY B.heap H) Yl [] B H:=⟨rfl,hM,λb o e=>Aaj e,Nat.le_of_eq<|Aah _ _,trivial,λb hb=>absurd (show b∈([]:List ar)from hb)<|(by simp),ah,.of_eq hg⟩;refine Yg ((F _ rB<|kC fE).run Yl [] B H ⟨[.ref a],[]⟩ [.ref a] [.ref a] _ _ hr e0 (aau B<|.ref a) (.cons rfl .nil)<|dG H hO hS) λr D h=>?_;cases r with
  |error e=>exact(mX H e D h).elim
  |ok fl =>
   cases fl with
   |next=>exact Wx h
   |brk=>exact Wx h
   |cont=>exact Wx h
   |ret u =>
    obtain⟨v,H',os,L,un,aaw,r',q⟩:=IU h;have q':v=.bl true:=q;subst q';obtain rfl:u=YO true:=r';refine⟨rfl,OldK.of_keep λb o e=>?_,os,L⟩;cases q:H b with
    |none=>exact un.keep b o e q (by intro z;exact absurd (show b∈([]:List ar)from z)<|(by simp))<|(by simp)
    |some u =>
     rcases hO b with z|⟨ob,xs,z⟩
     .rw[q]at z;cases z
     .have z2:=un.cO b ob _ z;obtain⟨e1,_⟩:=ah b _ z;obtain⟨e2,_⟩:=aaw b _ z2;rw[e]at e1;cases e1;exact e2
 cases hk:K.lookup a with
 |some o =>
  have e:=KX a o hk;rw[Y]at e;cases e;refine I (λ_=>none) (λ_=>.inl rfl) (.inr ⟨_,vs.toArray,_,hk,rfl,rfl,rfl,by rwa[Vs,aav],by simpa using rv⟩) (λb u z=>by have O:(none:Option HO)=some u:=z;cases O) (λb z=>absurd rfl z) λz=>absurd rfl z
 |none =>
  refine I (λb=>if b=a then some (.bT { cls:=.type "list",data:=.seq vs.toArray }<|.lst (ns.map V.int))else none) (λb=>?_) (.inl<|.inr ⟨{ cls:=.type "list",data:=.seq vs.toArray },bf rfl⟩) (λb u z=>?_) (λb z=>?_) λ_=>hk
  .by_cases hb:b=a
   .exact .inr ⟨_,_,bf hb⟩
   .exact .inl (ck hb)
  .by_cases hb:b=a
   .have O:=(bf hb).symm.trans z;cases O;subst hb;exact⟨Y,by rwa[UW],vs,_,rv,Y⟩
   .have O:=(ck hb).symm.trans z;cases O
  .by_cases hb:b=a
   .exact hb
   .exact absurd (ck hb) z
def aax{l:wb}{n k:Nat}{q:UZ}{D:List aU}{XP:(aU->Option af)->Heap->Prop}{O:UU->Heap->Prop}{d:DefRec}{K:Y1->UT}{CX:UU->Cp}{sp:UU->Sp}{x:aU}(hn:l.most=some n)(i7:n<=sizeLine)(jd:d.params.defaults=[])(hr:BE k Yl)(hY:∀(w:UU) (h:Heap),O w h->(K w.params).In h)(F:∀(w:UU) (mg:aU->Option af) (fa:ar) (h:Heap),(K w.params).In h->h.Ns Xd mg->mg d.name=some (.ref fa) ->
   ∃J:U7,(∀(s:US) (u:af),Yf s J ⟨[u],[]⟩ [(x,u)]) /\
    ∀base:Heap,(K w.params).In base->base.Ns Xd mg->Az l.prog w (K w.params) mg base (CX w) k fa J [x] (sp w))(dG:∀(w:UU) (H:Hp) (a:ar) (ns:List Int),ns.length<=n->Mu H->A2 (K w.params) H a (ns.map V.int)->sp w [.ref a] H (λv _=>v=.bl true) λ_ _ _=>False)(mX:∀(w:UU) (H:Hp) (s:US) (e:af) (L:US),CX w [] H s (λ_ _ _=>False) e L->False) :
  PySem.W.WalkO q D XP O l.row.toRowW d [] (λf vs=>wa f vs):=by
 refine Att.aas hn jd λw s₀ s₁ mg mb fa o pm cd doc a vs ns G Y ho hd c6 je mW I B hg=>?_;have KX:=hY w _ Y;obtain⟨J,hb,hF⟩:=Au<|F w mg fa _ KX G.T.g je;exact AbR KX G.T.g G.T.b G.T.builtins G.T.nolimit hg mW I (V7 B i7) hr hF hb (λH hO hS=>dG w H a ns B hO hS) λH e L=>mX w H s₁ e L
noncomputable def Al(s:Stmt)(j:Nat):Stmt:=match s with
 |.ClassDef _ _ _ body _ _ _ _ _ _ _=>body.getD j (.Pass ⟨0,0,0,0⟩)
 |_=>.Pass ⟨0,0,0,0⟩
noncomputable def Gz(s:Stmt):Arguments:=match s with
 |.FunctionDef _ a _ _ _ _ _ _ _ _=>a
 |_=>{ posonlyargs:=[],args:=[],vararg:=none,kwonlyargs:=[],kw_defaults:=[],kwarg:=none,defaults:=[] }
noncomputable def FF(s:Stmt):List Stmt:=match s with
 |.FunctionDef _ _ b _ _ _ _ _ _ _=>b
 |_=>[]
noncomputable def Ab(s:Stmt):Scope:=match s with
 |.FunctionDef _ _ _ _ _ _ sc _ _ _=>sc
 |_=>{ kind:=.function,names:=[],isGenerator:=false,isCoroutine:=false }
abbrev Av:Cp:=λ_ _ _ _ _ _=>False
abbrev E0:XK:=λ_ _ _=>False
def AK:DB Av X E0:=λ_ _ _ _ _ _ _ h=>h.elim
structure AE(K:UT)(x qual:aU)(st:Stmt)(f:ar)(fd:U7):Prop where
 ex:∃(oc:af)(od:Option ar)(kV doc pm:af)(an:Option ar)(ai ct:af)(eK:Array (Option af)),
  fd=Xi x qual (Gz st) (FF st) (Ab st) .none kV doc pm an ai ct/\K.lookup f=some ⟨oc,od,.func fd,eK⟩/\YZ K ai qual=true
 kp:WU K (.ref f)=true
section
variable {P:UZ}{w:UU}{K:UT}{mg:aU->Option af}{base:Heap}
def AE.ok{x B:aU}{st:Stmt}{f:ar}{I:U7}{N ps:List aU}{k:Nat}{sp:Sp}(F:AE K x B st f I)(S:EE N ps (Ab st))(J:∀(D:af) (A:Vf) (outer:List Env) (s:US) (H:Hp) (vs:List V) (Q:VK) (E:XK),BE k (A.deeper<|Xh B (Ab st) s.heap.objs.size f D)->sp vs H Q E ->
   ∃t,Di (DJ Av P w K mg base N B (Ab st) f D A outer s H E).kq (FF st) t/\t { nx:=λ_ L=>Q .aa L,rt:=Q } (start N vs) H)(len:∀vs H Q E,sp vs H Q E->vs.length=ps.length:=by intro _ _ _ _ h;repeat (first|exact congrArg Yi h.1|obtain⟨_,h⟩:=h)):Az P w K mg base Av (k+1) f I ps sp:=by
 obtain⟨oc,od,kV,O,pm,an,D,ct,eK,rfl,lk,Y⟩:=Md F.ex;refine Qg lk Y S len λA outer s H vs Q E hr dG=>?_;obtain⟨t,h,q⟩:=Au<|J D A outer s H vs Q E hr dG;exact⟨t,h.kq,q⟩
def AE.binds{x B:aU}{st:Stmt}{f:ar}{L:U7}{ps:List aU}(F:AE K x B st f L)(h:∀(kV D H:af) (I:Option ar) (J ct:af) (us:List af),us.length=ps.length->bindArgs (Xi x B (Gz st) (FF st) (Ab st) .none kV D H I J ct) ⟨us,[]⟩=pure (ps.zip us)):DI K L ps []:=by obtain⟨O,V,kV,D,H,I,J,ct,Y,rfl,lk,c6⟩:=Md F.ex;exact .all<|h kV D H I J ct
def Qx{x B:aU}{st:Stmt}{f:ar}{L:af}{O I:Option ar}{V:Array (Option af)}{kV D J H ct:af}(l:K.lookup f=some ⟨L,O,.func<|Xi x B (Gz st) (FF st) (Ab st) .none kV D J I H ct,V⟩)(c:YZ K H B=true)(k:WU K (.ref f)=true):AE K x B st f (Xi x B (Gz st) (FF st) (Ab st) .none kV D J I H ct):=⟨⟨L,O,kV,D,J,I,H,ct,V,rfl,l,c⟩,k⟩
end
section
variable {X:Cx}
end
def BQ{A B:Prop}(h:B):if false=true then A else B:=by rwa[ck VG]
def B4{A B:Prop}(h:A):if true=true then A else B:=by rwa[bf rfl]
def GA{c A B:Prop} [Decidable c] (D:c->A) (H:¬c->B):if c then A else B:=by
 by_cases h:c
 .rw[bf h];exact D h
 .rw[ck h];exact H h
def Ah(H H':Hp):Prop:=∀b o,H b=some o->H' b=some o
def Ah.refl(H:Hp):Ah H H:=λ_ _ h=>h
def Ah.trans (a:Ah H B)(b:Ah B D):Ah H D:=λc o h=>b c o<|a c o h
def Ah.free (e:Ah H B)(h:B l=Option.none):H l=Option.none:=by
 cases q:H l with
 |none=>rfl
 |some o =>
  rw [e l o q]at h;cases h
def Ah.seq{K:UT}{H B:Hp}{a:ar}{xs:List V}(e:Ah H B)(h:A2 K H a xs):A2 K B a xs:=by
 rcases h with (h|⟨o,h⟩)|h
 .exact .inl (.inl<|e _ _ h)
 .exact .inl (.inr ⟨o,e _ _ h⟩)
 .exact .inr h
end L2
namespace L2
def Lk(t C:St->Hp->Prop):Prop:=∀σ H,t σ H->C σ H
def Lk.use (h:Lk t C)(p:t σ H):C σ H:=h _ _ p
def Qy (h:∀C:St->Hp->Prop,Lk (t D) C->s { D with nx:=C } σ H):Mj s t D σ H:=h _ λ_ _ z=>z
def Lk.asg (h:Lk t D.nx)(p:t (σ.set i<|some v) H):Gs (tC v) (EV i) D σ H:=h _ _ p
def w1{α:Type u}{β:Type v}{a:β}{f:α->β}{P:α->Prop}{v:α}(e:a=f v)(h:P v):∃v,a=f v/\P v:=⟨v,e,h⟩
def w2{α β γ δ:Type}{x:γ}{y:δ}{f:α->γ}{g:β->δ}{P:α->β->Prop}{i:α}{j:β}(e:x=f i)(B:y=g j)(h:P i j):∃i j,x=f i/\y=g j/\P i j:=⟨i,j,e,B,h⟩
def w3{α β γ:Type}{x:γ}{f:α->β->γ}{P:α->β->Prop}{i:α}{j:β}(e:x=f i j)(h:P i j):∃i j,x=f i j/\P i j:=⟨i,j,e,h⟩
section
open PySem
variable {CX:Cp}{P:UZ}{w:UU}{K:UT}{mg:aU->Option af}{base:Heap}{N:List aU}{qual:aU}{scope:Scope}{f:ar}{cd:af}{A:Vf}{outer:List Env}{s:US}{H:Hp}{E:XK}
end
def Cq{α β γ δ ξ ζ:Type}{x:ξ}{y:ζ}{f:α->β->γ->δ->ξ}{g:α->β->γ->δ->ζ}{P Q R:α->β->γ->δ->Prop} {a b c d} (p:P a b c d) (q:Q a b c d) (r:R a b c d) (e:x=f a b c d:=by rfl) (B:y=g a b c d:=by rfl):∃a b c d,x=f a b c d/\y=g a b c d/\P a b c d/\Q a b c d/\R a b c d:=⟨a,b,c,d,e,B,p,q,r⟩
def D9{α β γ δ ε ξ:Type}{x:ξ}{f:α->β->γ->δ->ε->ξ}{P Q S T R:α->β->γ->δ->ε->Prop} {a b c d i} (p:P a b c d i) (q:Q a b c d i) (s:S a b c d i) (t:T a b c d i) (r:R a b c d i) (e:x=f a b c d i:=by rfl):∃a b c d i,x=f a b c d i/\P a b c d i/\Q a b c d i/\S a b c d i/\T a b c d i/\R a b c d i:=⟨a,b,c,d,i,e,p,q,s,t,r⟩
def EF{α β γ ξ:Type}{x:ξ}{f:α->β->γ->ξ}{P Q R:α->β->γ->Prop} {a b c} (p:P a b c) (q:Q a b c) (r:R a b c) (e:x=f a b c:=by rfl):∃a b c,x=f a b c/\P a b c/\Q a b c/\R a b c:=⟨a,b,c,e,p,q,r⟩
def DL{b:Bool}{A B:Prop}(h:b=true)(a:A):if b=true then A else B:=by rwa[bf h]
def D4{b:Bool}{A B:Prop}(h:b=false)(a:B):if b=true then A else B:=by rwa[h]
def C5{α:Type}{B R:α->Prop} (a) (D:B a) (r:R a):∃a,B a/\R a:=⟨a,D,r⟩
def D5{α:Type}{B D R:α->Prop} (a) (H:B a) (I:D a) (r:R a):∃a,B a/\D a/\R a:=⟨a,H,I,r⟩
def EG{α β:Type}{B R:α->β->Prop} (a b) (D:B a b) (r:R a b):∃a b,B a b/\R a b:=⟨a,b,D,r⟩
def Bb{α β:Type}{B D R:α->β->Prop} (a b) (H:B a b) (I:D a b) (r:R a b):∃a b,B a b/\D a b/\R a b:=⟨a,b,H,I,r⟩
def CN{α β:Type}{B D P3 R:α->β->Prop} (a b) (H:B a b) (I:D a b) (J:P3 a b) (r:R a b):∃a b,B a b/\D a b/\P3 a b/\R a b:=⟨a,b,H,I,J,r⟩
def Eo{α β:Type}{B D P3 H R:α->β->Prop} (a b) (I:B a b) (J:D a b) (L:P3 a b) (O:H a b) (r:R a b):∃a b,B a b/\D a b/\P3 a b/\H a b/\R a b:=⟨a,b,I,J,L,O,r⟩
def BO{α β γ:Type}{B R:α->β->γ->Prop} (a b c) (D:B a b c) (r:R a b c):∃a b c,B a b c/\R a b c:=⟨a,b,c,D,r⟩
def AZ{α β γ:Type}{B D P3 R:α->β->γ->Prop} (a b c) (H:B a b c) (I:D a b c) (J:P3 a b c) (r:R a b c):∃a b c,B a b c/\D a b c/\P3 a b c/\R a b c:=⟨a,b,c,H,I,J,r⟩
def CZ{α β γ:Type}{B D P3 H R:α->β->γ->Prop} (a b c) (I:B a b c) (J:D a b c) (L:P3 a b c) (O:H a b c) (r:R a b c):∃a b c,B a b c/\D a b c/\P3 a b c/\H a b c/\R a b c:=⟨a,b,c,I,J,L,O,r⟩
def Ep{α β γ δ:Type}{B R:α->β->γ->δ->Prop} (a b c d) (D:B a b c d) (r:R a b c d):∃a b c d,B a b c d/\R a b c d:=⟨a,b,c,d,D,r⟩
def Bx{α β γ δ:Type}{B D P3 H R:α->β->γ->δ->Prop} (a b c d) (I:B a b c d) (J:D a b c d) (L:P3 a b c d) (O:H a b c d) (r:R a b c d):∃a b c d,B a b c d/\D a b c d/\P3 a b c d/\H a b c d/\R a b c d:=⟨a,b,c,d,I,J,L,O,r⟩
def Be{α β γ δ:Type}{B D P3 H I R:α->β->γ->δ->Prop} (a b c d) (J:B a b c d) (L:D a b c d) (O:P3 a b c d) (V:H a b c d) (Y:I a b c d) (r:R a b c d):∃a b c d,B a b c d/\D a b c d/\P3 a b c d/\H a b c d/\I a b c d/\R a b c d:=⟨a,b,c,d,J,L,O,V,Y,r⟩
def Dv{α β γ δ ε:Type}{B R:α->β->γ->δ->ε->Prop} (a b c d e) (D:B a b c d e) (r:R a b c d e):∃a b c d e,B a b c d e/\R a b c d e:=⟨a,b,c,d,e,D,r⟩
def AL{α β γ δ ε:Type}{B D P3 H I R:α->β->γ->δ->ε->Prop} (a b c d e) (J:B a b c d e) (L:D a b c d e) (O:P3 a b c d e) (V:H a b c d e) (Y:I a b c d e) (r:R a b c d e):∃a b c d e,B a b c d e/\D a b c d e/\P3 a b c d e/\H a b c d e/\I a b c d e/\R a b c d e:=⟨a,b,c,d,e,J,L,O,V,Y,r⟩
def EH{α β γ δ ε ζ:Type}{B R:α->β->γ->δ->ε->ζ->Prop} (a b c d e f) (D:B a b c d e f) (r:R a b c d e f):∃a b c d e f,B a b c d e f/\R a b c d e f:=⟨a,b,c,d,e,f,D,r⟩
def FG{α β γ δ ε ζ η:Type}{B R:α->β->γ->δ->ε->ζ->η->Prop} (a b c d e f g) (D:B a b c d e f g) (r:R a b c d e f g):∃a b c d e f g,B a b c d e f g/\R a b c d e f g:=⟨a,b,c,d,e,f,g,D,r⟩
def EX{α β γ δ ε ζ η θ:Type}{B R:α->β->γ->δ->ε->ζ->η->θ->Prop} (a b c d e f g h) (D:B a b c d e f g h) (r:R a b c d e f g h):∃a b c d e f g h,B a b c d e f g h/\R a b c d e f g h:=⟨a,b,c,d,e,f,g,h,D,r⟩
def GB{α β γ δ ε ζ η θ ι:Type}{B R:α->β->γ->δ->ε->ζ->η->θ->ι->Prop} (a b c d e f g h i) (D:B a b c d e f g h i) (r:R a b c d e f g h i):∃a b c d e f g h i,B a b c d e f g h i/\R a b c d e f g h i:=⟨a,b,c,d,e,f,g,h,i,D,r⟩
end L2
namespace L2
open PySem PySem.Spec PyProof.Rows
section
variable {P:UZ}{w:UU}
def AI(P:UZ)(w:UU):Cp:=λouter H s E e s'=>∃(ea:ar)(cls a0:af)(B:Heap)(H':Hp),
 e=.ref ea/\s'.os=s.os/\Xe s'.gens/\Un (Du outer) [] H H' s.heap s'.heap/\Heap.FlyingW B outer ea cls a0 s'.heap/\AY P w H' B /\
 (∀b o,s.heap.get? b=some o->H b=none->b ∉ Du outer->B.get? b=some o)/\(∀b o,s.heap.get? b=some o->b ∉ Du outer->∃o',B.get? b=some o')/\E cls none H'
structure KH(X:Cx)(π:List (ar×Obj))(σ:St)(H:Hp)(B:Heap)(s:US):Prop where
 inv:Ac X π σ H s
 ah:AY X.prog X.w H B
 old:∀b o,X.s₀.heap.get? b=some o->X.H₀ b=none->b ∉ X.fs->b ∉ X.ex->B.get? b=some o
 there:∀b o,X.s₀.heap.get? b=some o->b ∉ X.fs->b ∉ X.ex->∃o',B.get? b=some o'
 pin:∀p∈X.pn++π,B.get? p.1=some p.2
variable {X:Cx}{π:List (ar×Obj)}{σ:St}{H H':Hp}{s s':US}{ea:ar}{cls:af}{B:Heap}
def Ac.cZ (I:Ac X π σ H s)(e:X.s₀.heap.get? b=some o):b≠X.env.locals:=Vv<|VM (Vk e) I.ok.above
def Ac.rC (I:Ac X π σ H s)(h:AI X.prog X.w X.stack H s E e s'):∃ea cls O B H',e=.ref ea/\KH X π σ H' B s'/\Heap.FlyingW B X.stack ea cls O s'.heap/\E cls none H':=by
 replace h:=IV h;obtain⟨ea,cls,O,B,H',rfl,os,D,un,V,Y,J,there,hE⟩:=h
 refine⟨ea,cls,O,B,H',rfl,⟨I.rh os un (Y.kept V.1) D λb z=>absurd z<|(by simp),Y,λb o e n L hx=>?_,λb o e L hx=>?_,λp hp=>?_⟩,V,hE⟩
 .refine J b o (I.base.keep b o e n L hx) (I.base.free b o e n hx) λz=>?_;rcases Vc.mp (I.d9 b z)with q|q
  .exact I.cZ e q
  .exact L q
 .obtain ⟨o',e'⟩:=I.base.there b o e hx;refine there b o' e' λz=>?_;rcases Vc.mp (I.d9 b z)with q|q
  .exact I.cZ e q
  .exact L q
 .obtain ⟨e,n,ne,nf,_⟩:=AU<|I.pin p hp;refine J p.1 p.2 e n λz=>?_;rcases Vc.mp (I.d9 _ z)with q|q
  .exact ne q
  .exact nf q
def KH.move (F:KH X π σ H B s)(Y:B.StaysIn h')(up:s.heap.UpToSlots h'):Ac X π σ H { s with heap:=h',toks:=tk }:=by
 have I:=F.inv;have D:∀b,b∈X.fs->∀o,s.heap.get? b=some o->(∃o₀,X.s₀.heap.get? b=some o₀)->∃sl,h'.get? b=some { o with slots:=sl }:=λb hb o e _=>by
  obtain⟨_,o1,L,d1⟩:=I.bD.mem hb;rw[e]at L;cases L;exact up b o e d1
 have J:∀c v,s.heap.IsCell c v->h'.IsCell c v:=λc v zz=>DV zz λo ho hd=>by
  obtain⟨sl,e⟩:=up c o ho λvs q=>by rw[hd]at q;cases q
  exact⟨_,e,hd⟩
 refine⟨I.ok,I.os,I.bare,⟨λb o e n O hx=>Y b o<|F.old b o e n O hx,λb o e n O hx=>?_,I.base.free,λb o e hx=>?_,I.base.aj,I.base.cO,I.base.cX⟩,?_,λx c e=>?_,I.free,I.bM,λp hp=>?_,F.ah.kept Y,I.len⟩
 .obtain ⟨sl,L⟩:=I.base.slot b o e n O hx;obtain⟨gT,V⟩:=D b O _ L ⟨o,e⟩;exact⟨gT,V⟩
 .by_cases O:b∈X.fs
  .obtain ⟨o',L⟩:=I.base.there b o e hx;obtain⟨gT,V⟩:=D b O _ L ⟨o,e⟩;exact⟨_,V⟩
  .obtain ⟨o',e'⟩:=F.there b o e O hx;exact⟨o',Y b o' e'⟩
 .obtain ⟨m,hn,hl⟩:=Au I.loc;refine⟨m,up.ns hn,λi x v L V e3=>?_⟩;obtain⟨u,r,l⟩:=Au<|hl i x v L V e3;refine⟨u,r,?_⟩;rcases l with l|⟨k,c,e,z⟩
  .exact .inl l
  .exact .inr ⟨k,c,e,J c _ z⟩
 .obtain ⟨v,z⟩:=I.cell x c e;exact⟨v,J c v z⟩
 .obtain ⟨_,r⟩:=I.pin p hp;exact⟨Y _ _<|F.pin p hp,r⟩
end
section
variable {P:UZ}{w:UU}{K:UT}{mg:aU->Option af}{base:Heap}{N:List aU}{qual:aU}{scope:Scope}{f:ar}{cd:af}{A:Vf}{outer:List Env}{s₀:US}{H₀:Hp}{E:XK}
def BH:DB (AI P w) (DJ (AI P w) P w K mg base N qual scope f cd A outer s₀ H₀ E) E:=by intro π σ H s e O I h;obtain⟨V,cls,Y,B,H',rfl,F,fl,hE⟩:=Pa<|I.rC h;show UY _ _ (leaving _ _) _ _ _;refine wpAny_leaves_onW I.ok.frames rfl fl λh' L up=>?_;have J:=F.move (tk:=O.toks) L.1 up;exact⟨V,cls,Y,B,H',rfl,J.os,J.bare,J.base,L,F.ah,λb o e n D=>F.old b o e n D<|by simp[DJ],λb o e D=>F.there b o e D<|by simp[DJ],hE⟩
def AY.hide (x:AY P w H h)(n:∀b∈l,H b=none):AY P w H (Zo h l):=λa o e =>
 (x a o e).dB (λb u hb q=>YR l q λB=>by
  have z:=n b B;rcases hb with rfl|hb
  .rw[e]at z;cases z
  .rw[hb]at z;cases z) (λ_ q=>q) λ_ _ q=>q
def AbS (q:Xt K C J B=true):∃nm H N bs D hd sn sub ab col dd k0 k1 k2 k3 k5,
  K.lookup C=some (excClassObj nm H C N bs D hd sn sub ab col dd k0 k1 k2 k3 k5 B)/\wc K N=true/\PySem.W.nsIn K N "__init__"=some none/\PySem.W.tailIn K J D=true:=by
 unfold Xt at q;split at q
 .rename_i dd cd sl ho
  split at q
  .rename_i C' D k0 k1 k2 k3 n k5 hm hs
   simp only[WC,beq_iff_eq,xV]at q;obtain⟨⟨⟨⟨⟨rfl,rfl⟩,L⟩,Y⟩,O⟩,V⟩:=q;obtain⟨nm,bs,mro,ns,H,hd,sn,sub,ab,col,del⟩:=cd;dsimp only at hm L O V;subst hm L;have I:sl=#[k0,k1,k2,k3,some<|.builtin n,k5]:=by obtain⟨l⟩:=sl;simp only at hs;rw[hs]
   subst I;exact⟨nm,H,ns,bs,D,hd,sn,sub,ab,col,dd,k0,k1,k2,k3,k5,ho,O,V,Y⟩
  .cases q
 .cases q
def AbT{N:ar}(B:wc K N=true){h:Heap}(X:K.In h):∃mN,(∀h',K.In h'->h'.Ns N mN)/\∀x,PySem.W.nsIn K N x=some none->mN x=none:=by
 have i:=PySem.W.isNs_of_in X B;refine⟨h.nsMap N,λh' D=>?_,λx e=>PySem.W.nsMap_none_of_in X B e⟩;obtain⟨o,es,H,I,r⟩:=Dg<|Heap.Ns.of_isNs i;refine⟨o,es,H,?_,r⟩;unfold wc at B;split at B
 .rename_i q
  have e:=X _ _ q;rw[I]at e;cases e;exact D _ _ q
 .cases B
def Mv(X:Cx)(W:St->XK):Prop:=∀(π:List (ar×Obj))(σ:St)(H:Hp)(s:US)(ea:ar)(h':Heap)(C:ar)(args:List af),Ac X π σ H s->Heap.MadeExcOf s.heap h' ea (.ref C) args->W σ (.ref C) none H->X.xe (.ref ea) { s with heap:=h' }
def Qz(W:St->XK)(C:ar)(ta:TA):TS:=λ_ σ H=>ta σ H λvs H1=>vs.length<=sizeLine/\W σ (.ref C) none H1
def AbU{X:Cx}{W:St->XK}{C:ar}{x:aU}{np O pos:Pos}{e:UX}{es:List UX}{t:TA}(ht:Mv X W)(hc:X.calm=true)(q:Xt X.K C [.type "ValueError",.type "Exception",.type "BaseException",.type "object"] "ValueError.__new__"=true)(hm:X.mg x=some (.ref C))(ha:PA X (e::es) t)(hg:Gl X x:=by rfl)(hd:(x == ("__debug__":aU))=false:=by decide)(Y:U8 (e::es) X.env=(false,U9 e X.env)::U8 es X.env:=by rfl)(aN:(Vu O<|U8 es X.env).any (·.1)=false:=by rfl) :
  PS X (.Raise (some<|.Call (.Name x np) (e::es) [] O) none pos) (Qz W C t):=by
 show 5;obtain⟨nm,qn,NN,bs,bm,V,sn,sub,ab,B,dd,k0,k1,k2,k3,k5,lk,ah,kD,tl⟩:=AbS q;obtain⟨mN,hN,mY⟩:=Au<|AbT ah I.aH;have hb:bm.contains (.type "BaseException")=true:=(xW I.aH tl).hasType xX.hasBase;refine wpAny_Raise_call_subT (nm:=nm) (q:=qn) (C:=C) (N:=NN) (bs:=bs) (hdct:=V) (sn:=sn) (sub:=sub) (ab:=ab) (col:=B) (dd:=dd) (k0:=k0) (k1:=k1) (k2:=k2) (k3:=k3) (k5:=k5) (mN:=mN) xX hb (I.ok.hd hc) (by rw[Y];show(false || _)=false;exact aN) (mY _ kD)<|IY I hg hm ⟨rfl,?_⟩ hd;have J:=ha O π s σ H _ I h;rw[Y]at J ⊢;refine vZ<|Ws J (λus s2 zz=>FV zz λvs H1 L r hl hE=>?_) λ_ _ z=>z;exact⟨rfl,(by rwa[<-r.length]),L.aH _ _ lk,hN _ L.aH,xW L.aH tl,λh' ea mx=>ht π σ H1 s2 ea h' C _ L mx hE⟩
def Ac.lies{X:Cx}{π:List (ar×Obj)}{σ:St}{H:Hp}{s:US}(I:Ac X π σ H s):KH X π σ H (Zo s.heap<|Du X.stack) s:=by
 have J:∀{b:ar}{o:Obj},X.s₀.heap.get? b=some o->b ∉ X.fs->b ∉ Du X.stack:=λ{b o} e D z=>by
  rcases Vc.mp (I.d9 b z)with y|y
  .exact I.cZ e y
  .exact D y
 refine⟨I,I.ah.hide I.mD,λb o e n B hx=>YR _ (I.base.keep b o e n B hx)<|J e B,λb o e B hx=>?_,λp L=>?_⟩
 .obtain ⟨O,V⟩:=I.base.there b o e hx;exact⟨O,YR _ V<|J e B⟩
 .obtain ⟨e,n,ne,D,_⟩:=AU<|I.pin p L;refine YR _ e λz=>?_;rcases Vc.mp (I.d9 _ z)with y|y
  .exact ne y
  .exact D y
def DM:Mv (DJ (AI P w) P w K mg base N qual scope f cd A outer s₀ H₀ E) (λ_=>E):=by intro π σ H B ea h' C args I V hE;have L:=I.lies;have D:∀env∈(DJ (AI P w) P w K mg base N qual scope f cd A outer s₀ H₀ E).stack,∀b,env.frame=some b->b∈Du (DJ (AI P w) P w K mg base N qual scope f cd A outer s₀ H₀ E).stack:=λenv he b hb=>vI.mpr ⟨env,he,hb⟩;show UY _ _ (leaving _ _) _ _ _;refine wpAny_leaves_madeW (s:={ B with heap:=h' }) (base:=Zo B.heap<|Du (DJ (AI P w) P w K mg base N qual scope f cd A outer s₀ H₀ E).stack) (h:=B.heap) I.ok.frames rfl (λb o z=>xp _ z) (PySem.W.funFrames_hide I.stack D) V λh'' t Y tup tn up=>?_;have J:=L.move (tk:=B.toks) Y.1<|(Heap.UpToSlots.of_keeps V.keeps).trans up;exact⟨ea,.ref C,.ref t,_,H,rfl,J.os,J.bare,J.base,Y,L.ah,λb o e n O=>L.old b o e n O<|by simp[DJ],λb o e O=>L.there b o e O<|by simp[DJ],hE⟩
end
section
variable {X:Cx}{π:List (ar×Obj)}{σ:St}{H:Hp}{s:US}
def Bv.got (x:Bv P w H h a o):∃u,h.get? a=some u:=by
 cases o with
 |lst xs=>obtain⟨_,_,_,_,e⟩:=x;exact⟨_,e⟩
 |tup xs=>obtain⟨_,_,_,_,e,_⟩:=x;exact⟨_,e⟩
 |dK B=>obtain⟨_,_,_,_,o,_,_,e,_⟩:=AU x;exact⟨_,e⟩
 |dT B=>obtain⟨_,_,_,_,o,_,_,e,_⟩:=AU x;exact⟨_,e⟩
 |set S n=>obtain⟨o,_,_,_,e,_⟩:=DW x;exact⟨_,e⟩
 |ins C dx fs=>obtain⟨_,_,_,e,_⟩:=AU x;exact⟨_,e⟩
 |own y=>obtain⟨_,e⟩:=x;exact⟨_,e⟩
 |xd fs=>obtain⟨_,⟨_,_,_,e,_⟩,_⟩:=Au x;exact⟨_,e⟩
 |cy lo D=>obtain⟨_,_,_,e⟩:=x;exact⟨_,e⟩
 |bT I u=>obtain⟨e,_⟩:=x;exact⟨_,e⟩
 |fu J=>exact⟨_,(show h.get? a=some _ from x)⟩
 |met f y=>exact⟨_,(show h.get? a=some _ from x)⟩
 |ext φ=>obtain⟨_,⟨_,e⟩,_⟩:=AU x;exact⟨_,e⟩
def AY.out (x:AY P w H h)(e:h.get? a=none):H a=none:=by
 cases q:H a with
 |none=>rfl
 |some o =>
  obtain⟨u,z⟩:=(x a o q).got;rw[e]at z;cases z
def EY(ea:ar)(cls:af):HO:=.ext λh=>∃o vs,h.get? ea=some o/\o.cls=cls/\o.data=.fields vs
def Ac.aay (I:Ac X π σ H s)(hn:H a=none)(ha:∃o vs,s.heap.get? a=some o/\o.cls=cls/\o.data=.fields vs)(h0:X.s₀.heap.get? a=none)(hp:∀p∈X.pn++π,p.1≠a):
  Ac X π σ (upd H a<|EY a cls) s:=by
 obtain⟨oa,vs,D,ca,J⟩:=BB ha;have L:X.env.locals≠a:=λz=>by
  obtain⟨m,⟨o,es,ep,B,hd,_⟩,_⟩:=Au I.loc;rw[z,D]at B;cases B;rw[J]at hd;cases hd
 have O:∀x c,X.env.cells.lookup x=some c->c≠a:=λx c e z=>by
  obtain⟨v,o,B,hd⟩:=Bz<|I.cell x c e;rw[z,D]at B;cases B;rw[J]at hd;cases hd
 have ne:∀{b:ar}{o:HO},H b=some o->b≠a:=λ{b o} e z=>by rw[z,hn]at e;cases e
 refine⟨I.ok,I.os,I.bare,⟨I.base.keep,I.base.slot,λb o e n hx=>?_,I.base.there,λb xs e=>?_,λb o u e=>?_,λb ps e=>?_⟩,I.loc,I.cell,?_,λx c e=>?_,λp hq=>?_,λb o e=>?_,I.len⟩
 .rw[Aw λz:b=a=>by rw[z,h0]at e;cases e];exact I.base.free b o e n hx
 .have q:=I.base.aj b xs e;rwa[Aw<|ne q]
 .have q:=I.base.cO b o u e;rwa[Aw<|ne q]
 .obtain ⟨more,q⟩:=I.base.cX b ps e;exact⟨more,by rwa[Aw<|ne q]⟩
 .rw[Aw L];exact I.free
 .rw[Aw<|O x c e];exact I.bM x c e
 .obtain ⟨V,Y,h3⟩:=AU<|I.pin p hq;exact⟨V,by rwa[Aw<|hp p hq],h3⟩
 .by_cases hb:b=a
  .subst hb;rw[Ao]at e;cases e;exact⟨⟨oa,vs,D,ca,J⟩,⟨_,D⟩,λV Y ⟨o,vs,e,r⟩ k=>⟨o,vs,k o e,r⟩⟩
  .rw[Aw hb]at e;exact(I.ah b o e).dB (λ_ _ _ q=>q) (λc q=>by rwa[Aw<|ne q]) λc xs q=>by rwa[Aw<|ne q]
def Ac.unbind (I:Ac X π σ H s)(O:X.N.Nodup)(Y:X.N[i]?=some n)(hm:s.heap.Ns X.env.locals m)(hl:∀(i:Nat) (x:aU) (v:V),X.N[i]?=some x->σ[i]?=some (some v)->Kn X.env.scope x->∃u,AH v u/\Pd X.env s.heap m x u)(hn:h'.Ns X.env.locals (λx=>if x=n then v else m x))(hs:V8 X.env.locals s.heap h'):Ac X π (σ.set i none) H { s with heap:=h',toks:=tk }:=by
 have cZ:∀{b:ar}{o:Obj},X.s₀.heap.get? b=some o->b≠X.env.locals:=λ{b o} e=>I.cZ e;refine⟨I.ok,I.os,I.bare,⟨λb o e n hb hx=>?_,λb o e n hb hx=>?_,I.base.free,λb o e hx=>?_,I.base.aj,I.base.cO,I.base.cX⟩,⟨_,hn,λj y v' B D e3=>?_⟩,λy c e=>?_,I.free,I.bM,λp hp=>?_,λb ob e=>?_,by simpa using I.len⟩
 .exact (hs.2 b<|cZ e).trans (I.base.keep b o e n hb hx)
 .obtain ⟨sl,B⟩:=I.base.slot b o e n hb hx;exact⟨sl,(hs.2 b<|cZ e).trans B⟩
 .obtain ⟨o',B⟩:=I.base.there b o e hx;exact⟨o',(hs.2 b<|cZ e).trans B⟩
 .have J:j≠i:=λz=>by
   subst z;by_cases aP:j<σ.length
   .rw[X7 aP]at D;cases D
   .rw[xY<|by rw[Vm];omega]at D;cases D
  rw [Ww<|Vy J]at D;obtain⟨u',r',q⟩:=Au<|hl j y v' B D e3;refine⟨u',r',?_⟩;rcases q with ⟨k,e⟩|⟨k,c,e,z⟩
  .refine .inl ⟨k,?_⟩;have:y≠n:=λe=>J<|Me O B (e▸Y);simp[this,e]
  .exact .inr ⟨k,c,e,z.sameBut hs<|I.d8 y c e⟩
 .obtain ⟨L,z⟩:=I.cell y c e;exact⟨L,z.sameBut hs<|I.d8 y c e⟩
 .obtain ⟨e,n,ne,nf,d⟩:=AU<|I.pin p hp;exact⟨(hs.2 p.1 ne).trans e,n,ne,nf,d⟩
 .refine (I.ah b ob e).dB (λc L hc q=>(hs.2 c ?_).trans q) (λ_ q=>q) λ_ _ q=>q;rintro rfl;have z:=I.free;rcases hc with hc|hc
  .rw[hc,e]at z;cases z
  .rw[hc]at z;cases z
noncomputable abbrev Cx.tr(X:Cx)(Ew:af->US->Prop)(π:List (ar×Obj)):Cx:={ X with xe:=Ew,pn:=X.pn++π }
noncomputable abbrev Cx.su(X:Cx)(ea:ar):Cx:={ X with A:=X.A.mark (some (.ref ea)),calm:=false,xe:=λ_ _=>False }
def Ac.tr (I:Ac X (π++bU) σ H s):Ac (X.tr B π) bU σ H s :=
 ⟨⟨I.ok.mod,I.ok.kind,I.ok.glob,I.ok.blt,I.ok.above,I.ok.inj,I.ok.has,I.ok.dC,I.ok.hd,I.ok.frames,I.ok.aM,I.ok.fB,I.ok.bs,I.ok.cz,I.ok.dD,I.ok.dE,I.ok.bD,I.ok.cP⟩,I.os,I.bare,I.base,I.loc,I.cell,I.free,I.bM,
  λp D=>I.pin p (by rwa[<-Vj]),I.ah,I.len⟩
def Ac.jf (I:Ac (X.tr B π) bU σ H s):Ac X (π++bU) σ H s :=
 ⟨⟨I.ok.mod,I.ok.kind,I.ok.glob,I.ok.blt,I.ok.above,I.ok.inj,I.ok.has,I.ok.dC,I.ok.hd,I.ok.frames,I.ok.aM,I.ok.fB,I.ok.bs,I.ok.cz,I.ok.dD,I.ok.dE,I.ok.bD,I.ok.cP⟩,I.os,I.bare,I.base,I.loc,I.cell,I.free,I.bM,
  λp D=>I.pin p (by show p∈(X.pn++π)++bU;rwa[Vj]),I.ah,I.len⟩
def Ac.su(B:ar)(I:Ac X π σ H s):Ac (X.su B) π σ H s :=
 ⟨⟨I.ok.mod,I.ok.kind,I.ok.glob,I.ok.blt,I.ok.above,I.ok.inj,I.ok.has,I.ok.dC,(λz=>nomatch z),I.ok.frames,I.ok.aM,I.ok.fB,I.ok.bs,I.ok.cz,I.ok.dD,I.ok.dE,I.ok.bD,I.ok.cP⟩,I.os,I.bare,I.base,I.loc,I.cell,I.free,I.bM,I.pin,I.ah,I.len⟩
def Ac.aaB (I:Ac (B.su D) π σ H s)(hd:B.calm=true->B.A.handled=none):Ac B π σ H s :=
 ⟨⟨I.ok.mod,I.ok.kind,I.ok.glob,I.ok.blt,I.ok.above,I.ok.inj,I.ok.has,I.ok.dC,hd,I.ok.frames,I.ok.aM,I.ok.fB,I.ok.bs,I.ok.cz,I.ok.dD,I.ok.dE,I.ok.bD,I.ok.cP⟩,I.os,I.bare,I.base,I.loc,I.cell,I.free,I.bM,I.pin,I.ah,I.len⟩
def KI(CX:Cp)(X:Cx)(W:St->XK):Prop:=∀(π:List (ar×Obj))(σ:St)(H:Hp)(s:US)(e:af)(s':US),Ac X π σ H s->CX X.stack H s (W σ) e s'->X.xe e s'
def QA(K:UT)(Ch:ar)(i:Nat)(tb:(af->US->Prop)->List (ar×Obj)->(St->XK)->TS)(ts:ar->TS):TS:=λD σ H=>∀Ew π,tb Ew π (λσ' cls _ H'=>ZG K cls (.ref Ch)=some true/\∀ea,H' ea=none ->
 ts ea { nx:=λσ2 H2=>D.nx (σ2.set i none) H2,rt:=D.rt,bk:=λσ2 H2=>D.bk (σ2.set i none) H2,ct:=λσ2 H2=>D.ct (σ2.set i none) H2 } (σ'.set i (some (.ref ea))) (upd H' ea (EY ea cls))) D σ H
def AbV{body gY:List Stmt}{b₀:Stmt}{x n:aU}{np jg pos:Pos}{i:Nat}{Ch:ar}{tb:(af->US->Prop)->List (ar×Obj)->(St->XK)->TS}{ts:ar->TS}(hex:X.ex=[])(aG:X.stack=X.env::X.outer)(mZ:X.env.frame=some X.env.locals)(hm:X.mg x=some (.ref Ch))(hN:X.N.Nodup)(hi:X.N[i]?=some n)(hb:∀Ew π W,KI (AI X.prog X.w) (X.tr Ew π) W->Zq (U1 X.prog X.w) X.A X.env Ew->Di (X.tr Ew π) body (tb Ew π W))(hs:∀O,Di (X.su O) (b₀::gY)<|ts O)(hx:Gl X x:=by rfl)(hl:X.env.scope.names.lookup n=some .local:=by rfl)(hd:(x == ("__debug__":aU))=false:=by decide) :
  PS X (.Try body [.ExceptHandler (some<|.Name x np) (some n) (b₀::gY) jg] [] [] pos) (QA X.K Ch i tb ts):=by
 show 5;refine wpAny_Try_except<|Ws (hb (λe s₁=>UY (U1 X.prog X.w) X.A (ZH e X.env) (λ_ s₂=>UY (U1 X.prog X.w) X.A (setFlight e none) (λ_ s₃=>UY (U1 X.prog X.w) X.A (handleBy e X.env [.ExceptHandler (some<|.Name x np) (some n) (b₀::gY) jg]) (SP X π D) X.xe s₃) X.xe s₂) X.xe s₁) π _ ?_ PassesOwn.looking [] s σ H D (Ac.tr<|by rwa[V5])<|h _ _) (λf s₁ q=>?_) λe s₁ q=>q
 .-- an exception of a callee
  intro bU σ' H1 s1 e rH I1 hcx;obtain⟨O,cls,a0,B,H',rfl,L,fl,hw,hsu⟩:=Pa<|I1.jf.i4.rC hcx;show UY _ _ (ZH _ _) _ _ _;rw[aG]at fl;have fr:X.A.frames=some (X.env::X.outer):=by rw[<-aG];exact L.inv.ok.frames
  refine wpAny_looks_onW fr mZ fl λh₄ aaC rJ=>?_;refine wpAny_landsW aaC λh₅ m8 rK=>?_;have I5:=L.move (tk:=rH.toks) m8.1<|rJ.trans rK;refine wpAny_handleBy_cons (codeAny_handlers_test<|IY (X:=X.su O) (I5.su O) hx hm ?_ hd) (by intro q;cases q);obtain⟨ob,hob,aaD⟩:=Au m8.there;have LT:PySem.W.Looks (U1 X.prog X.w) h₅ (typeOf<|.ref O) cls:=aaD▸(PySem.W.Looks.ld hob).andThen .now;refine(PySem.W.exm_one I5.aH LT hw).here ?_;rw[bf rfl];apply codeAny_handlers_suite_as;refine lands_againW m8 λh₆ jh up₆=>?_;have I6:=L.move (tk:=rH.toks) jh.1<|(rJ.trans rK).trans up₆;have rL:H' O=none:=L.ah.out jh.2.1;obtain⟨oe,vs,he,hc,rM,_⟩:=BB jh.first
  have hs0:X.s₀.heap.get? O=none:=by
   cases q:X.s₀.heap.get? O with
   |none=>rfl
   |some o =>
    by_cases hf:O∈X.fs
    .obtain ⟨_,o1,e1,d1⟩:=I6.bD.mem hf;have dI:h₆.get? O=some o1:=e1;rw[he]at dI;cases dI;exact absurd rM<|d1 vs
    .by_cases m9:O∈X.ex
     .rw[hex]at m9;cases m9
     .obtain ⟨o',e'⟩:=L.there O o q hf m9;rw[jh.2.1]at e';cases e'
  have I7:=I6.aay (a:=O) (cls:=cls) rL ⟨oe,vs,he,hc,rM⟩ hs0 (λp hp z=>by
   have:=L.pin p hp;rw[z,jh.2.1]at this;cases this)
  refine Mf (X:=X.su O) (I7.su O) hN hi (.inl hl) (v:=.ref O) rfl (λs8 I8=>?_)<|.inr hl;refine Ws (hs O π s8 _ _ _ I8<|hsu O rL) (λf s9 q=>?_) λ_ _ z=>z.elim;have Y:∀{σ2:St}{V:Hp}(J:Ac (X.su O) π σ2 V s9){Q:Unit->US->Prop},(∀s',Ac X π (σ2.set i none) V s'->Q () s') ->
    UY (U1 X.prog X.w) X.A (do bindName X.env n .none;unbindBehindTheSuite X.env n jg) Q X.xe s9:=λ{σ2 V} J {Q} hq=>by
   obtain⟨m,hn,hlk⟩:=Au<|id J.loc;refine wpAny_nameGoes_keeps hl hn (by rw[I.ok.kind];rfl) λh' v mF hsb=>hq _ ?_;exact(J.aaB I.ok.hd).unbind hN hi hn hlk mF hsb
  show UY _ _ _ _ _ _;cases f with
  |next =>
   obtain⟨σ2,V,J,z⟩:=Bz q;exact Y J λs' J'=>⟨_,_,J',z⟩
  |brk =>
   obtain⟨σ2,V,J,z⟩:=Bz q;exact Y J λs' J'=>⟨_,_,J',z⟩
  |cont =>
   obtain⟨σ2,V,J,z⟩:=Bz q;exact Y J λs' J'=>⟨_,_,J',z⟩
  |ret u =>
   obtain⟨v,σ2,V,J,r,z⟩:=Dg q;exact Y J λs' J'=>⟨v,_,_,J',r,z⟩
 .cases f with
  |next =>
   obtain⟨σ2,V,J,z⟩:=Bz q;exact YU ⟨σ2,V,by have:=J.jf;rwa[V5]at this,z⟩
  |brk =>
   obtain⟨σ2,V,J,z⟩:=Bz q;exact⟨σ2,V,by have:=J.jf;rwa[V5]at this,z⟩
  |cont =>
   obtain⟨σ2,V,J,z⟩:=Bz q;exact⟨σ2,V,by have:=J.jf;rwa[V5]at this,z⟩
  |ret u =>
   obtain⟨v,σ2,V,J,r,z⟩:=Dg q;exact⟨v,σ2,V,by have:=J.jf;rwa[V5]at this,r,z⟩
end
end L2
namespace L2
open PySem PySem.Spec PySem.Calls PyProof.Rows PySem.W PySem.Builtin PySem.Builtin.ObjectAttr PySem.Builtin.Getset_descriptor
open Sem (wp)
def AbW(ea:ar)(cls:af)(h:Heap):Prop:=∃o vs,h.get? ea=some o/\o.cls=cls/\o.data=.fields vs
structure EZ(K:Frag)(C:ar):Prop where
 cls:(clsIn K C).isSome=true
 ga:findIn K (.ref C) "__getattribute__"=some (some (.builtin "BaseException.__getattribute__"))
 gt:findIn K (.ref C) "__getattr__"=some none
 cl:findIn K (.ref C) "__class__"=some (some (.builtin "object.__class__"))
 ob:subIn K (.ref C) (.type "object")=some true
 be:subIn K (.ref C) (.type "BaseException")=some true
section
variable {prog:UZ}{w:UU}{A:Vf}{E:af->US->Prop}{K:Frag}{C ea:ar}{h:Heap}{g:Array X6}{d:Drawn}{t:Nat}{os:OsState}{o:Obj}
def Mw (hx:h.get? ea=some o)(hc:o.cls=.ref C):Looks M h (typeOf<|.ref ea) (.ref C):=hc▸(Looks.ld hx).andThen .now
def AbX (X:K.In h)(c:EZ K C)(hx:h.get? ea=some o)(hc:o.cls=.ref C)(hq:R (.ok<|.ret (.ref C)) ⟨h,g,d,t,os⟩):
  Wf (U1 prog w) A (.call (.builtin "getset_descriptor.__get__") ⟨[.builtin "object.__class__",.ref ea,.ref C],[]⟩) R ⟨h,g,d,t,os⟩:=by
 have B:=Mw (M:=U1 prog w) hx hc;have D:=looks_subIn (M:=U1 prog w) X c.ob;refine we KF.slot_gs.plain KF.entry_gs<|KF.slot_gs.check _ _ _ _ _ _ _ _ KF.type_class (KF.args_gs _ _ _) ?_;unfold Builtin.«getset_descriptor.__get__» descrGet;rw[dga_obj];refine U2<|Vd ?_;unfold descrGetter descrCheckInstance descrNameAndClass isInstance;simp only[KF.owner_class];repeat lk
 refine⟨xZ _<|(by decide +kernel),Ym KF.entry_class ?_⟩;unfold Builtin.«object.__class__» shownTypeOf;repeat lk
 exact hq
def AbY (X:K.In h)(c:EZ K C)(hx:h.get? ea=some o)(hc:o.cls=.ref C)(hq:Q () ⟨h,g,d,t,os⟩):
  UY M A (wg "BaseException.__getattribute__" ⟨[.ref ea,D],[]⟩) Q E ⟨h,g,d,t,os⟩:=by
 have hk:builtinKind "BaseException.__getattribute__"=some .slot:=(by decide +kernel)
 have B:splitId "BaseException.__getattribute__"=some ("BaseException","__getattribute__"):=(by decide +kernel)
 have H:=Mw (M:=M) hx hc;have I:=looks_subIn (M:=M) X c.be;have L:=F.args_bexc_ga (.ref ea) D;have J:Looks M h (isInstance (.ref ea)<|.type "BaseException") true:=H.andThen I;simp only[wg,hk,B];refine U2<|J.at ?_;repeat (first|assumption|lk|wp_step)
def AbZ (X:K.In h)(c:EZ K C)(hx:h.get? ea=some o)(hc:o.cls=.ref C)(hq:Q (.done<|.ret (.ref C)) ⟨h,g,d,t,os⟩):
  UY (U1 prog w) A (Builtin.«object.__getattribute__» ⟨[.ref ea,.str "__class__" tk],[]⟩) Q E ⟨h,g,d,t,os⟩:=by
 have B:(⟨h,g,d,t,os⟩:US).TypeIs (.builtin "object.__class__") "getset_descriptor":=ya;have L2:=looks_findIn (M:=U1 prog w) X c.cl;have D:=ya;have H:=F.slot_gs_get.lookup;have I:=F.slot_gs_set.lookup;repeat (any_goals (first|assumption|(with_reducible apply yb hx;rw[hc])|with_reducible refine L2.at ?_|wp_step))
 apply AbX X c hx hc;repeat (any_goals (first|assumption|wp_step))
def Ab0 (X:K.In h)(c:EZ K C)(hx:h.get? ea=some o)(hc:o.cls=.ref C)(hq:Q (.ref C) ⟨h,g,d,t,os⟩):
  UY (U1 prog w) A (getAttrBy (.ref ea) (.str "__class__" tk) false) Q E ⟨h,g,d,t,os⟩:=by
 have I:=yc.ga.bind<|.ref ea;have B:(ZI "BaseException.__getattribute__" == ZI "object.__getattribute__")=false:=(by decide +kernel)
 have D:(onTheHeap (Vo C) && ZI "BaseException.__getattribute__" == ZI "object.__getattribute__")=false:=by rw[B];rfl
 have L2:=looks_findIn (M:=U1 prog w) X c.ga;have H:=looks_findIn (M:=U1 prog w) X c.gt;repeat (any_goals (first|assumption|(with_reducible apply yb hx;rw[hc])|with_reducible refine L2.at ?_|with_reducible refine H.at ?_|wp_step))
 refine we yc.ga.plain F.entry_bexc_ga<|AbY X c hx hc (AbZ X c hx hc ?_);repeat (any_goals (first|assumption|wp_step))
def Ab1 (X:K.In h)(c:EZ K C)(hx:h.get? ea=some o)(hc:o.cls=.ref C)(hq:Q (some<|.ref C) ⟨h,g,d,t+1,os⟩):UY (U1 prog w) A (getAttr? (.ref ea) "__class__") Q E ⟨h,g,d,t,os⟩:=by unfold getAttr? getAttrBy?;repeat (any_goals (first|assumption|with_reducible apply Ab0 X c hx hc|wp_step))
theorem QB(c:EZ K C):KitX K (.ref ea) (.ref C) (AbW ea (.ref C)) where
 ty:=λ_ _ _ H=>AF H λ_ _ e q _=>Mw e q
 it:=λ_ _ X _=>by
  obtain⟨D,B⟩:=Zx.mp c.cls;unfold clsIn at B;split at B
  .rename_i c' d' cd' gT ho
   intro L O V Y k q;unfold isType loadHead;exact U2 (xB (k _ _ (X _ _ ho)) (Vd q))
  .cases B
 ne:=λh I dd its n sl X J=>by
  obtain⟨D,B⟩:=Zx.mp c.cls;refine Yn.mpr λq=>?_;have e:C=I:=Value.ref.inj (beq_iff_eq.mp q);subst e;unfold clsIn at B;split at B
  .rename_i c' d' cd' gT ho
   have z:=(X _ _ ho).symm.trans J;cases z
  .cases B
 ca:=λ{prog w A E Q s} X ⟨o,vs,e,q,_⟩ k=>by
  obtain⟨h,g,d,t,os⟩:=s;exact Ab1 X c e q k
end
end L2
namespace L2
open PySem PySem.Spec PyProof.Rows
mutual
inductive Is(K:UT)(H:Hp):V->PyData->Prop
 |aa:Is K H .aa .none
 |bl (b:Bool):Is K H (.bl b) (.bool b)
 |int (i:Int):Is K H (.int i) (.int i)
 |str (x:aU):Is K H (.str x) (.str x)
 |lst {a:ar} {xs:List V} {ds:List PyData}:A2 K H a xs->aQ K H xs ds->Is K H (.ref a) (.list ds)
 |tup {a:ar} {xs:List V} {ds:List PyData}:Bn K H a xs->aQ K H xs ds->Is K H (.ref a) (.tuple ds)
inductive aQ(K:UT)(H:Hp):List V->List PyData->Prop
 |nil:aQ K H [] []
 |cons {x:V} {xs:List V} {d:PyData} {ds:List PyData}:Is K H x d->aQ K H xs ds->aQ K H (x::xs) (d::ds)
end
def Ah.tup{K:UT}{H B:Hp}{a:ar}{xs:List V}(e:Ah H B)(h:Bn K H a xs):Bn K B a xs:=by
 rcases h with (h|⟨o,h⟩)|h
 .exact .inl (.inl<|e _ _ h)
 .exact .inl (.inr ⟨o,e _ _ h⟩)
 .exact .inr h
section
variable {X:Cx}{π:List (ar×Obj)}{σ:St}{H H':Hp}{s:US}{K:UT}
mutual
theorem Is.same:∀(d:PyData){x:V},Is K H x d->Ah H H'->Is K H' x d
 |.none,_,r,_=>by cases r;exact .aa
 |.bool _,_,r,_=>by cases r;exact .bl _
 |.int _,_,r,_=>by cases r;exact .int _
 |.str _,_,r,_=>by cases r;exact .str _
 |.list ds,_,r,e=>by cases r with|lst B D=>exact .lst (e.seq B) (aQ.same ds D e)
 |.tuple ds,_,r,e=>by cases r with|tup B D=>exact .tup (e.tup B) (aQ.same ds D e)
 |.dict _,_,r,_=>nomatch r
theorem aQ.same:∀(ds:List PyData){xs:List V},aQ K H xs ds->Ah H H'->aQ K H' xs ds
 |[],_,r,_=>by cases r;exact .nil
 |d::ds,_,r,e=>by cases r with|cons B D=>exact .cons (Is.same d B e) (aQ.same ds D e)
end
mutual
theorem Is.reads:∀(d:PyData){x:V}{u:af},Ac X π σ H s->Is X.K H x d->AH x u->∃as,Reads s.heap u d as
 |.none,_,_,_,r,q=>by cases r;cases q;exact⟨_,.none⟩
 |.bool _,_,_,_,r,q=>by cases r;cases q;exact⟨_,.bool _⟩
 |.int _,_,_,_,r,q=>by cases r;obtain⟨t,rfl⟩:=q;exact⟨_,.int _ _⟩
 |.str _,_,_,_,r,q=>by cases r;obtain⟨t,rfl⟩:=q;exact⟨_,.str _ _⟩
 |.list ds,_,_,I,r,q=>by
  cases r with
  |lst B D =>
   cases q;obtain⟨its,J,⟨o,n,e,c,_,d⟩,_⟩:=AG (I.list B);obtain⟨as,L⟩:=aQ.reads ds I D J;exact⟨_,.list e c d (by simpa using L)⟩
 |.tuple ds,_,_,I,r,q=>by
  cases r with
  |tup B D =>
   cases q;obtain⟨its,J,⟨o,e,c,n,d⟩,_⟩:=AG (I.tuple B);obtain⟨as,L⟩:=aQ.reads ds I D J;exact⟨_,.tuple e c d (by simpa using L)⟩
 |.dict _,_,_,_,r,_=>nomatch r
theorem aQ.reads:∀(ds:List PyData){xs:List V}{us:List af},Ac X π σ H s->aQ X.K H xs ds->AA xs us->∃as,ReadsAll s.heap us ds as
 |[],_,_,_,r,q=>by cases r;cases q;exact⟨_,.nil⟩
 |d::ds,_,_,I,r,q=>by
  cases r with
  |cons B D =>
   cases q with
   |cons J L =>
    obtain⟨as,O⟩:=Is.reads d I B J;obtain⟨bs,Y⟩:=aQ.reads ds I D L;exact⟨_,.cons O Y⟩
end
def Jp(K:UT)(neg:Bool):R2:=λx y H Q=>∃d d',Is K H x d/\Is K H y d'/\d.canLay0=true/\d'.canLay0=true/\d.depth<=32/\Q (.bl (if neg then !Yo d d' else Yo d d')) H
def Ab2(hu:X.A.units+64<cLine):Bc X (VE .Eq) (Jp X.K false):=by intro π s σ H x y v u Q I D J zz;obtain⟨d,B,L,O,V,Y,hd,q⟩:=IU zz;obtain⟨as,ra⟩:=Is.reads d I L D;obtain⟨bs,rb⟩:=Is.reads B I O J;exact SeqAt.rcAt_reads ra rb V Y (by have:=yd d.depth B.depth;omega) _ _ _ _ ⟨.bl _,H,I,rfl,q⟩
def Ab3(hu:X.A.units+64<cLine):Bc X (VE .NotEq) (Jp X.K true):=by intro π s σ H x y v u Q I D J zz;obtain⟨d,B,L,O,V,Y,hd,q⟩:=IU zz;obtain⟨as,ra⟩:=Is.reads d I L D;obtain⟨bs,rb⟩:=Is.reads B I O J;exact SeqAt.rcNeAt_reads ra rb V Y (by have:=yd d.depth B.depth;omega) _ _ _ _ ⟨.bl _,H,I,rfl,q⟩
end
noncomputable def GC{α:Type}(cs:List α)(lo hi:Option Int):List α:=(cs.drop (HT.aJ cs.length 0 lo)).take (HT.aJ cs.length cs.length hi-HT.aJ cs.length 0 lo)
noncomputable def DC(z:aU)(lo hi:Option Int):aU:=⟨(GC z.cps.toList lo hi).toArray⟩
def Ab4(z:aU)(lo B:Option Int):(DC z lo B).length<=z.length:=by show((GC z.cps.toList lo B).toArray).size<=z.cps.size;rw[Vs];unfold GC;rw[Wg,xM];simp only[Wm];omega
def QC(n:Nat)(o:Option Int):HT.aJ n n o<=n:=HT.rq n n (Vb _) o
def QD(n:Nat)(o:Option Int):HT.aJ n 0 o<=n:=HT.rq n 0 (Wn _) o
def Ab5(a b:Nat):Y4 (a:Int) (b:Int) 1=(VN<|b-a).map (λk=>a+k):=by
 unfold Y4;simp only[show((1:Int) > 0)from (by decide),if_true];by_cases B:(a:Int)<b
 .have D:(((b:Int)-a+1-1) / 1).toNat=b-a:=by simp<;>omega
  simp only[B,if_true,D];refine Wq λk _=>?_;omega
 .have:b-a=0:=by omega
  simp[B,this]
def QE(lo D:Option Int)(n:Nat):ZJ lo D 1 n=(VN<|HT.aJ n n D-HT.aJ n 0 lo).map (λk=>HT.aJ n 0 lo+k):=by
 have B:∀(v:Int)(d:Nat),max (0:Int) (min (if v<0 then v+(n:Int)else v) (n:Int))=((HT.aJ n d (some v):Nat):Int):=by
  intro v d;rw[<-HT.aaj v n d];by_cases hv:v<0
  .rw[bf hv,bf hv];omega
  .rw[ck hv,ck hv];omega
 rw [<-Ab5];cases lo with
 |none =>
  cases D with
  |none=>rfl
  |some b =>
   show Y4 0 (max (0:Int)<|min (if b<0 then b+(n:Int)else b) (n:Int)) 1=_;rw[B b n];rfl
 |some a =>
  cases D with
  |none =>
   show Y4 (max (0:Int)<|min (if a<0 then a+(n:Int)else a) (n:Int)) (n:Int) 1=_;rw[B a 0];rfl
  |some b =>
   show Y4 (max (0:Int)<|min (if a<0 then a+(n:Int)else a) (n:Int)) (max (0:Int)<|min (if b<0 then b+(n:Int)else b) (n:Int)) 1=_;rw[B a 0,B b n]
def Ab6(z:aU)(lo B:Option Int):(ZJ lo B 1 z.length).filterMap (z.cps[·]?)=GC z.cps.toList lo B:=by
 rw [QE];have H:=QC z.length B;have I:=QD z.length lo;have D:z.cps.toList.length=z.length:=by simp[XJ]
 unfold GC;rw[D];by_cases hc:HT.aJ z.length 0 lo<=HT.aJ z.length z.length B
 .have:=PySem.StrLaws.picks z.cps.toList (HT.aJ z.length z.length B-HT.aJ z.length 0 lo) (HT.aJ z.length 0 lo) (by rw[D];omega);simpa using this
 .have e:HT.aJ z.length z.length B-HT.aJ z.length 0 lo=0:=by omega
  rw [e];simp
def Ab7(z:aU)(lo B:Option Int)(h:(ZJ lo B 1 z.length).length=z.length):DC z lo B=z:=by
 rw [QE,UW,Xu]at h;have J:=QC z.length B;have L:=QD z.length lo;have D:z.cps.toList.length=z.length:=by simp[XJ]
 unfold DC GC;rw[D];by_cases O:z.length=0
 .have:z.cps.toList=[]:=wj.mp (by omega);rw[this];cases z with|mk c=>cases c;simp_all
 .have H:HT.aJ z.length 0 lo=0:=by omega
  have I:HT.aJ z.length z.length B=z.length:=(by omega)
  rw [H,I,wk,wm,Y5<|(by omega)]
section
variable {X:Cx}
def Mx:V->Option Int->Option Int->Hp->VK->Prop:=λx lo hi H Q=>∃z,x=.str z/\z.length<=sizeLine/\Q (.str (DC z lo hi)) H
def Ab8:F0 X Mx:=by
 intro π s σ H x v vl D lo B sl Q I J hs pl L h;replace h:=AG h;obtain⟨z,rfl,O,q⟩:=h
 obtain⟨t,rfl⟩:=J;refine⟨"str",_,F.slot_str_getitem.lookup,ZA s z t,?_⟩;obtain⟨l,V,Y⟩:∃l,vl=partValue l/\l.map (·.1)=lo:=by
  cases pl with
  |none=>exact⟨none,rfl,rfl⟩
  |int i t=>exact⟨some (i,t),rfl,rfl⟩
 obtain⟨u,hu,ni⟩:∃u,D=partValue u/\u.map (·.1)=B:=by
  cases L with
  |none=>exact⟨none,rfl,rfl⟩
  |int i t=>exact⟨some (i,t),rfl,rfl⟩
 subst V hu;apply wpAny_getItem_str_slice (l:=l) (u:=u) (st:=none) hs rfl;unfold sliceMade slicePicked;simp only[ye,vX,Y,ni,beq_self_eq_true,Bool.true_and];by_cases hc:((ZJ lo B 1 z.length).length == z.length)=true
 .rw[bf hc];rw[Ab7 z lo B<|beq_iff_eq.mp hc]at q;exact⟨.str z,H,I,⟨t,rfl⟩,q⟩
 .rw[ck hc,Ab6];exact⟨V7 (Ab4 z lo B) O,.str _,H,I.tok _,(⟨_,rfl⟩),q⟩
noncomputable def G7(z:aU)(n:Int):aU:=⟨(U5 n.toNat z.cps.toList).flatten.toArray⟩
def QF:R2:=λx y H Q=>∃z n,x=.str z/\y=.int n/\0<=n/\n<2 ^ 40/\z.length*n.toNat<=sizeLine/\Q (.str (G7 z n)) H
end
end L2
namespace PySem.SeqAt
open AutoSeq1 (wpAny_loadPart')
open MeetsSeq MeetsSeq2 MeetsSeq3 SeqRoads2
end PySem.SeqAt
namespace L2
open PySem PySem.Spec PyProof.Rows
section
variable {X:Cx}
def Ab9:Bc X (Wz .Mult) QF:=by
 intro π s σ H x y v u Q I Y ry zz;obtain⟨z,n,e1,D,h0,hn,hz,q⟩:=IU zz;subst e1 D;obtain⟨t,rfl⟩:=Y;obtain⟨t',rfl⟩:=ry;have fold:∀(k:Nat)(B:List Nat),((U5 k z.cps).foldl (·++·) B.toArray)=(B++(U5 k z.cps.toList).flatten).toArray:=by
  intro k;induction k with
  |zero=>intro B;simp
  |succ k ih =>
   intro B;rw[XM,xR,XM,YF];have e:B.toArray++z.cps=(B++z.cps.toList).toArray:=(by simp)
   rw [e,ih,Vj]
 have V:=fold n.toNat [];simp only[ZF]at V;have len:(G7 z n).length=z.length*n.toNat:=by show(List.flatten _).toArray.size=_;rw[Vs,List.length_flatten,Y6,List.sum_replicate_nat];simp[XJ,Nat.mul_comm]
 have sl:sizeLine<=2 ^ 40:=by rw[U0];decide
 refine P.mul_str (by simp;omega) (λJ _=>?_) (λ_ _=>?_) ?_
 .have L:0<n:=by omega
  have:((z.length:Int))<=(2 ^ 63-1) / n:=by
   rw [Int.le_ediv_iff_mul_le L];have:((z.length*n.toNat:Nat):Int)<=2 ^ 40:=(by omega)
   rw [Int.natCast_mul,Int.toNat_of_nonneg h0]at this;omega
  omega
 .unfold Builtin.Str.tooLong;rw[decide_eq_false_iff_not];omega
 .by_cases J:n<1
  .have e:n=0:=by omega
   subst e;rw[bf J];have D:G7 z 0=VD:=rfl;rw[D]at q;exact⟨(by decide),.str _,H,I.tok _,(⟨_,rfl⟩),q⟩
  .rw[ck J];by_cases O:(n == 1 || z.length == 0)=true
   .rw[bf O];have D:G7 z n=z:=by
     rcases Bool.or_eq_true_iff.mp O with h|h
     .have e:n=1:=beq_iff_eq.mp h;subst e;show(⟨(U5 1 z.cps.toList).flatten.toArray⟩:aU)=z;simp
     .have e:z.length=0:=beq_iff_eq.mp h;have e':z.cps.toList=[]:=wj.mp (by simpa [XJ]using e);unfold G7;rw[e'];cases z with|mk c=>cases c;simp_all
    rw [D]at q;exact⟨.str _,H,I,(⟨_,rfl⟩),q⟩
   .rw[ck O];have D:(⟨(U5 n.toNat z.cps).foldl (·++·) #[]⟩:aU)=G7 z n:=by
     unfold G7;rw[<-V]
    rw [D];exact⟨by rwa[len],.str _,H,I.tok _,(⟨_,rfl⟩),q⟩
def Ie(z:aU):It:=⟨λi _=>i<z.cps.size,λi H x H'=>H'=H/\∃c,z.cps.toList[i]?=some c/\x=.str ⟨#[c]⟩,λi _=>z.cps.size<=i⟩
theorem Aca{P:UZ}{w:UU}{K:UT}{tg:UX}(z:aU)(t:Tok)(it:ar):Gu P w K tg (Ie z) [it] it (λi h=>h.IsStrIter it "str_ascii_iterator" z t i) where
 mem:=by simp
 obj:=λi h st b hb=>by
  have e:b=it:=by simpa using hb
  subst e;obtain⟨o,e,c,d⟩:=AG st;exact⟨o,e,λv z=>by rw[d]at z;cases z⟩
 keep:=λi h B ⟨o,e,r⟩ k=>⟨o,k it (by simp) o e,r⟩
 item:=by intro X J hw L hc i π s σ H E I D st O;subst J hw L;obtain⟨V,f1,f2,Y,f4,f5⟩:=AU (D it (by simp));have hx:z.cps[i]?=some z.cps[i]:=XO O;refine wpAny_pyNext_ascii_item st hx λB bu sb=>?_;have I1:Ac X π σ H { s with heap:=B,toks:=s.toks+1 }:=I.turned (t':=s.toks+1) (λb o hb e=>(sb.2 b hb).trans e) V f1 Y f4 f5;obtain⟨o,e,c,d⟩:=AG (id bu);exact⟨_,rfl,Kp (s:={ s with heap:=B,toks:=s.toks+1 }) e c d (by decide) ⟨.str _,H,I1,⟨_,rfl⟩,⟨rfl,z.cps[i],by rw[ZE];exact hx,rfl⟩,bu,λb hb=>(D b hb).1⟩⟩
 done:=by intro X J hw L hc i π s σ H E I D st O;subst J hw L;obtain⟨V,f1,f2,Y,f4,f5⟩:=AU (D it (by simp));exact wpAny_pyNext_ascii_end (I.ok.hd hc) st (Array.getElem?_eq_none O) λB eb=>⟨rfl,I.turned (t':=s.toks) (λb o hb e=>eb b o hb e) V f1 Y f4 f5⟩
 self:=λ_ _ _ _ _ st h=>wpAny_pyIter_striter_ascii st h
def Acb(tl:TE):TI:=λσ H R=>tl σ H λx H1=>∃z,x=.str z/\z.cps.all (·<128)=true/\R (Ie z) H1
def QG (V:PE X l tl):PI X O l (Acb tl):=by
 intro π s σ H R I h;refine As (V π s σ H _ I h) λv B Y=>AF Y λx L D r1 J=>?_;replace J:=AG J;obtain⟨z,rfl,ha,q⟩:=J
 obtain⟨t,rfl⟩:=r1;apply wpAny_pyIter_ascii ha;have I2:Ac X π σ L { B with heap:=B.heap.push { cls:=.type "str_ascii_iterator",data:=.fields #[.str z t,.int 0 0] } }:=D.kept (t':=B.toks) λb ob q=>Vp _ q;exact⟨_,[B.heap.objs.size],_,Ie z,L,rfl,I2,Aca z t _,⟨_,VO _ rfl,rfl,rfl⟩,λb hb=>by
  have e:b=B.heap.objs.size:=by simpa using hb
  subst e;exact D.eF (Vb _)<|D.ah.fresh (Vb _),q⟩
def QH (Pv:Nat->St->Hp->Prop)(B:Pv 0 σ H)(hs:∀i c σ H,z.cps.toList[i]?=some c->Pv i σ H->g (.str ⟨#[c]⟩) σ H (T<|Pv (i+1)))(hd:∀σ H,Pv z.cps.toList.length σ H->Q σ H):CW (Ie z) g T σ H Q :=
 G2 z.cps.size Pv B (λi σ H D p=>⟨D,λx J y=>by obtain⟨e,c,hc,I⟩:=y;subst e I;exact hs i c σ _ hc p⟩) λσ H p=>⟨Vb _,hd σ H<|by simpa using p⟩
def Acd{z:aU}{g:TG}{I:TS}{D:Ek}{σ:St}{H:Hp}(Pv:Nat->St->Hp->Prop)(J:Pv 0 σ H)(hs:∀i c σ H,z.cps.toList[i]?=some c->Pv i σ H->g (.str ⟨#[c]⟩) σ H λσ2 B=>I { D with nx:=Pv<|i+1,ct:=Pv<|i+1,bk:=D.nx } σ2 B)(hd:∀σ H,Pv z.cps.toList.length σ H->D.nx σ H):CW (Ie z) g (λN σ2 B=>I { D with nx:=N,ct:=N,bk:=D.nx } σ2 B) σ H D.nx :=
 QH Pv J hs hd
def Ace:BX X (.type "int") (λxs H Q=>∃z n,xs=[.str z]/\Y7 z=some n/\z.length<=640/\Q (.int n) H):=by intro π s σ H xs us Q I r zz;obtain⟨z,n,e,B,D,q⟩:=BB zz;subst e;obtain⟨u,rfl,t,rfl⟩:=Au r.one;exact PySem.W.KIN.call_text B D ⟨.int n,H,I.tok _,(⟨_,rfl⟩),q⟩
inductive Jq(K:UT)(H:Hp):V->af->Prop where
 |of {x:V} {t:af} (h:En K H x t):Jq K H x t
 |exc {a C:ar} (e:H a=some (EY a (.ref C))) (c:EZ K C):Jq K H (.ref a) (.ref C)
def Acf{π:List (ar×Obj)}{σ:St}{H:Hp}{s:US}{A:Vf}{E:af->US->Prop}{Q:af->US->Prop}{c:af}{b:Bool}{x:V}{u t:af}(I:Ac X π σ H s)(B:AH x u)(ty:Jq X.K H x t)(e:WB X.K t c=some b)(h:∀tk,Q (.bool b) { s with toks:=tk }) :
  UY (U1 X.prog X.w) A (call (.builtin "isinstance") [u,c]) Q E s:=by
 cases ty with
 |of ty=>exact Aba I B ty e h
 |@exc a C D J =>
  cases(show u=Vo a from B);obtain⟨p,_⟩:=(show Bv X.prog X.w H s.heap a (EY a<|.ref C)from I.ah a _ D);exact WK (QB J) I.aH p e (λz=>nomatch z) h
noncomputable def G8:V->Option af
 |.ref a=>some (.ref a)
 |.ty n=>some (.type n)
 |_=>none
def QI (e:G8 c=some v)(r:AH c u):u=v:=by cases c<;>simp only[G8]at e<;>first|(cases e;done)|(cases e;exact r)
def Acg:BX X (.builtin "isinstance") (λxs H Q=>∃x c t v b,xs=[x,c]/\Jq X.K H x t/\G8 c=some v/\WB X.K t v=some b/\Q (.bl b) H):=by intro π s σ H xs us Q I r zz;obtain⟨x,c,t,v,b,e,ty,hc,hk,q⟩:=Pa zz;subst e;obtain⟨u,w,rfl,B,D⟩:=BB r.two;cases QI hc D;exact Acf I B ty hk λJ=>⟨.bl b,H,I.tok _,rfl,q⟩
theorem QJ:∀{B:List V}{us vs:List af},B.mapM G8=some vs->AA B us->us=vs
 |[],_,vs,e,r=>by cases r;simp at e;exact e.symm
 |c::B,_,vs,e,r=>by
  cases r with
  |cons H I =>
   simp only[List.mapM_cons,Option.bind_eq_bind,Option.bind_eq_some_iff,Option.pure_def,Option.some.injEq]at e;replace e:=Au e;obtain⟨v,hv,J,D,rfl⟩:=e
   rw [QI hv H,QJ D I]
def Ach:BX X (.builtin "isinstance") (λxs H Q=>∃a C p B vs b,xs=[.ref a,.ref p]/\H a=some (EY a<|.ref C)/\EZ X.K C/\H p=some (.tup B)/\B.mapM G8=some vs/\YG X.K (.ref C) vs=some b/\Q (.bl b) H):=by intro π s σ H xs us Q I r zz;obtain⟨a,C,p,B,vs,b,e,L,O,V,hc,hk,q⟩:=zz;subst e;obtain⟨u,w,rfl,Y,aY⟩:=BB r.two;cases(show u=Vo a from Y);cases(show w=Vo p from aY);obtain⟨p1,_⟩:=(show Bv X.prog X.w H s.heap a (EY a<|.ref C)from I.ah a _ L);obtain⟨_,its,rv,⟨cls,dd,data,sl⟩,e1,D,n,J⟩:=(show Bv X.prog X.w H s.heap p (.tup B)from I.ah p _ V);simp only at D J;subst D J;cases QJ hc rv;exact PySem.W.kia_tup (QB O) I.aH p1 e1 hk (λz=>nomatch z) λtk=>⟨.bl b,H,I.tok _,rfl,q⟩
def Jr (V:PE X e J):PE X (.FormattedValue e 114 none pos) (λσ H Q=>J σ H λx B=>∃z,x=.str z/\(wq z).length<=sizeLine/\Q (.str<|wq z) B):=by
 show 0;refine wpAny_FormattedValue_repr<|As (V π s σ H _ I h) λv s1 Y=>AF Y λx B L r1 D=>?_;replace D:=AG D;obtain⟨z,rfl,O,q⟩:=D
 obtain⟨t,rfl⟩:=r1;refine wpAny_pyReprObj_gives (ZA _ _ _) F.slot_str_repr F.entry_str_repr (F.args_str_repr_1 _) (gives_str_repr z t) ?_ rfl O;exact yf ⟨.str _,B,L.tok _,(⟨_,rfl⟩),q⟩ ⟨.str _,B,L.tok _,(⟨_,rfl⟩),q⟩ O
abbrev TJ:=aU->St->Hp->(aU->Hp->Prop)->Prop
def PJ(X:Cx)(es:List UX)(t:TJ):Prop:=∀(acc:aU)(π:List (ar×Obj))(s:US)(σ:St)(H:Hp)(Q:aU->Hp->Prop),Ac X π σ H s->t acc σ H Q ->
 Joins (U1 X.prog X.w) X.A X.xe (evalEach es X.env) acc (λout s₁=>∃H',Ac X π σ H' s₁/\Q out H') s
def G9:PJ X [] (λB _ H Q=>Q B H):=λ_ _ _ _ H _ I h=>⟨H,I,h⟩
def C3 (V:PE X e L)(hs:PJ X es O)(Y:evalEach (e::es) X.env=U9 e X.env::evalEach es X.env:=by rfl):
  PJ X (e::es) (λB σ H Q=>L σ H λx D=>∃y,x=.str y/\(B++y).length<=sizeLine/\O (B++y) σ D Q):=by
 intro B π s σ H Q I h;rw[Y];refine As (V π s σ H _ I h) λv s1 zz=>AF zz λx D I1 r1 J=>?_;replace J:=AG J;obtain⟨y,rfl,hz,q⟩:=J
 obtain⟨t,rfl⟩:=r1;exact⟨y,t,rfl,hz,hs _ π s1 σ D Q I1 q⟩
theorem Joins.imp (hq:∀x s,Q x s->D x s):∀{l:List (Sem af)}{B:aU}{s:US},Joins M A E l B Q s->Joins M A E l B D s
 |[],_,_,h=>hq _ _ h
 |x::rest,B,s,h=>As (t:=x) h λv J H=>AF H λy t e I r=>⟨y,t,e,I,Joins.imp hq r⟩
def Hg (h:PJ X (e::D::es) J):PE X (.JoinedStr (e::D::es) pos) (λσ H Q=>J VD σ H λout B=>out.length<=sizeLine/\Q (.str out) B):=by intro π s σ H Q I hw;refine wpAny_JoinedStr<|Joins.imp (λout V zz=>?_) (h VD π s σ H _ I hw);obtain⟨B,L,O,q⟩:=AG zz;exact⟨O,.str out,B,L.tok _,(⟨_,rfl⟩),q⟩
end
section
variable {P:UZ}{w:UU}{K:UT}{mg:aU->Option af}{base:Heap}
def AE.aS{x B:aU}{st:Stmt}{f:ar}{I:U7}{N ps:List aU}{k:Nat}{sp:Sp}(F:AE K x B st f I)(S:EE N ps (Ab st))(J:∀(D:af) (A:Vf) (outer:List Env) (s:US) (H:Hp) (vs:List V) (Q:VK) (E:XK),BE k (A.deeper<|Xh B (Ab st) s.heap.objs.size f D)->sp vs H Q E ->
   ∃t,Di (DJ (AI P w) P w K mg base N B (Ab st) f D A outer s H E) (FF st) t/\t { nx:=λ_ L=>Q .aa L,rt:=Q } (start N vs) H)(len:∀vs H Q E,sp vs H Q E->vs.length=ps.length:=by intro _ _ _ _ h;repeat (first|exact congrArg Yi h.1|obtain⟨_,h⟩:=h)):Az P w K mg base (AI P w) (k+1) f I ps sp:=by
 obtain⟨oc,od,kV,O,pm,an,D,ct,eK,rfl,lk,Y⟩:=Md F.ex;exact Qg lk Y S len λA outer s H vs Q E hr dG=>J D A outer s H vs Q E hr dG
def Bt(P:UZ)(w:UU)(K:UT)(mg:aU->Option af)(base:Heap)(CX:Cp)(k:Nat)(x:aU)(ps:List aU)(sp:Sp):Prop :=
 ∃f fd,mg x=some (.ref f)/\WU K (.ref f)=true/\DI K fd ps []/\Az P w K mg base CX k f fd ps sp
end
section
variable {X:Cx}{CX:Cp}{k:Nat}{x:aU}{ps:List aU}{sp:Sp}{p pos:Pos}{e:UX}{es:List UX}{t:TA}
def Aci (D:Bt X.prog X.w X.K X.mg X.base CX k x ps sp)(B:BE k X.A)(hx:DB CX X E)(H:PA X (e::es) t)(I:Gl X x:=by rfl)(J:(x == ("__debug__":aU))=false:=by decide)(L:U8 (e::es) X.env=(false,U9 e X.env)::U8 es X.env:=by rfl)(O:(Vu pos<|U8 es X.env).any (·.1)=false:=by rfl):
  PE X (.Call (.Name x p) (e::es) [] pos) (Kx sp [] E t):=by
 obtain⟨f,fd,V,Y,h3,h4⟩:=BB D;exact Abg h4 B I V Y h3 .nil hx H J L O
def GD:DB (AI P w) X E0:=λ_ _ _ _ _ _ _ h=>by
 obtain⟨_,_,_,_,_,_,_,_,_,_,_,_,_,z⟩:=IV h;exact z.elim
end
section
variable {X:Cx}
def BL:Bc X (Wz .Add) (λx y H Q=>(∃i j,x=.int i/\y=.int j/\Q (.int<|i+j) H)\/(∃i j,x=.str i/\y=.str j/\i.length+j.length<=sizeLine/\Q (.str<|i++j) H)\/Qt x y H Q):=AaL.or<|AaW.or AbL
def Ce:Bc X (Wz .Mult) (λx y H Q=>(∃i j,x=.int i/\y=.int j/\Ji i j/\Q (.int<|i*j) H)\/QF x y H Q\/Qu x y H Q):=AaM.or<|Ab9.or AbN
def B5(hu:X.A.units+64<cLine):Bc X (VE .Eq) (λx y H Q=>Mo x y H Q\/Jp X.K false x y H Q):=AaO.or<|Ab2 hu
def E8(hu:X.A.units+64<cLine):Bc X (VE .NotEq) (λx y H Q=>PH x y H Q\/Jp X.K true x y H Q):=AaP.or<|Ab3 hu
noncomputable def Hh(i j:aU):Bool:=!(vJ j i 0 j.length 1).isEmpty
def Ig:Bc X (VE .In) (λx y H Q=>(∃i j,x=.str i/\y=.str j/\Q (.bl<|Hh i j) H)\/Ic X.K false x y H Q):=AaR.or AbB
def KJ:Bc X (VE .NotIn) (λx y H Q=>(∃i j,x=.str i/\y=.str j/\Q (.bl<|!Hh i j) H)\/Ic X.K true x y H Q):=AbD.or AbC
def B8:BX X (.builtin "len") (λxs H Q=>(∃z,xs=[.str z]/\z.length<=sizeLine/\Q (.int z.length) H)\/∃p ys,xs=[.ref p]/\(A2 X.K H p ys\/Bn X.K H p ys)/\Q (.int ys.length) H):=AbF.or AbE
def Hi:BX X (.builtin "isinstance") (λxs H Q=>(∃x c t v b,xs=[x,c]/\Jq X.K H x t/\G8 c=some v/\WB X.K t v=some b/\Q (.bl b) H) \/
 ∃a C p B vs b,xs=[.ref a,.ref p]/\H a=some (EY a<|.ref C)/\EZ X.K C/\H p=some (.tup B)/\B.mapM G8=some vs/\YG X.K (.ref C) vs=some b/\Q (.bl b) H):=Acg.or Ach
def Acj:BX X (.type "int") (λxs H Q=>∃z n,xs=[.str z]/\Y7 z=some n/\z.length<=640/\Q (.int n) H):=Ace
def Js:F0 X (λx lo B H Q=>Mx x lo B H Q\/Mt X.K x lo B H Q):=Ab8.or Abz
end
def GF{α:Type}{xs:List α}{k:Int}(D:0<=k)(h:k<xs.length):∃v,Cd xs k=some v/\xs[k.toNat]?=some v:=by
 have B:k.toNat<xs.length:=(by omega)
 refine⟨xs[k.toNat],?_,Vi B⟩;unfold Cd CY;rw[bf D,bf h];exact Vi B
def Ih{ns:List Int}{k:Int}(H:0<=k)(h:k<ns.length):Cd (ns.map V.int) k=some (.int<|ns.getD k.toNat 0):=by
 obtain⟨v,I,B⟩:=Au<|GF (xs:=ns.map V.int) H (by simpa using h);have D:k.toNat<ns.length:=(by omega)
 rw [Va,Vi D]at B;cases B;rw[I];simp[Vt,Vi D]
def Ah.upd (s:Ah H B)(h:B p=none):Ah H (upd B p o):=λb I e=>by
 have D:=s b I e;rwa[Aw<|Cn D h]
def Ah.bq (s:Ah H B)(h:H p=none):Ah H (L2.upd B p o):=λb D e=>by
 rw [Aw<|Cn e h];exact s b D e
structure Nm(sc:Scope)(x:aU):Prop where
 loc:sc.names.lookup x=some .local
 db:(x == ("__debug__":aU))=false
 cd:(x == ("__classdict__":aU))=false
structure Gm(sc:Scope)(x:aU):Prop where
 gl:sc.names.lookup x=some .globalImplicit
 db:(x == ("__debug__":aU))=false
 nn:x≠"__name__"
def Nm.of{sc:Scope}{x:aU}(a:sc.names.lookup x=some .local:=by decide +kernel)(b:(x == ("__debug__":aU))=false:=by decide +kernel)(c:(x == ("__classdict__":aU))=false:=by decide +kernel):Nm sc x:=⟨a,b,c⟩
def Gm.of{sc:Scope}{x:aU}(a:sc.names.lookup x=some .globalImplicit:=by decide +kernel)(b:(x == ("__debug__":aU))=false:=by decide +kernel)(c:x≠"__name__":=by decide +kernel):Gm sc x:=⟨a,b,c⟩
def EE.of{N P:List aU}{sc:Scope}(a:sc.kind=.function:=by rfl)(b:sc.isCoroutine=false:=by rfl)(c:sc.isGenerator=false:=by rfl)(d:N.Nodup:=by decide +kernel)(e:N.take P.length=P:=by rfl)(f:∀x∈P,sc.names.lookup x=some .local\/sc.names.lookup x=some .cell:=by decide +kernel)(g:∀y∈sc.names,y.2≠.free:=by decide +kernel):EE N P sc:=⟨a,b,c,d,e,f,g⟩
structure AM(N P:List aU)(sc:Scope):Prop where
 fs:EE N P sc
 nm:∀x∈N,Nm sc x
def AM.of{N P:List aU}{sc:Scope}(a:sc.kind=.function:=by rfl)(b:sc.isCoroutine=false:=by rfl)(c:sc.isGenerator=false:=by rfl)(d:N.Nodup:=by decide +kernel)(e:N.take P.length=P:=by rfl)(f:∀y∈sc.names,y.2≠.free:=by decide +kernel)(g:(N.all λx=>decide (sc.names.lookup x=some .local) && (!(x == ("__debug__":aU)) && !(x == ("__classdict__":aU))))=true:=by decide +kernel):AM N P sc:=by
 have nm:∀x∈N,Nm sc x:=λx hx=>by
  have:=WL.mp g x hx;simp only[WC,decide_eq_true_eq,xV]at this;exact⟨this.1,this.2.1,this.2.2⟩
 exact⟨⟨a,b,c,d,e,λx hx=>.inl (nm x<|ZK (e▸hx)).loc,f⟩,nm⟩
def AM.n (S:AM N P sc)(i:Nat)(h:N[i]?=some x):Nm sc x:=S.nm x<|Vh h
def B0:VS "len"=some (.builtin "len"):=(by decide +kernel)
def Hj:VS "isinstance"=some (.builtin "isinstance"):=(by decide +kernel)
def My:VS "int"=some (.type "int"):=(by decide +kernel)
def Ack:VS "bool"=some (.type "bool"):=(by decide +kernel)
def QK:VS "str"=some (.type "str"):=(by decide +kernel)
def E9:VS "list"=some (.type "list"):=(by decide +kernel)
def KL:VS "tuple"=some (.type "tuple"):=(by decide +kernel)
def Acl:VS "set"=some (.type "set"):=(by decide +kernel)
def Acm:VS "ValueError"=some (.type "ValueError"):=(by decide +kernel)
def Acn:VS "min"=some (.builtin "min"):=(by decide +kernel)
def KN:VS "sorted"=some (.builtin "sorted"):=(by decide +kernel)
def Aco:VS "all"=some (.builtin "all"):=(by decide +kernel)
section
variable {X:Cx}{x:aU}{pos p:Pos}
def Ap(i:Nat)(n:Nm X.env.scope x)(B:X.N[i]?=some x:=by rfl):PE X (.Name x pos) (IX i):=Mg B (U6 n.loc) n.db n.cd
def Cf(i:Nat)(B:X.N.Nodup)(n:Nm X.env.scope x)(D:X.N[i]?=some x:=by rfl):PG X (.Name x pos) (EV i):=Pl B D (U6 n.loc)<|U4 n.loc
def Dm(i:Nat){e:UX}{D:TE}{B:Pos}(H:X.N.Nodup)(n:Nm X.env.scope x)(I:PE X e D)(J:X.N[i]?=some x:=by rfl)(hs:Xq e (some<|.Name x B) pos.line X.env=pure false:=by rfl) :
  PS X (.Assign [.Name x B] e pos) (Gs D<|EV i):=Po H J (U6 n.loc) I hs<|U4 n.loc
def Aa (i:Nat)(S:AM X.N P X.env.scope)(B:X.N[i]?=some x:=by rfl):PE X (.Name x pos) (IX i):=Ap i (S.n i B) B
def B9 (i:Nat)(S:AM X.N P X.env.scope)(B:X.N[i]?=some x:=by rfl):PG X (.Name x pos) (EV i):=Cf i S.fs.nd (S.n i B) B
def A8(i:Nat){P:List aU}{e:UX}{D:TE}{B:Pos}(S:AM X.N P X.env.scope)(I:PE X e D)(H:X.N[i]?=some x:=by rfl)(hs:Xq e (some<|.Name x B) pos.line X.env=pure false:=by rfl) :
  PS X (.Assign [.Name x B] e pos) (Gs D<|EV i):=Dm i S.fs.nd (S.n i H) I H hs
def Ea (g:Gm X.env.scope x)(B:X.mg x=some u)(r:AH v u):PE X (.Name x pos) (tC v):=Aak g.gl B r g.db
def Mz (g:Gm X.env.scope x)(B:X.mg x=none)(hv:VS x=some u)(r:AH v u):PE X (.Name x pos) (tC v):=Aal g.gl B hv r g.nn g.db
variable {e:UX}{es:List UX}{t:TA}{id T:String}{r:List V->Hp->VK->Prop}
def Bo(hc:BX X (.builtin id) r)(g:Gm X.env.scope x)(B:X.mg x=none)(hv:VS x=some (.builtin id))(D:PA X (e::es) t)(H:U8 (e::es) X.env=(false,U9 e X.env)::U8 es X.env:=by rfl)(I:(Vu pos<|U8 es X.env).any (·.1)=false:=by rfl):PE X (.Call (.Name x p) (e::es) [] pos) (KA r t):=Abm hc g.gl B hv D g.nn g.db H I
def CO(hc:BX X (.type T) r)(g:Gm X.env.scope x)(B:X.mg x=none)(hv:VS x=some (.type T))(D:PA X (e::es) t)(H:U8 (e::es) X.env=(false,U9 e X.env)::U8 es X.env:=by rfl)(I:(Vu pos<|U8 es X.env).any (·.1)=false:=by rfl):PE X (.Call (.Name x p) (e::es) [] pos) (KA r t):=Abn hc g.gl B hv D g.nn g.db H I
def A9 (D:Bt X.prog X.w X.K X.mg X.base CX k x ps sp)(g:Gm X.env.scope x)(B:BE k X.A)(hx:DB CX X E)(H:PA X (e::es) t)(I:U8 (e::es) X.env=(false,U9 e X.env)::U8 es X.env:=by rfl)(J:(Vu pos<|U8 es X.env).any (·.1)=false:=by rfl):
  PE X (.Call (.Name x p) (e::es) [] pos) (Kx sp [] E t):=Aci D B hx H g.gl g.db I J
def Hk (g:Gm X.env.scope "range")(H:X.mg "range"=none)(I:PA X [b] B)(hs:U8 [b] X.env=[(false,U9 b X.env)]:=by rfl):PI X D (.Call (.Name "range" p) [b] [] pos) (Px B):=AaE g.gl H I hs
def DN{W:St->XK}{C:ar}{D B:Pos}(H:Mv X W)(g:Gm X.env.scope x)(hc:X.calm=true)(q:Xt X.K C [.type "ValueError",.type "Exception",.type "BaseException",.type "object"] "ValueError.__new__"=true)(I:X.mg x=some (.ref C))(J:PA X (e::es) t)(L:U8 (e::es) X.env=(false,U9 e X.env)::U8 es X.env:=by rfl)(O:(Vu B<|U8 es X.env).any (·.1)=false:=by rfl) :
  PS X (.Raise (some<|.Call (.Name x D) (e::es) [] B) none pos) (Qz W C t):=AbU H hc q I J g.gl g.db L O
def Acp{body D:List Stmt}{H:Stmt}{n:aU}{O Y:Pos}(i:Nat){I:ar}{J:(af->US->Prop)->List (ar×Obj)->(St->XK)->TS}{ts:ar->TS}(g:Gm X.env.scope x)(nm:Nm X.env.scope n)(hm:X.mg x=some (.ref I))(nd:X.N.Nodup)(hb:∀B π W,KI (AI X.prog X.w) (X.tr B π) W->Zq (U1 X.prog X.w) X.A X.env B->Di (X.tr B π) body (J B π W))(hs:∀L,Di (X.su L) (H::D)<|ts L)(hi:X.N[i]?=some n:=by rfl)(hex:X.ex=[]:=by rfl)(aG:X.stack=X.env::X.outer:=by rfl)(mZ:X.env.frame=some X.env.locals:=by rfl) :
  PS X (.Try body [.ExceptHandler (some<|.Name x O) (some n) (H::D) Y] [] [] pos) (QA X.K I i J ts):=AbV hex aG mZ hm nd hi hb hs g.gl nm.loc g.db
end
noncomputable def Jt:UX->Option V
 |.Constant (.int i) _ _=>some (.int i)
 |.Constant (.str x) _ _=>some (.str x)
 |.Constant (.bool b) _ _=>some (.bl b)
 |.Constant .none _ _=>some .aa
 |_=>none
noncomputable def MA:List UX->Option (List V)
 |[]=>some []
 |e::es=>match Jt e,MA es with
  |some v,some vs=>some (v::vs)
  |_,_=>none
section
variable {X:Cx}
def Acq (h:Jt e=some v):PE X e (tC v):=by unfold Jt at h;split at h<;>first|(cases h;first|exact Aj|exact Ae|exact DX|exact Cv)|cases h
def Acr (h:Jt e=some v)(es:List UX):U8 (e::es) X.env=(false,U9 e X.env)::U8 es X.env:=by unfold Jt at h;split at h<;>first|rfl|cases h
theorem Ii:∀{es:List UX}{vs:List V},MA es=some vs->PA X es (λ_ H Q=>Q vs H)
 |[],vs,h=>by
  cases h;exact B3
 |e::es,vs,h=>by
  unfold MA at h;split at h
  .rename_i v vs' h1 h2
   cases h;exact Co (Acq h1) (Ii h2) (Acr h1 es)
  .cases h
end
theorem KO{env:Env}{x:aU}:∀{ns:List (aU×XF)},(ns.map λ(n,k)=>if (k == XQ && env.scope.kind == .function && env.kindOf n == some .cell) then(n,wu) else(n,k)).lookup x
   =(ns.lookup x).map λk=>if (k == XQ && env.scope.kind == .function && env.kindOf x == some .cell)then wu else k
 |[]=>rfl
 | (n,k)::r=>by
  have ih:=@KO env x r;rw[VP];cases q:x == n with
  |true =>
   have e:x=n:=beq_iff_eq.mp q;subst e;rw[WZ,WZ,q];by_cases hc:(k == XQ && env.scope.kind == .function && env.kindOf x == some .cell)=true
   .simp only[hc,if_true,q,Wh]
   .simp only[hc,if_false,q,Wh,YH]
  |false =>
   rw [WZ,WZ,q];by_cases hc:(k == XQ && env.scope.kind == .function && env.kindOf n == some .cell)=true
   .simp only[hc,if_true,q];exact ih
   .simp only[hc,if_false,q,YH];exact ih
def MB (h:sc.names.lookup x=some .free):(Wr sc env).names.lookup x=some .cell\/(Wr sc env).names.lookup x=some .free:=by
 have e:(Wr sc env).names.lookup x=_:=KO;rw[h]at e;rw[e,Wh];by_cases hc:(XQ == XQ && env.scope.kind == .function && env.kindOf x == some .cell)=true
 .rw[bf hc];exact .inl rfl
 .rw[ck hc];exact .inr rfl
def KP (h:sc.names.lookup x=some k)(hk:(k == XQ)=false):(Wr sc env).names.lookup x=some k:=by have e:(Wr sc env).names.lookup x=_:=KO;rwa[h,Wh,hk]at e
def Acs (B:∀y∈sc.names,y.2=.cell->ko=some y.1)(h:(Wr sc env).names.lookup x=some .cell\/(Wr sc env).names.lookup x=some .free):sc.names.lookup x=some .free\/ko=some x:=by
 have e:(Wr sc env).names.lookup x=_:=KO;cases q:sc.names.lookup x with
 |none=>rw[q]at e;rw[e]at h;rcases h with z|z<;>cases z
 |some k =>
  rw [q,Wh]at e;cases k with
  |free=>exact .inl rfl
  |cell=>exact .inr<|B _ (Xs q) rfl
  |_=>rw[e]at h;rcases h with z|z<;>cases z
theorem MC:∀(ns:List (aU×XF))(B:List (aU×ar)),(∀y∈ns,y.2=.free->∃c,env.cells.lookup y.1=some c)->(∀x c,B.lookup x=some c->env.cells.lookup x=some c) ->
  ∃cl,(forIn ns B λ(x:aU×XF) (r:List (aU×ar))=>if (x.2 == .free)=true then do let c <-cellOf env x.1;pure (ZL ((x.1,c)::r))else pure (ZL r):Sem (List (aU×ar)))=pure cl /\
   (∀x c,cl.lookup x=some c->env.cells.lookup x=some c)/\(∀y∈ns,y.2=.free->∃c,cl.lookup y.1=some c)/\∀x c,B.lookup x=some c->∃D,cl.lookup x=some D
 |[],B,_,I=>⟨B,rfl,I,λy hy=>by simp at hy,λx c e=>⟨c,e⟩⟩
 | (n,k)::r,B,h1,I=>by
  rw [List.forIn_cons];by_cases hk:k=.free
  .subst hk;obtain⟨c,hc⟩:=h1 (n,.free) VJ rfl;have hc:env.cells.lookup n=some c:=hc;obtain⟨cl,e,L,O,H⟩:=MC r ((n,c)::B) (λy hy=>h1 y (Vw _ hy)) (λx D e=>by
    rw [WZ]at e;cases q:x == n with
    |true=>rw[q]at e;cases e;rw[beq_iff_eq.mp q];exact hc
    |false=>rw[q]at e;exact I x D e)
   refine⟨cl,?_,L,λy hy J=>?_,λx D e=>?_⟩
   .have:cellOf env n=pure c:=by unfold cellOf;rw[hc]
    simp only[beq_self_eq_true,if_true,this,pure_bind];exact e
   .rcases Vc.mp hy with z|z
    .subst z;exact H n c (by rw[WZ,beq_self_eq_true])
    .exact O y z J
   .cases q:x == n with
    |true=>exact H x c (by rw[WZ,q])
    |false=>exact H x D (by rw[WZ,q];exact e)
  .have hb:(k == XQ)=false:=beq_eq_false_iff_ne.mpr hk;obtain⟨cl,e,L,O,H⟩:=MC r B (λy hy=>h1 y (Vw _ hy)) I;refine⟨cl,?_,L,λy hy J=>?_,H⟩
   .simp only[hb,YH,if_false,pure_bind];exact e
   .rcases Vc.mp hy with z|z
    .subst z;exact absurd J hk
    .exact O y z J
def Acu (h:∀y∈sc.names,y.2=.free->∃c,env.cells.lookup y.1=some c):
  ∃cl,closureFor sc env=pure cl/\(∀x c,cl.lookup x=some c->env.cells.lookup x=some c)/\∀y∈sc.names,y.2=.free->∃c,cl.lookup y.1=some c:=by
 obtain⟨cl,e,B,D,_⟩:=AG<|MC sc.names [] h (λx c e=>by cases e);refine⟨cl,?_,B,D⟩;unfold closureFor;show(forIn sc.names ([]:List (aU×ar)) _ >>= λr=>pure r)=_;rw[bind_pure,<-e]
def Ju{α:Type}{M:Xo}{A:Vf}{t:Sem α}{Q B:α->US->Prop}{E:af->US->Prop}{s:US}(h:UY M A t Q (λ_ _=>False) s)(hq:∀a s,Q a s->B a s):UY M A t B E s:=Ws h hq λ_ _ f=>f.elim
noncomputable def KQ(ifs:List UX)(env:Env):Sem Bool:=forIn ifs true λc r=>if r=true then do let ok <-YT c env (U9 c env);pure (ZL ok)else pure (ZL r)
def QL(CE tg iter:UX)(ifs:List UX)(it acc:af)(env:Env)(b:Sem Unit):Prop:=compTurn CE 0 it acc env=(do
  Wo iter.pos
  match <-WT it with
  |none=>pure (.done .next)
  |some v =>
   Yv tg it v
   WS tg env v
   let ok <-KQ ifs env
   if ok then b
   again (.compLoop CE 0 it acc env))
def QM(prog:UZ)(w:UU)(CE:UX):Prop:=∀it acc env (A:Vf),A.under (.compLoop CE 0 it acc env)=A/\(U1 prog w).den (.compLoop CE 0 it acc env)=(compTurn CE 0 it acc env).onRaise (λx=>do ZH x env;theTreesLotGoes x)
def Acv{prog:UZ}{w:UU}{A:Vf}{R:Yz->US->Prop}{s:US}{CE L iter:UX}{D:List UX}{it B:af}{env:Env}{b:Sem Unit}(Y:QM prog w CE)(hT:QL CE L iter D it B env b)(I:Nat->US->Prop)(turn:∀n s,I n s->UY (U1 prog w) A (WT it) (λr O=>match r with
   |none=>R (.ok .next) O
   |some v=>UY (U1 prog w) A (Yv L it v) (λ_ s₂=>UY (U1 prog w) A (WS L env v) (λ_ s₃=>UY (U1 prog w) A (KQ D env) (λok V =>
     if ok=true then UY (U1 prog w) A b (λ_ s₆=>∃m,m<n/\I m s₆) (λ_ _=>False) V else ∃m,m<n/\I m V) (λ_ _=>False) s₃) (λ_ _=>False) s₂) (λ_ _=>False) O) (λ_ _=>False) s)(n:Nat)(h:I n s):Wf (U1 prog w) A (.compLoop CE 0 it B env) R s:=by
 refine codeAny_loop rfl I (λn s hI=>?_) n h;rw[(Y it B env A).1,(Y it B env A).2];apply wpAny_noted;rw[hT];refine U2<|X8 (U2<|Ju (turn n s hI) λr O H=>?_);match r,H with
 |none,H=>exact Vd H
 |some v,H =>
  refine U2<|Ju H λ_ s₂ h₂=>U2<|Ju h₂ λ_ s₃ h₃=>U2<|Ju h₃ λok V J=>?_;match ok,J with
  |false,J=>exact Vd ⟨rfl,J⟩
  |true,J=>exact U2<|Ju J λ_ s₆ h₆=>Vd ⟨rfl,h₆⟩
noncomputable def Dp:Option aU->ar->List (aU×ar)
 |none,_=>[]
 |some k,c=>[(k,c)]
noncomputable def GG:Option aU->Heap->Heap
 |none,h=>h
 |some _,h=>h.push { cls:=.type "cell",data:=.cell none }
structure Bl(sc cD:Scope)(N' N:List aU)(aF:List (Option Nat))(ko:Option aU:=none):Prop where
 kind:sc.kind=.function
 own:∀n cl,YD n sc.names cl=Dp ko n++cl
 push:∀h:Heap,wz h sc.names=GG ko h
 cells:∀y∈sc.names,y.2=.cell->ko=some y.1
 kc:∀k∈ko,sc.names.lookup k=some .cell
 one:∀y∈sc.names,y.2=.local->sc.names.lookup y.1=some .local
 frees:∀y∈sc.names,y.2=.free->cD.names.lookup y.1=some .cell\/cD.names.lookup y.1=some .free
 nd:N'.Nodup
 len:aF.length=N'.length
 out:∀i j:Nat,aF[i]?=some (some j)->∃x,N'[i]?=some x/\N[j]?=some x/\sc.names.lookup x=some .free/\(cD.names.lookup x=some .cell\/cD.names.lookup x=some .free)
def Jv (e:(Dp ko B++cl).lookup x=some c):(ko=some x/\c=B)\/cl.lookup x=some c:=by
 cases ko with
 |none=>exact .inr e
 |some k =>
  have e:((k,B)::cl).lookup x=some c:=e;rw[WZ]at e;cases q:x == k with
  |true=>rw[q]at e;cases e;exact .inl ⟨by rw[beq_iff_eq.mp q],rfl⟩
  |false=>rw[q]at e;exact .inr e
def Jw:(Dp (some x) B++cl).lookup x=some B:=by show((x,B)::cl).lookup x=_;rw[WZ,beq_self_eq_true]
def QN (n:ko≠some x)(e:cl.lookup x=some c):(Dp ko B++cl).lookup x=some c:=by
 cases ko with
 |none=>exact e
 |some k =>
  show((k,B)::cl).lookup x=_;rwa[WZ,beq_eq_false_iff_ne.mpr λz=>n<|by rw[z]]
def QO (e:h.get? b=some o):(GG ko h).get? b=some o:=by
 cases ko with
 |none=>exact e
 |some k=>exact Vp _ e
def Acw (own:∀n cl,YD n B.names cl=Dp ko n++cl)(push:∀h:Heap,wz h B.names=GG ko h)(J:Q (newEnv B s.heap.objs.size globals (Dp ko (s.heap.objs.size+1)++cl) D none .none (some gW) Zp) { s with heap:=GG ko (s.heap.push { cls:=.type "dict",data:=.dict #[] }) }):
  UY M A (yg B globals cl [] D none .none<|some gW) Q E s:=by
 simp only[yg,yh,if_true];refine U2<|wA ?_;refine U2<|wpAny_layCells _ (λI kind H=>by cases hkc:kind == wu<;>simp[hkc]) _ _ _ _ ?_;rw[own,push,show({ s with heap:=s.heap.push { cls:=.type "dict",data:=.dict #[] } }:US).heap.objs.size=s.heap.objs.size+1 from WA ..,List.forIn_nil];exact U2<|Vd (Vd J)
noncomputable def MD(aF:List (Option Nat))(σ:St):St:=aF.map λo=>o.bind λj=>(σ[j]?).join
noncomputable def Bu(X:Cx)(N':List aU)(sc:Scope)(cl:List (aU×ar))(C:ar)(fp:List ar)(π:List (ar×Obj))(s₂:US)(H₂:Hp):Cx :=
 { prog:=X.prog,w:=X.w,K:=X.K,mg:=X.mg,base:=X.base,A:=X.A,N:=N',s₀:=s₂,H₀:=H₂,env:=compEnvC sc cl C X.env,outer:=X.stack,stack:=X.stack,ex:=fp,fn:=λy=>sc.names.lookup y == some .cell,calm:=X.calm,pn:=X.pn++π,xe:=λ_ _=>False }
section
variable {X:Cx}{N':List aU}{sc:Scope}{aF:List (Option Nat)}{cl:List (aU×ar)}{ko:Option aU}{c0 C:ar}{fp:List ar}{π:List (ar×Obj)}{s₂:US}{H₂:Hp}{σ:St}
theorem ME(S:Bl sc X.env.scope N' X.N aF ko)(I:Ac X π σ H₂ s₂)(D:∀x c,cl.lookup x=some c->X.env.cells.lookup x=some c)(V:∀y∈sc.names,y.2=.free->∃c,cl.lookup y.1=some c)(L:s₂.heap.objs.size<=C)(J:s₂.heap.objs.size<=c0)(H:∀b∈fp,ED X π H₂ b)(Y:∀b∈fp,∃o,s₂.heap.get? b=some o):(Bu X N' sc (Dp ko c0++cl) C fp π s₂ H₂).Ok where
 mod:=I.ok.mod
 kind:=S.kind
 glob:=I.ok.glob
 blt:=I.ok.blt
 above:=L
 inj:=λx y c h1 h2=>by
  have B:∀z,cl.lookup z=some c0->False:=λz e=>by
   obtain⟨v,q⟩:=I.cell z c0 (D z c0 e);exact absurd (VM q.lt J) (Wv _)
  rcases Jv h1 with ⟨a1,b1⟩|b1<;>rcases Jv h2 with ⟨a2,b2⟩|b2
  .exact Vq (a1.symm.trans a2)
  .subst b1;exact(B _ b2).elim
  .subst b2;exact(B _ b1).elim
  .exact I.ok.inj x y c (D x c b1) (D y c b2)
 has:=λx hx=>by
  rcases Acs S.cells hx with z|z
  .obtain ⟨c,e⟩:=V _ (Xs z) rfl;exact⟨c,QN (λk=>by rw[S.kc x k]at z;cases z) e⟩
  .subst z;exact⟨c0,Jw⟩
 dC:=λx c hf e=>by
  have k:=S.cells _ (Xs (beq_iff_eq.mp hf)) rfl;have k:ko=some x:=k;subst k;cases Jw.symm.trans e;exact J
 hd:=I.ok.hd
 frames:=I.ok.frames
 aM:=.inl rfl
 fB:=λb hb=>by
  obtain⟨o,O⟩:=Y b hb;refine⟨Vv (VM (Vk O) L),λx c e=>?_⟩;rcases Jv e with ⟨_,z⟩|z
  .rw[z];exact Xf (VM (Vk O) J)
  .exact (H b hb).2.2.2.2.1 x c (D x c z)
 bs:=I.bs
 cz:=V7 I.ok.cz I.sz
 dD:=λb o e hb=>by
  rcases(H b hb).2.2.2.1 with z|z
  .exact I.ok.dD b o e z
  .exact absurd (VM (Vk (I.ok.bs b o e).1) z) (Wv _)
 dE:=λb hb z=>(Vc.mp (I.d9 b z)).elim (H b hb).2.1 (H b hb).2.2.1
 bD:=I.stack
 cP:=I.mD
def Acx{D:ar}{ob:Obj}{O:HO}{h₁:Heap}{tk:Nat}{m:aU->Option af}(S:Bl sc X.env.scope N' X.N aF ko)(I:Ac X π σ H₂ s₂)(L:∀x c,cl.lookup x=some c->X.env.cells.lookup x=some c)(fF:∀y∈sc.names,y.2=.free->∃c,cl.lookup y.1=some c)(c7:∀b∈fp,ED X π H₂ b)(fH:∀b∈fp,∃o,s₂.heap.get? b=some o)(hD:D=s₂.heap.objs.size)(hC:C=s₂.heap.objs.size+1)(g7:c0=s₂.heap.objs.size+2)(gb:∀k∈ko,h₁.IsCell c0 none)(I3:Ac X π σ (upd H₂ D O) { s₂ with heap:=s₂.heap.push ob })(hk:∀b o,(s₂.heap.push ob).get? b=some o->h₁.get? b=some o)(fE:h₁.Ns C m) :
  Ac (Bu X N' sc (Dp ko c0++cl) C fp π s₂ H₂) [] (MD aF σ) (upd H₂ D O) { s₂ with heap:=h₁,toks:=tk }:=by
 subst hD;have c8:s₂.heap.objs.size<=C:=by rw[hC];exact Wu _
 have g8:s₂.heap.objs.size<=c0:=by rw[g7];exact yj _ _
 have ok:=ME S I L fF c8 g8 c7 fH;have I4:Ac X π σ (upd H₂ s₂.heap.objs.size O) { s₂ with heap:=h₁,toks:=tk }:=I3.kept (t':=tk) hk;have B:∀b o,s₂.heap.get? b=some o->h₁.get? b=some o:=λb o e=>hk b o<|Vp _ e;have neD:∀b o,s₂.heap.get? b=some o->b≠s₂.heap.objs.size:=λb o e=>Vv<|Vk e;have rO:∀x c,cl.lookup x=some c->∃v o,s₂.heap.get? c=some o/\o.data=.cell v:=λx c e=>by
  obtain⟨v,o,H,hd⟩:=Bz<|I.cell x c (L x c e);exact⟨v,o,H,hd⟩
 refine⟨ok,rfl,I.bare,Un.laid B (Vb _) I.fresh,⟨m,fE,λi x v e1 e2 e3=>?_⟩,λx c e=>?_,?_,λx c e=>?_,λp hp=>?_,I4.ah,?_⟩
 .have J:(aF[i]?).map (λo=>o.bind λj=>(σ[j]?).join)=some (some v):=by
   have:=e2;unfold MD at this;rwa [Va]at this
  cases q:aF[i]? with
  |none=>rw[q]at J;cases J
  |some oj =>
   rw [q,Wh]at J;cases oj with
   |none=>cases J
   |some j =>
    have V:(σ[j]?).join=some v:=by simpa using J
    have e5:σ[j]?=some (some v):=by
     cases z:σ[j]? with
     |none=>rw[z]at V;cases V
     |some w=>rw[z]at V;rw[<-V];rfl
    obtain⟨x',n1,n2,Y,n4⟩:=AG<|S.out i j q;have dI:N'[i]?=some x:=e1;rw[n1]at dI;cases dI;obtain⟨m2,i7,hl⟩:=Au I.loc;have hv:Kn X.env.scope x:=n4.elim (λz=>.inr<|.inl z) λz=>.inr<|.inr z;obtain⟨u,r,l⟩:=Au<|hl j x v n2 e5 hv;refine⟨u,r,.inr ⟨MB Y,?_⟩⟩;rcases l with ⟨k,_⟩|⟨_,c,ec,z⟩
    .have k':X.env.scope.names.lookup x=some .local:=k;rcases n4 with z|z<;>rw[k']at z<;>cases z
    .obtain ⟨c',rP⟩:=fF _ (Xs Y) rfl;have:=L x c' rP;rw[ec]at this;cases this;obtain⟨o,H,hd⟩:=Au z;exact⟨c,QN (λk=>by rw[S.kc x k]at Y;cases Y) rP,o,B c o H,hd⟩
 .rcases Jv e with ⟨k,z⟩|e
  .rw[z];exact⟨none,gb x k⟩
  .obtain ⟨v,o,H,hd⟩:=Bz<|rO x c e;exact⟨v,o,B c o H,hd⟩
 .show upd H₂ s₂.heap.objs.size O C=none;rw[Aw<|by rw[hC];exact wB _];exact I.ah.fresh c8
 .show upd H₂ s₂.heap.objs.size O c=none;rcases Jv e with ⟨_,z⟩|e
  .rw[z,Aw<|by rw[g7];exact Xf<|Nat.lt_add_of_pos_right `x];exact I.ah.fresh g8
  .obtain ⟨v,o,H,hd⟩:=Bz<|rO x c e;rw[Aw<|neD c o H];exact I.bM x c<|L x c e
 .have b7:p∈X.pn++π:=by simpa [Bu]using hp
  obtain⟨e,n,ne,nf,d⟩:=AU<|I.pin p b7;obtain⟨_,n4,_⟩:=AU<|I4.pin p b7;exact⟨B _ _ e,n4,Vv<|VM (Vk e) c8,λz=>(Vc.mp<|I.d9 _ z).elim ne nf,d⟩
 .show (aF.map _).length=N'.length;rw[UW];exact S.len
def Acy{D:Hp}{σ':St}{H:US}(I:Ac X π σ H₂ s₂)(B:∀b∈fp,ED X π H₂ b)(J:Ac (Bu X N' sc cl C fp π s₂ H₂) [] σ' D H):Ac X π σ D H :=
 I.rh J.os J.base J.ah J.bare λb hb=>⟨(B b hb).2.2.2.1,(B b hb).2.1,(B b hb).2.2.2.2.1,(B b hb).2.2.2.2.2⟩
def F1(X:Cx)(ifs:List UX)(t:TT):Prop :=
 ∀(π:List (ar×Obj))(s:US)(σ:St)(H:Hp)(Q:Bool->Hp->Prop),Ac X π σ H s->t σ H Q->UY (U1 X.prog X.w) X.A (KQ ifs X.env) (TP X π σ Q) X.xe s
def Acz:TT:=λ_ H Q=>Q true H
def GH:F1 X [] Acz:=λπ s σ H Q I h=>wpAny_tests_nil ⟨H,I,h⟩
def GI (h:PT X c t):F1 X [c] t:=λπ s σ H Q I q=>wpAny_tests_one<|h π s σ H Q I q
abbrev MF(tt:TT)(ta:St->Hp->(Hp->Prop)->Prop)(N:St->Hp->Prop):St->Hp->Prop:=λσ3 H3=>tt σ3 H3 λb H4=>if b=true then ta σ3 H4 (N σ3)else N σ3 H4
def Ij(O:ar->HO)(ta:ar->St->Hp->(Hp->Prop)->Prop)(aF:List (Option Nat))(wi:TI)(g:TG)(tt:TT):TE:=λσ H Q=>wi σ H λJ H1=>∀D,H1 D=none->CW J g (MF tt (ta D)) (MD aF σ) (upd H1 D (O D)) λ_=>Q (.ref D)
structure Jx(X:Cx)(CE tg iter:UX)(ifs:List UX)(N':List aU)(sc:Scope)(mk:Sem af)(O:ar->HO)(ta:ar->St->Hp->(Hp->Prop)->Prop):Prop where
 cl:clausesOf CE=[⟨tg,iter,ifs,0⟩]
 den:QM X.prog X.w CE
 new:∀{π s σ H} {Q:af->US->Prop},Ac X π σ H s->(∀ob,Ac X π σ (upd H s.heap.objs.size (O s.heap.objs.size)) { s with heap:=s.heap.push ob }->Q (.ref s.heap.objs.size) { s with heap:=s.heap.push ob })->UY (U1 X.prog X.w) X.A mk Q X.xe s
 start:∀{it acc env R s},Wf (U1 X.prog X.w) X.A (.compLoop CE 0 it acc env) R s->UY (U1 X.prog X.w) X.A (Yw it) (λjj s'=>Wf (U1 X.prog X.w) X.A (.compLoop CE 0 jj acc env) R s') (notedBy (U1 X.prog X.w) X.A env λx s'=>R (.error x) s') s->Wf (U1 X.prog X.w) X.A (.compStart CE 0 it acc env) R s
 turn:∀cl C fp π s₂ H₂ it D,∃b,QL CE tg iter ifs it (.ref D) (compEnvC sc cl C X.env) b/\∀{bU s σ H N},Ac (Bu X N' sc cl C fp π s₂ H₂) bU σ H s->ta D σ H N->UY (U1 X.prog X.w) X.A b (λ_ s'=>∃H',Ac (Bu X N' sc cl C fp π s₂ H₂) bU σ H' s'/\N H') (λ_ _=>False) s
def QP{CE tg iter:UX}{ifs:List UX}{p:Pos}{mk:Sem af}{O:ar->HO}{ta:ar->St->Hp->(Hp->Prop)->Prop}{wi:TI}{g:TG}{tt:TT}{s:US}{H:Hp}{use:Option (af->Sem Unit)}{Qv:af->US->Prop}{Q:VK}(hc:X.calm=true)(S:Bl sc X.env.scope N' X.N aF ko)(hi:PI X tg iter wi)(hg:∀cl C fp π s₂ H₂,PG (Bu X N' sc cl C fp π s₂ H₂) tg g)(ht:∀cl C fp π s₂ H₂,F1 (Bu X N' sc cl C fp π s₂ H₂) ifs tt)(G:Jx X CE tg iter ifs N' sc mk O ta)(hs:∀x,XC iter X.env x=pure x)(I:Ac X π σ H s)(h:Ij O ta aF wi g tt σ H Q)(post:∀D C B s' m,(∀h',V8 C s'.heap h'->Ac X π σ B { s' with heap:=h' })->Ac X π σ B s'->s'.heap.Ns C m->(∀x c,X.env.cells.lookup x=some c->c≠C)->X.env.locals≠C->B C=none ->
   (∀σ' Y h',Ac X π σ' B Y->V8 C Y.heap h'->Ac X π σ' B { Y with heap:=h' })->Q (.ref D) B->compPost (U1 X.prog X.w) X.A X.xe use Qv (.ref D) C (.ok .next) s') :
  UY (U1 X.prog X.w) X.A (wC CE sc X.env p mk false (U9 iter X.env) use) Qv X.xe s:=by
 obtain⟨cl,aaF,cE,fF⟩:=AG<|Acu (env:=X.env) (sc:=sc) λy hy hf=>I.ok.has y.1<|S.frees y hy hf;refine wpAny_comprehension_free G.cl hs aaF S.kind S.one<|As (hi π s σ H _ I h) λxv s₁ h₁=>As h₁ λmK s₂ h₂=>?_;obtain⟨it,fp,tn,J,H₂,e,L,T,rQ,f₂,rd⟩:=IV h₂;subst e;refine G.new L λV I₃=>Acw S.own S.push ?_;dsimp only;have fH:∀b∈fp,∃o,s₂.heap.get? b=some o:=λb hb=>let ⟨o,e,_⟩:=T.obj _ _ rQ b hb;⟨o,e⟩;have jk:(s₂.heap.push V).objs.size=s₂.heap.objs.size+1:=WA ..;have fE:=(Heap.Ns.new (s₂.heap.push V)<|.type "dict").keeps λb o e=>QO (ko:=ko) e;have gb:∀k∈ko,(GG ko<|(s₂.heap.push V).push { cls:=.type "dict",data:=.dict #[] }).IsCell (s₂.heap.objs.size+2) none:=λk e=>by
  have e:ko=some k:=e;subst e;have e:((s₂.heap.push V).push { cls:=.type "dict",data:=.dict #[] }).objs.size=s₂.heap.objs.size+2:=by rw[WA,WA]
  have q:=VO ((s₂.heap.push V).push { cls:=.type "dict",data:=.dict #[] }) (o:={ cls:=.type "cell",data:=.cell none }) rfl;rw[e]at q;exact⟨_,q,rfl⟩
 have hk:∀b o,(s₂.heap.push V).get? b=some o->(GG ko<|(s₂.heap.push V).push { cls:=.type "dict",data:=.dict #[] }).get? b=some o:=λb o e=>QO<|Vp _ e;generalize GG ko ((s₂.heap.push V).push { cls:=.type "dict",data:=.dict #[] })=h₁ at fE gb hk ⊢;have g8:s₂.heap.objs.size<=s₂.heap.objs.size+2:=yj _ _;have IB:=Acx (tk:=s₂.toks) S L cE fF f₂ fH rfl jk rfl gb I₃ hk fE;rw[show(s₂.heap.push V).objs.size+1=s₂.heap.objs.size+2 by rw[jk]];generalize s₂.heap.objs.size+2=c0 at g8 IB ⊢;generalize (s₂.heap.push V).objs.size=C at jk fE IB ⊢;generalize hD:s₂.heap.objs.size=D at IB jk ⊢;have c8:s₂.heap.objs.size<=C:=by rw[hD,jk];exact Wu _
 obtain⟨W,⟨m0,w0⟩,turn⟩:=Au<|rd D (by rw[<-hD];exact L.fresh);have ny:∀{B:Hp},(∀b∈fp,B b=none)->∀b∈fp,ED (Bu X N' sc (Dp ko c0++cl) C fp π s₂ H₂) [] B b:=λhn b hb=>by
  obtain⟨z1,z2⟩:=(ME S L cE fF c8 g8 f₂ fH).fB b hb;exact⟨hn b hb,z1,(ME S L cE fF c8 g8 f₂ fH).dE b hb,.inl hb,z2,λp hp=>(f₂ b hb).2.2.2.2.2 p<|by simpa [Bu]using hp⟩
 have fr0:∀b∈fp,(upd H₂ D<|O D) b=none:=λb hb=>by
  obtain⟨o,ho⟩:=fH b hb;rw[Aw<|by rw[<-hD];exact Vv<|Vk ho];exact(f₂ b hb).1
 have aZ:tn 0 h₁:=T.keep _ _ _ rQ λb hb o e=>hk b o<|Vp _ e;have loop:Wf (U1 X.prog X.w) X.A (.compLoop CE 0 (.ref it) (.ref D)<|compEnvC sc (Dp ko c0++cl) C X.env) (compPost (U1 X.prog X.w) X.A X.xe use Qv (.ref D) C) { s₂ with heap:=h₁,toks:=s₂.toks }:=by
  obtain⟨bd,hT,hB⟩:=Au<|G.turn (Dp ko c0++cl) C fp π s₂ H₂ (.ref it) D;refine Acv G.den hT (λn s'=>∃i σ' B,Ac (Bu X N' sc (Dp ko c0++cl) C fp π s₂ H₂) [] σ' B s'/\tn i s'.heap/\(∀b∈fp,B b=none)/\W i n σ' B) ?_ m0 ⟨0,_,_,IB,aZ,fr0,w0⟩;rintro n s3 ⟨i,σ3,H3,I3,i5,i6,w3⟩;rcases turn i n σ3 H3 w3 with ⟨stop,qn⟩|⟨go,N,hN,step⟩
  .refine As (T.done (Bu X N' sc (Dp ko c0++cl) C fp π s₂ H₂) rfl rfl rfl hc i [] s3 σ3 H3 _ I3 (ny i6) i5 stop) λr s4 ⟨hr,I4⟩=>?_;subst hr;have JX:=Acy L f₂ I4;obtain⟨m,hn,_⟩:=Au I4.loc;have cn:∀x c,X.env.cells.lookup x=some c->c≠C:=λx c e z=>by
    obtain⟨v,q⟩:=L.cell x c e;exact absurd (VM q.lt<|by rw[z];exact c8)<|Wv _
   have gone:∀σ' Y h',Ac X π σ' H3 Y->V8 C Y.heap h'->Ac X π σ' H3 { Y with heap:=h' }:=λσ' Y h' K3 hs3 =>
    K3.turned (t':=Y.toks) (it:=C) (λb o hb e=>(hs3.2 b hb).trans e) I4.free (Xf<|VM L.lt c8) (.inr<|V7 L.sz c8) cn λp hp z=>by
     exact absurd (VM (Vk (L.pin p hp).1)<|by rw[z];exact c8)<|Wv _
   exact post D C H3 s4 m (λh' hs'=>gone σ s4 h' JX hs') JX hn cn (Vv<|VM L.lt c8) I4.free gone qn
  .refine As (T.item (Bu X N' sc (Dp ko c0++cl) C fp π s₂ H₂) rfl rfl rfl hc i [] s3 σ3 H3 _ I3 (ny i6) i5 go) λr s4 zz=>DV zz λu hr h4=>?_;subst hr;refine As h4 λ_ s5 zz=>AF zz λx H5 I5 r5 ⟨y5,gh,mO⟩=>?_;have mQ:=I5.pinned (ny mO)<|T.obj _ _ gh;refine As (hg (Dp ko c0++cl) C fp π s₂ H₂ _ s5 σ3 H5 x u _ mQ r5<|step x H5 y5) λ_ s6 zz=>Mc zz λσ6 H6 I6 q6=>?_;refine As (ht (Dp ko c0++cl) C fp π s₂ H₂ _ s6 σ6 H6 _ I6 q6) λok s7 zz=>DV zz λH7 I7 q7=>?_;have again:∀{H8:Hp}{s8:US},Ac (Bu X N' sc (Dp ko c0++cl) C fp π s₂ H₂) ([]++Jg fp s5.heap) σ6 H8 s8->N σ6 H8->∃m,m<n/\∃i σ' B,Ac (Bu X N' sc (Dp ko c0++cl) C fp π s₂ H₂) [] σ' B s8/\tn i s8.heap/\(∀b∈fp,B b=none)/\W i m σ' B:=λ{H8 s8} I8 n8=>by
    obtain⟨m',hm,w8⟩:=Au<|hN σ6 H8 n8;refine⟨m',hm,i+1,σ6,H8,I8.i4,T.keep _ _ _ gh λb hb o e=>(I8.pin (b,o)<|V2 _ (V2 _<|Kq hb e)).1,λb hb=>?_,w8⟩;obtain⟨o,e,d⟩:=Au<|T.obj _ _ gh b hb;exact(I8.pin (b,o)<|V2 _ (V2 _<|Kq hb e)).2.1
   cases ok with
   |false=>exact again I7 q7
   |true=>exact As (hB I7 q7) λ_ s8 zz=>DV zz λH8 I8 n8=>again I8 n8
 exact G.start loop<|T.self _ 0 _ _ _ aZ loop
def MI{CE L iter:UX}{B:List UX}{p:Pos}{mk:Sem af}{O:ar->HO}{Y:ar->St->Hp->(Hp->Prop)->Prop}{wi:TI}{g:TG}{tt:TT}(hE:U9 CE X.env=wC CE sc X.env p mk false (U9 iter X.env) none)(hc:X.calm=true)(S:Bl sc X.env.scope N' X.N aF ko)(hi:PI X L iter wi)(hg:∀cl C fp π s₂ H₂,PG (Bu X N' sc cl C fp π s₂ H₂) L g)(ht:∀cl C fp π s₂ H₂,F1 (Bu X N' sc cl C fp π s₂ H₂) B tt)(G:Jx X CE L iter B N' sc mk O Y)(hs:∀x,XC iter X.env x=pure x):PE X CE (Ij O Y aF wi g tt):=by show 0;rw[hE];refine QP (use:=none) (Q:=Q) hc S hi hg ht G hs I h λD C H' s' m g1 J hn cn ln fr g2 q=>?_;exact⟨m,hn,λh' V=>⟨.ref D,H',g1 h' V,rfl,q⟩⟩
def AcA{CE Y iter:UX}{V:List UX}{p jm B:Pos}{mk:Sem af}{O:ar->HO}{ta:ar->St->Hp->(Hp->Prop)->Prop}{wi:TI}{g:TG}{tt:TT}{j:Nat}{y:aU}(hE:evalThenUse CE X.env (WS (.Name y B) X.env)=(do let _ <-wC CE sc X.env p mk false (U9 iter X.env) (some<|WS (.Name y B) X.env)))(nd:X.N.Nodup)(hj:X.N[j]?=some y)(hy:HY X.env.scope y)(hc:X.calm=true)(S:Bl sc X.env.scope N' X.N aF ko)(hi:PI X Y iter wi)(hg:∀cl C fp π s₂ H₂,PG (Bu X N' sc cl C fp π s₂ H₂) Y g)(ht:∀cl C fp π s₂ H₂,F1 (Bu X N' sc cl C fp π s₂ H₂) V tt)(G:Jx X CE Y iter V N' sc mk O ta)(nA:Xq CE (some<|.Name y B) jm.line X.env=pure true)(hs:∀x,XC iter X.env x=pure x)(hf:X.fn y=true\/X.env.scope.names.lookup y=some .local) :
  PS X (.Assign [.Name y B] CE jm) (Gs (Ij O ta aF wi g tt)<|EV j):=by
 show 5;rw[exec_Assign_Name_used _ _ _ _ nA];refine U2<|X8 (U2 ?_);rw[hE];refine U2<|As (QP (use:=some<|WS (.Name y B) X.env) (Qv:=λ_ s'=>SP X π D .next s') hc S hi hg ht G hs I h λL C H' s' m g1 J hn cn ln fr g2 q=>?_) λ_ s' hq=>Vd<|Vd hq;show UY _ X.A (WS (.Name y B) X.env<|.ref L) _ _ _;refine xt<|Pe J nd hj hy (v:=.ref L) rfl (λbN K aaG=>?_) hf;obtain⟨a,hsm,ha⟩:=Au aaG;have hac:C≠a:=by
  rcases ha with z|z
  .rw[z];exact Vy ln
  .exact Vy (cn y a z)
 exact⟨m,hn.sameBut hsm hac,λh' hs'=>⟨_,H',g2 _ bN h' K hs',q⟩⟩
abbrev MJ(te:TE)(D:ar):St->Hp->(Hp->Prop)->Prop:=λσ H N=>te σ H λv H5=>∃ys,H5 D=some (.lst ys)/\ys.length<sizeLine/\N (upd H5 D (.lst (ys++[v])))
def QQ(aF:List (Option Nat))(wi:TI)(g:TG)(tt:TT)(te:TE):TE:=Ij (λ_=>.lst []) (MJ te) aF wi g tt
def QR{B V iter:UX}{J:List UX}{pos:Pos}{Y:TE}(he:∀cl C fp π s₂ H₂,PE (Bu X N' sc cl C fp π s₂ H₂) B Y):Jx X (.ListComp B [⟨V,iter,J,0⟩] sc pos) V iter J N' sc (newList []) (λ_=>.lst []) (MJ Y) :=
 ⟨rfl,λ_ _ _ _=>⟨rfl,rfl⟩,λI q=>Y8<|q _ (I.mU (ys:=[]) (its:=[]) .nil<|Wn _),codeAny_compStart_list,λcl C fp π s₂ H₂ it D=>⟨_,compTurn_list ..,λ{bU s σ H N} I q=>by
  refine U2<|As (he cl C fp π s₂ H₂ _ s σ H _ I q) λy s8 L=>AF L λv H8 I8 r8 zz=>?_;obtain⟨ys,hy,hz,n8⟩:=AG zz;exact U2<|As (Dl _ s8 σ H8 (.ref D) [v] (.ref D) [y] (λ_ O=>N O) I8 rfl (.cons r8 .nil) ⟨D,ys,v,rfl,rfl,hy,hz,n8⟩) λ_ s9 L=>AF L λ_ O I9 _ q9=>Vd ⟨O,I9,q9⟩⟩⟩
def Ik (hc:X.calm=true)(S:Bl sc X.env.scope N' X.N aF ko)(O:PI X H iter I)(V:∀cl C fp π s₂ H₂,PG (Bu X N' sc cl C fp π s₂ H₂) H g)(Y:∀cl C fp π s₂ H₂,F1 (Bu X N' sc cl C fp π s₂ H₂) D J)(he:∀cl C fp π s₂ H₂,PE (Bu X N' sc cl C fp π s₂ H₂) B L)(hs:∀x,XC iter X.env x=pure x:=by intro _;rfl):PE X (.ListComp B [⟨H,iter,D,0⟩] sc pos) (QQ aF I g J L):=MI rfl hc S O V Y (QR he) hs
def Hl{D I iter:UX}{H:List UX}{pos J B:Pos}{L:TI}{g:TG}{O:TT}{V:TE}{j:Nat}{y:aU}(hc:X.calm=true)(Y:X.N.Nodup)(hj:X.N[j]?=some y)(hy:HY X.env.scope y)(S:Bl sc X.env.scope N' X.N aF ko)(hi:PI X I iter L)(hg:∀cl C fp π s₂ H₂,PG (Bu X N' sc cl C fp π s₂ H₂) I g)(ht:∀cl C fp π s₂ H₂,F1 (Bu X N' sc cl C fp π s₂ H₂) H O)(he:∀cl C fp π s₂ H₂,PE (Bu X N' sc cl C fp π s₂ H₂) D V)(nA:Xq (.ListComp D [⟨I,iter,H,0⟩] sc pos) (some<|.Name y B) J.line X.env=pure true)(hs:∀x,XC iter X.env x=pure x:=by intro _;rfl)(hf:X.fn y=true\/X.env.scope.names.lookup y=some .local:=by first|exact .inl rfl|exact .inr rfl|assumption) :
  PS X (.Assign [.Name y B] (.ListComp D [⟨I,iter,H,0⟩] sc pos) J) (Gs (QQ aF L g O V)<|EV j):=AcA rfl Y hj hy hc S hi hg ht (QR he) nA hs hf
end
section
variable {X:Cx}{π:List (ar×Obj)}{σ:St}{H:Hp}{s:US}{h':Heap}
def Ac.nB{t':Nat}{ch:List ar}{T:ar}{xs:List V}{us:List af}(I:Ac X π σ H s)(B:∀b∈ch,ED X π H b)(k:∀b o,b ∉ ch->s.heap.get? b=some o->h'.get? b=some o)(D:s.heap.objs.size<=T)(L:∀b∈ch,∃o,s.heap.get? b=some o)(O:h'.get? T=some { cls:=.type "tuple",data:=.seq us.toArray })(hv:AA xs us)(Y:xs.length<=sizeLine):Ac X π σ (upd H T<|.tup xs) { s with heap:=h',toks:=t' }:=by
 have hn:=I.ah.fresh D;have neT:∀b o,s.heap.get? b=some o->b≠T:=λb o e=>Vv<|VM (Vk e) D;have J:∀b u,H b=some u->b ∉ ch:=λb u e z=>by rw[(B b z).1]at e;cases e
 have up:∀b u,H b=some u->upd H T (.tup xs) b=some u:=λb u e=>by rw[Aw λz=>by rw[z,hn]at e;cases e];exact e
 refine I.step (g':=s.gens) (d':=s.drawn) (ch:=ch) (λb hb=>⟨(B b hb).2.2.2.1,(B b hb).2.1,(B b hb).2.2.2.2.1,(B b hb).2.2.2.2.2⟩) (λb o _ _ hc e _=>k b o hc e) (λb o _ _ hc e _=>⟨o.slots,k b o hc e⟩)
  (λb o _ e n=>by rwa[Aw<|neT b o e]) (λb o hc e=>⟨o,k b o hc e⟩) (λb ys e=>up b _ e) (λb o u e=>up b _ e) (λb ps e=>⟨#[],by rw[up b _ e];simp⟩) (λm hm=>?_) (λb u e=>?_) I.bare
 .obtain ⟨o,es,ep,ho,r⟩:=Dg hm;exact⟨o,es,ep,k _ o (λz=>(B _ z).2.1 rfl) ho,r⟩
 .by_cases hb:b=T
  .subst hb;rw[Ao]at e;cases e;exact⟨Y,us,hv,_,O,rfl,_,rfl⟩
  .rw[Aw hb]at e;refine(I.ah b u e).dB (λc v hc q=>k c v ?_ q) (λc q=>up c _ q) λc ys q=>up c _ q;rcases hc with z|z
   .rw[z];exact J b u e
   .exact J c _ z
noncomputable def Jy(K:UT)(a:ar):It :=
 ⟨λi H=>∃xs x,A2 K H a xs/\xs[i]?=some x,λi H x H'=>∃t y,x=.ref t/\H t=none/\H'=upd H t (.tup [.int i,y])/\∀xs,A2 K H a xs->xs[i]?=some y,λi H=>∃xs,A2 K H a xs/\xs.length<=i⟩
theorem AcB{P:UZ}{w:UU}{K:UT}{L:List UX}{kk:Nat}{pos:Pos}(a e it:ar)(jn:e≠it):Gu P w K (.Tuple L kk pos) (Jy K a) [e,it] e (λi h=>(∃B,WM h e it i B)/\h.IsListIter it a i) where
 mem:=by simp
 obj:=λi h st b hb=>by
  obtain⟨⟨B,D⟩,⟨o,V,c,d⟩⟩:=st;rcases Vc.mp hb with z|z
  .subst z;exact⟨_,D,λv z=>by cases z⟩
  .have z:b=it:=by simpa using z
   subst z;exact⟨o,V,λv z=>by rw[d]at z;cases z⟩
 keep:=λi h h' st k=>by
  obtain⟨⟨B,D⟩,hi⟩:=st;exact⟨⟨B,k e (by simp) _ D⟩,hi.at λo q=>k it (by simp) o q⟩
 item:=by
  intro X Y hw hK hc i π s σ H E I O st hg;subst Y hw hK;obtain⟨xs,x,hq,hx⟩:=Bz hg;obtain⟨its,rv,p,hz⟩:=AG (I.list hq);obtain⟨u,hu,ru⟩:=Au (rv.get hx);obtain⟨⟨B,D⟩,J⟩:=st;refine wpAny_pyNext_enum_item D J p.isList (x:=u) (by simpa using hu) jn λh' V nC hT hsz hk=>⟨_,rfl,?_⟩;have I1:Ac X π σ (upd H s.heap.objs.size (.tup [.int i,x])) { s with heap:=h',toks:=s.toks+1 } :=
   I.nB (ch:=[e,it]) (us:=[.int i s.toks,u]) O (λb o hb q=>hk b o (λz=>hb (by simp[z])) (λz=>hb (by simp[z])) q) (Vb _)
    (λb hb=>by
     rcases Vc.mp hb with z|z
     .subst z;exact⟨_,D⟩
     .have z:b=it:=by simpa using z
      subst z;obtain⟨o,q,_⟩:=Au J;exact⟨o,q⟩) hT (.cons ⟨_,rfl⟩ (.cons ru .nil)) Am
  have fr:∀b∈[e,it],(upd H s.heap.objs.size (.tup [.int i,x])) b=none:=λb hb=>by
   have aP:b<s.heap.objs.size:=by
    rcases Vc.mp hb with z|z
    .subst z;exact Vk D
    .have z:b=it:=by simpa using z
     subst z;obtain⟨o,q,_⟩:=Au J;exact Vk q
   rw [Aw (Vv aP)];exact(O b hb).1
  refine yk V λh2 nE bE=>?_;obtain⟨f0,f1,f2,f3,f4,f5⟩:=AU (O e (by simp));have I2:Ac X π σ (upd H s.heap.objs.size (.tup [.int i,x])) { s with heap:=h2,toks:=s.toks+1 }:=I1.turned (t':=s.toks+1) (λb o hb q=>(bE.2 b hb).trans q) (fr e (by simp)) f1 f3 f4 f5;refine⟨.ref s.heap.objs.size,_,I2,rfl,⟨_,x,rfl,I.fresh,rfl,λys hy=>by rw[I.kn hy hq];exact hx⟩,⟨⟨u,nE⟩,?_⟩,fr⟩;exact nC.at λo q=>(bE.2 it jn.symm).trans q
 done:=by intro X Y hw hK hc i π s σ H E I O st hg;subst Y hw hK;obtain⟨xs,hq,hx⟩:=Au hg;obtain⟨its,rv,p,hz⟩:=AG (I.list hq);obtain⟨⟨B,D⟩,J⟩:=st;obtain⟨f0,f1,f2,f3,f4,f5⟩:=AU (O it (by simp));have hl:=rv.length;exact wpAny_pyNext_enum_end (I.ok.hd hc) D J p.isList (by simp;omega) λh' eb=>⟨rfl,I.turned (t':=s.toks) (λb o hb q=>eb b o hb q) f0 f1 f3 f4 f5⟩
 self:=λ_ _ _ _ _ st h=>by
  obtain⟨⟨B,D⟩,_⟩:=st;exact ZM D h
def QS:VS "enumerate"=some (.type "enumerate"):=(by decide +kernel)
def AcC(K:UT)(ta:TA):TI:=λσ H R=>ta σ H λvs H1=>∃a xs,vs=[.ref a]/\A2 K H1 a xs/\R (Jy K a) H1
def MK (g:Gm X.env.scope "enumerate")(hm:X.mg "enumerate"=none)(ha:PA X [x] O)(hs:U8 [x] X.env=[(false,U9 x X.env)]:=by rfl):
  PI X (.Tuple J kk tp) (.Call (.Name "enumerate" p) [x] [] pos) (AcC X.K O):=by
 intro π s σ H R I h;refine Call_<|Gn I g.gl hm QS (Yx (As (ha pos π s σ H _ I h) λus B zz=>AF zz λvs V D r1 q1=>?_) hs rfl);obtain⟨a,xs,e,hq,q⟩:=BB q1;subst e;cases r1 with
 |cons r rr =>
  cases rr;cases r;obtain⟨its,rv,pl,hz⟩:=AG<|D.list hq;refine call_enumerate_list pl.isList λh' Y L hsz hk=>?_;apply ZM Y;have nH:V (B.heap.objs.size+1)=none:=D.ah.fresh<|Wu _;refine⟨B.heap.objs.size+1,[B.heap.objs.size+1,B.heap.objs.size],_,_,V,rfl,D.kept (t':=B.toks) hk,AcB a _ _<|wB _,⟨⟨_,Y⟩,L⟩,λb hb=>?_,q⟩;rcases Vc.mp hb with z|z
  .subst z;exact D.eF (Wu _) nH
  .have z:b=B.heap.objs.size:=by simpa using z
   subst z;exact D.eF (Vb _) D.fresh
end
noncomputable def BR(lo hi:Int):List Int:=(VN (hi-lo).toNat).map λ(k:Nat)=>lo+(k:Int)
def MM(lo B:Int):(BR lo B).length=(B-lo).toNat:=by unfold BR;rw[UW,Xu]
section
variable {X:Cx}
def Sm(i:Int):Prop:=-(2 ^ 62)<=i/\i<2 ^ 62
def QT{π:List (ar×Obj)}{σ:St}{H:Hp}{s:US}{lo B:Int}{t u v:Tok}{tk:Nat}(I:Ac X π σ H s) :
  Ac X π σ (upd H s.heap.objs.size<|.cy lo B) { s with heap:=s.heap.push { cls:=.type "range",data:=.fields #[.int lo t,.int B u,.int 1 v] },toks:=tk } :=
 I.laid (λ_ _ q=>Vp _ q) (Vb _) (show Bv X.prog X.w _ _ _ (.cy lo B) from⟨t,u,v,VO _ rfl⟩)
def QU:BX X (.type "range") (λxs H Q=>(∃j:Int,xs=[.int j]/\Sm j/\∀p,H p=none->Q (.ref p) (upd H p<|.cy 0 j))\/∃i j:Int,xs=[.int i,.int j]/\Sm i/\Sm j/\∀p,H p=none->Q (.ref p) (upd H p<|.cy i j)):=by
 show 2;rcases h with ⟨j,rfl,B,q⟩|⟨i,j,rfl,D,B,q⟩
 .obtain ⟨u,rfl,t,rfl⟩:=Au<|DA r;exact call_range_1 ⟨.ref s.heap.objs.size,_,QT I,rfl,q _ I.fresh⟩
 .obtain ⟨u,J,rfl,⟨t,rfl⟩,⟨L,rfl⟩⟩:=BB<|Mr r;exact call_range_2 ⟨.ref s.heap.objs.size,_,QT I,rfl,q _ I.fresh⟩
def AcD{lo L:Int}{B:Array af}(h:ItemsOf (λ(i:Nat) (v:af)=>∃t,v=.int (lo+(i:Int)*1) t) B (L-lo).toNat):AA ((BR lo L).map V.int) B.toList:=by
 obtain⟨hs,Y⟩:=h;have H:∀(us:List af)(n k:Nat),us.length=n->(∀j v,us[j]?=some v->∃t,v=V3 (lo+((k+j:Nat):Int)) t)->AA (((List.range' k n).map λ(k:Nat)=>lo+(k:Int)).map V.int) us:=by
  intro us;induction us with
  |nil=>intro n k D _;subst D;exact .nil
  |cons u us ih =>
   intro n k D O;obtain⟨I,rfl⟩:∃I,n=I+1:=⟨us.length,by rw[<-D];rfl⟩;rw[List.range'_succ,VP,VP];obtain⟨t,e⟩:=O 0 u rfl;refine .cons ⟨t,by simpa using e⟩<|ih I (k+1) (by simpa using D) λj v J=>?_;obtain⟨t,e⟩:=O (j+1) v (by simpa using J);exact⟨t,by rw[e];congr 1;omega⟩
 unfold BR;rw[List.range_eq_range'];refine H B.toList _ 0 (by rwa[Wm]) λj v J=>?_;obtain⟨t,e⟩:=Y j v (by simpa using J);exact⟨t,by rw[e];simp⟩
def AcE(hc:X.calm=true):BX X (.type "list") (λxs H Q=>∃p lo B,xs=[.ref p]/\H p=some (.cy lo B)/\Sm lo/\Sm B/\(B-lo).toNat<=sizeLine/\∀l,H l=none->Q (.ref l) (upd H l<|.lst ((BR lo B).map V.int))):=by
 show 2;replace h:=Gk h;obtain⟨p,lo,B,rfl,L,⟨O,Y⟩,⟨l3,l4⟩,J,q⟩:=h
 obtain⟨u,rfl,rx⟩:=Au<|DA r;cases rx;obtain⟨t,u,v,e⟩:=I.ah p _ L;have nI:(B-lo).toNat<=2 ^ 24:=J;refine call_list_range (n:=(B-lo).toNat) (I.ok.hd hc) e (small_one O Y l3 l4) (by rw[rangeSize_one];split<;>omega) nI λh' tk D c hk hl ha=>?_;refine⟨.ref s.heap.objs.size,_,I.laid (t':=tk) hk (Vb _) (show Bv X.prog X.w _ h' _ (.lst<|(BR lo B).map V.int) from⟨?_,D.toList,c,AcD ha,by simpa using hl⟩),rfl,q _ I.fresh⟩;rwa[UW,MM]
def FH(hc:X.calm=true):BX X (.type "list") (λxs H Q=>(∃p ys,xs=[.ref p]/\(A2 X.K H p ys\/Bn X.K H p ys)/\∀l,H l=none->Q (.ref l) (upd H l<|.lst ys)) \/
  ∃p lo B,xs=[.ref p]/\H p=some (.cy lo B)/\Sm lo/\Sm B/\(B-lo).toNat<=sizeLine/\∀l,H l=none->Q (.ref l) (upd H l<|.lst ((BR lo B).map V.int))):=AbG.or<|AcE hc
def QV:VS "range"=some (.type "range"):=(by decide +kernel)
theorem MN{α:Type} [BEq α] [LawfulBEq α] {f:α->V}:∀{ns:List α}{us:List af}{n:α},AA (ns.map f) us->AA ((ns.erase n).map f) (us.eraseIdx (ns.idxOf n))
 |[],[],_,_=>.nil
 |a::ns,u::us,n,.cons r t=>by
  rw [List.erase_cons,yl];cases q:a == n with
  |true=>simpa using t
  |false=>simpa using Paired.cons r (MN t)
def AcF(X:Cx):V->List V->Hp->VK->Prop:=λx vs H Q=>(∃(l:ar)(ns:List Int)(n:Int),x=.ref l/\vs=[.int n]/\H l=some (.lst (ns.map V.int))/\n∈ns/\Q .aa (upd H l (.lst ((ns.erase n).map V.int)))) \/
 ∃(l:ar)(ns:List aU)(n:aU),x=.ref l/\vs=[.str n]/\H l=some (.lst (ns.map V.str))/\n∈ns/\Q .aa (upd H l (.lst ((ns.erase n).map V.str)))
theorem MO{α:Type} [BEq α] [LawfulBEq α]:∀{ns:List α}{n a:α}{m:Nat},m<ns.idxOf n->ns[m]?=some a->(a == n)=false
 |[],_,_,_,_,e=>by simp at e
 |b::ns,n,a,m,h,e=>by
  rw [yl]at h;cases q:b == n with
  |true=>rw[q]at h;simp at h
  |false =>
   rw [q]at h;cases m with
   |zero=>simp at e;rw[<-e];exact q
   |succ m=>exact MO (ns:=ns) (m:=m) (by simpa using h) (by simpa using e)
def MQ{α:Type} [BEq α] [LawfulBEq α] {ns:List α} {n:α} (h:n∈ns):ns[ns.idxOf n]?=some n:=by have B:=wD h;rw[Vi B,List.getElem_idxOf B]
def MR{ns:List Int}{us:List af}(r:AA (ns.map V.int) us)(j:Nat)(h:j<us.length):∃a t,ns[j]?=some a/\us[j]=.int a t:=by have B:=r.length;rw[UW]at B;obtain⟨u,hu,⟨t,rfl⟩⟩:=Au<|r.get (i:=j) (x:=.int<|ns[j]'(by omega)) (by rw[Va,Vi<|(by omega)];rfl);rw[Vi h]at hu;exact⟨_,t,Vi<|(by omega),Vq hu⟩
def MT{ns:List aU}{us:List af}(r:AA (ns.map V.str) us)(j:Nat)(h:j<us.length):∃a t,ns[j]?=some a/\us[j]=.str a t:=by have B:=r.length;rw[UW]at B;obtain⟨u,hu,⟨t,rfl⟩⟩:=Au<|r.get (i:=j) (x:=.str<|ns[j]'(by omega)) (by rw[Va,Vi<|(by omega)];rfl);rw[Vi h]at hu;exact⟨_,t,Vi<|(by omega),Vq hu⟩
noncomputable def MU(n:Int):af->Bool
 |.int a _=>a == n
 |_=>false
noncomputable def MV(n:aU):af->Bool
 |.str a _=>a == n
 |_=>false
def QW:Jo X "list.remove" (AcF X):=by
 intro π s σ H x vs v us Q I rx rv h;rcases h with ⟨l,B,n,rfl,rfl,L,O,q⟩|⟨l,B,n,rfl,rfl,L,O,q⟩
 .cases rx;obtain⟨u,rfl,t,rfl⟩:=Au rv.one;obtain⟨z,its,c,r,V,e⟩:=I.dH L;rw[UW]at V;have hj:B.idxOf n<B.length:=wD O;refine XN ym ⟨_,e,rfl⟩ yn (yo _ _)
   (yp l its.toArray c (.int n t) (MU n) (λy hy=>?_) (B.idxOf n) (by rw[Vs];omega) ?_ (λm Y aP=>?_)<|by rw[Vs,<-V];simpa using z) ⟨e,?_⟩
  .obtain ⟨k,hk,rfl⟩:=Xa (by simpa using hy:y∈its);obtain⟨a,t',_,D⟩:=Bz<|MR r k hk;rw[D];exact MeetsSeq.EqGives.int _ _ _ _
  .obtain ⟨a,t',J,D⟩:=Bz<|MR r (B.idxOf n) (by omega);rw[MQ O]at J;cases J;show MU n its[B.idxOf n]=true;rw[D];exact beq_self_eq_true n
  .obtain ⟨a,t',J,D⟩:=Bz<|MR r m (by simpa using Y);show MU n (its[m]'(by simpa using Y))=false;rw[D];exact MO aP J
  .refine ⟨.aa,_,I.jc (its':=its.eraseIdx<|B.idxOf n) L e (by simp[v9]) (MN r) ?_,rfl,q⟩;have:=wF (a:=n) (l:=B);rw[UW]at z ⊢;omega
 .cases rx;obtain⟨u,rfl,t,rfl⟩:=Au rv.one;obtain⟨z,its,c,r,V,e⟩:=I.dH L;rw[UW]at V;have hj:B.idxOf n<B.length:=wD O;refine XN ym ⟨_,e,rfl⟩ yn (yo _ _)
   (yp l its.toArray c (.str n t) (MV n) (λy hy=>?_) (B.idxOf n) (by rw[Vs];omega) ?_ (λm Y aP=>?_)<|by rw[Vs,<-V];simpa using z) ⟨e,?_⟩
  .obtain ⟨k,hk,rfl⟩:=Xa (by simpa using hy:y∈its);obtain⟨a,t',_,D⟩:=Bz<|MT r k hk;rw[D];exact eqGives_str _ _ _ _
  .obtain ⟨a,t',J,D⟩:=Bz<|MT r (B.idxOf n) (by omega);rw[MQ O]at J;cases J;show MV n its[B.idxOf n]=true;rw[D];exact beq_self_eq_true n
  .obtain ⟨a,t',J,D⟩:=Bz<|MT r m (by simpa using Y);show MV n (its[m]'(by simpa using Y))=false;rw[D];exact MO aP J
  .refine ⟨.aa,_,I.jc (its':=its.eraseIdx<|B.idxOf n) L e (by simp[v9]) (MN r) ?_,rfl,q⟩;have:=wF (a:=n) (l:=B);rw[UW]at z ⊢;omega
end
def AR(P:UZ)(w:UU)(K:UT)(mg:aU->Option af)(base:Heap)(CX:Cp)(k:Nat)(C:ar)(m:aU)(ps:List aU)(sp:Sp):Prop :=
 ∃f fd,Kv K C m f/\DI K fd ps []/\Az P w K mg base CX k f fd ps sp
def GJ(P:UZ)(w:UU)(K:UT)(mg:aU->Option af)(base:Heap)(CX:Cp)(k:Nat)(C:ar)(x:aU)(ps:List aU)(sp:Sp):Prop :=
 ∃f fd,mg x=some (.ref C)/\Mk K C f/\DI K fd ps []/\Az P w K mg base CX k f fd ps sp
section
variable {X:Cx}{CX:Cp}{k:Nat}{C:ar}{ps:List aU}{sp:Sp}{E:XK}{x m:aU}{p pos apos:Pos}{e o:UX}{es:List UX}{ta:TE}{t:TA}{W:St->XK}
def A6{pl:Sem Bool}(D:AR X.prog X.w X.K X.mg X.base CX k C m ps sp)(c:CU X.K C)(H:PE X o ta)(I:BE k X.A)(hx:DB CX X E)(J:PA X (e::es) t)(L:U8 (e::es) X.env=(false,U9 e X.env)::U8 es X.env:=by rfl)(O:(Vu pos<|U8 es X.env).any (·.1)=false:=by rfl)(V:U9 (.Call (.Attribute o m apos) (e::es) [] pos) X.env=(U9 o X.env >>= λB=>Wo apos.atName >>= λ_=>Wl [B] (Xg B m pl) >>= λff=>XE pos ff.1 ff.2 (Vu pos<|U8 (e::es) X.env)<|WV pos (WW [] X.env)):=by rfl) :
  PE X (.Call (.Attribute o m apos) (e::es) [] pos) (Kz C m sp [] E ta t):=by
 obtain⟨f,fd,Y,hb,F⟩:=BB D;exact Abh (pl:=pl) H c Y F I hb .nil hx J L O V
def GK (D:AR X.prog X.w X.K X.mg X.base CX k C m ps sp)(c:CU X.K C)(H:PE X o ta)(I:BE k X.A)(hx:DB CX X E)(J:U9 (.Call (.Attribute o m apos) [] [] pos) X.env=(U9 o X.env >>= λB=>Wo apos.atName >>= λ_=>Wl [B] (Xg B m pl) >>= λff=>XE pos ff.1 ff.2 (Vu pos<|U8 [] X.env)<|WV pos (WW [] X.env)):=by rfl):
  PE X (.Call (.Attribute o m apos) [] [] pos) (Kz C m sp [] E ta BA):=by
 obtain⟨f,O,L,hb,F⟩:=BB D;exact Abi (pl:=pl) H c L F I hb .nil hx J
def AcG(C:ar)(m:aU)(sp:Sp)(W:St->XK)(ta:TE)(t:TA):TE:=λσ H Q=>ta σ H λx H1=>∃a dx fs,x=.ref a/\H1 a=some (.ins C dx fs)/\fs.lookup m=none/\t σ H1 λvs H2=>sp (x::vs) H2 Q (W σ)
def AcH{f:ar}{B:U7}{π:List (ar×Obj)}{σ:St}{H:Hp}{s:US}{Q:VK}{us:List af}{vs:List V}(F:Az X.prog X.w X.K X.mg X.base CX k f B ps sp)(D:BE k X.A)(hb:DI X.K B ps [])(hx:KI CX X W)(I:Ac X π σ H s)(r:AA vs us)(h:sp vs H Q (W σ)):UY (U1 X.prog X.w) X.A (call (.ref f) us) (EP X π σ Q) X.xe s:=by
 have J:(us++[]).length=ps.length:=by rw[V5,<-r.length];exact F.len _ _ _ _ h
 refine Zv<|Yg (F.run X.A X.stack s H ⟨us,[]⟩ us vs Q (W σ) D I.gW (by simpa using hb s us I.aH J) r h) λr L hq=>?_;match r,hq with
 |.error e,hq=>exact hx π σ H s e L I hq
 |.ok (.ret u),hq=>exact I.after hq
def AcI{pl:Sem Bool}(D:AR X.prog X.w X.K X.mg X.base CX k C m ps sp)(c:CU X.K C)(Y:PE X o ta)(hr:BE k X.A)(hx:KI CX X W)(ha:PA X (e::es) t)(aG:U8 (e::es) X.env=(false,U9 e X.env)::U8 es X.env:=by rfl)(aN:(Vu pos<|U8 es X.env).any (·.1)=false:=by rfl)(ht:U9 (.Call (.Attribute o m apos) (e::es) [] pos) X.env=(U9 o X.env >>= λJ=>Wo apos.atName >>= λ_=>Wl [J] (Xg J m pl) >>= λff=>XE pos ff.1 ff.2 (Vu pos<|U8 (e::es) X.env)<|WV pos (WW [] X.env)):=by rfl) :
  PE X (.Call (.Attribute o m apos) (e::es) [] pos) (AcG C m sp W ta t):=by
 obtain⟨f,fd,L,hb,F⟩:=BB D;show 0;refine YC (pl:=pl) (As (Y π s σ H _ I h) λu s1 B=>AF B λx H1 O rx zz=>?_) ht;obtain⟨a,dx,fs,ex,ea,l,q⟩:=Dg zz;subst ex;cases rx;refine Jm O ea c L l<|YB (first:=[.ref a]) (h₀:=X.base) I.ok.mod.d7 L.kp (As (ha pos π s1 σ H1 _ O q) λus s2 B=>AF B λvs H2 V r q2=>⟨V.aH,?_⟩) aG aN;exact AcH (us:=.ref a::us) (vs:=.ref a::vs) F hr hb hx V (.cons rfl r) q2
def Jz(D:GJ X.prog X.w X.K X.mg X.base CX k C x ps sp)(g:Gm X.env.scope x)(B:BE (k+1) X.A)(hx:DB CX X E)(H:PA X (e::es) t)(I:U8 (e::es) X.env=(false,U9 e X.env)::U8 es X.env:=by rfl)(J:(Vu pos<|U8 es X.env).any (·.1)=false:=by rfl) :
  PE X (.Call (.Name x p) (e::es) [] pos) (Qa C sp [] E t):=by
 obtain⟨f,O,L,M,hb,F⟩:=BB D;exact Abk M F B g.gl L hb .nil hx H g.db I J
end
structure Dw(sc:Scope)(x:aU):Prop where
 loc:sc.names.lookup x=some .cell
 db:(x == ("__debug__":aU))=false
 cd:(x == ("__classdict__":aU))=false
structure QX(sc:Scope)(x:aU):Prop where
 loc:sc.names.lookup x=some .cell\/sc.names.lookup x=some .free
 db:(x == ("__debug__":aU))=false
 cd:(x == ("__classdict__":aU))=false
section
variable {X:Cx}{x:aU}{pos p:Pos}
def AQ(i:Nat)(n:Dw X.env.scope x)(B:X.N[i]?=some x:=by rfl):PE X (.Name x pos) (IX i):=Mg B (U4<|U6 n.loc) n.db n.cd
def DE(i:Nat)(n:QX X.env.scope x)(B:X.N[i]?=some x:=by rfl):PE X (.Name x pos) (IX i):=Mg B (U4 n.loc) n.db n.cd
def KR(i:Nat)(B:X.N.Nodup)(n:Dw X.env.scope x)(D:X.fn x=true:=by rfl)(H:X.N[i]?=some x:=by rfl):PG X (.Name x pos) (EV i):=Pl B H (U4 n.loc)<|U6 D
def Hm(i:Nat){e:UX}{D:TE}{B:Pos}(H:X.N.Nodup)(n:Dw X.env.scope x)(I:PE X e D)(J:X.fn x=true:=by rfl)(L:X.N[i]?=some x:=by rfl)(hs:Xq e (some<|.Name x B) pos.line X.env=pure false:=by rfl) :
  PS X (.Assign [.Name x B] e pos) (Gs D<|EV i):=Po H L (U4 n.loc) I hs<|U6 J
def Nm.comp (n:Nm sc x):Nm (Wr sc env) x:=⟨KP n.loc rfl,n.db,n.cd⟩
def Gm.comp (n:Gm sc x):Gm (Wr sc env) x:=⟨KP n.gl rfl,n.db,n.nn⟩
structure DF(sc:Scope)(x:aU):Prop where
 loc:sc.names.lookup x=some .free
 db:(x == ("__debug__":aU))=false
 cd:(x == ("__classdict__":aU))=false
def DF.comp (n:DF sc x):QX (Wr sc env) x:=⟨MB n.loc,n.db,n.cd⟩
end
section
variable {X:Cx}
def JA:Pp X (λo i H Q=>∃p xs k v,o=.ref p/\i=.int k/\0<=k/\A2 X.K H p xs/\Cd xs k=some v/\Q v H):=by
 intro π s σ H o i ov iv Q I J L h;replace h:=HV h;obtain⟨p,xs,k,z,rfl,rfl,B,hq,O,q⟩:=h
 cases J;obtain⟨t,rfl⟩:=L;obtain⟨its,r,pl,hz⟩:=AG<|I.list hq;obtain⟨j,D,V,h3,h4,Y⟩:=AG<|KC O;obtain⟨w,ew,aY⟩:=Au<|r.get V;have hn:=Gx;have hj:k.toNat=j:=by rw[Zy B Y]at D;exact Vq D
 exact wpAny_getItem_list pl.isList B (by omega) (by rw[hj];simpa using ew) ⟨z,H,I,aY,q⟩
def MW:BX X (.type "int") (λxs H Q=>(∃k,xs=[.bl k]/\Q (.int (if k then 1 else 0)) H)\/(∃i,xs=[.int i]/\Q (.int i) H)\/∃z n,xs=[.str z]/\Y7 z=some n/\z.length<=640/\Q (.int n) H):=by
 show 2;rcases h with h|h|h
 .exact PY π s σ H xs us Q I r (.inr h)
 .exact PY π s σ H xs us Q I r (.inl h)
 .exact Acj π s σ H xs us Q I r h
def Bl.mk'{sc D:Scope}{B N:List aU}{H:List (Option Nat)}{ko:Option aU}(I:sc.kind=.function)(J:∀y∈sc.names,y.2=.cell->ko=some y.1)(L:∀y∈sc.names,y.2=.local->sc.names.lookup y.1=some .local)(O:∀y∈sc.names,y.2=.free->D.names.lookup y.1=some .cell\/D.names.lookup y.1=some .free)(V:B.Nodup)(Y:H.length=B.length)(h7:∀p∈H.zip B,∀j∈p.1,N[j]?=some p.2/\sc.names.lookup p.2=some .free/\(D.names.lookup p.2=some .cell\/D.names.lookup p.2=some .free))(kc:∀k∈ko,sc.names.lookup k=some .cell:=by decide +kernel)(o1:∀n cl,YD n sc.names cl=Dp ko n++cl:=by intros;rfl)(o2:∀h:Heap,wz h sc.names=GG ko h:=by intros;rfl):Bl sc D B N H ko :=
 ⟨I,o1,o2,J,kc,L,O,V,Y,λi j e=>by
  have hi:i<H.length:=(Vz.mp e).1;obtain⟨x,hx⟩:∃x,B[i]?=some x:=⟨B[i]'(by omega),Vi<|(by omega)⟩;have hz:(H.zip B)[i]?=some (some j,x):=by rw[List.getElem?_zip_eq_some];exact⟨e,hx⟩
  obtain⟨a,b,c⟩:=AU<|h7 _ (Vh hz) j rfl;exact⟨x,hx,a,b,c⟩⟩
def AcJ:∀n:Nat,n<1001->(U3<|toString (n:Int)).length<=10:=(by decide +kernel)
def JB (O:PE X e J):PE X (.FormattedValue e (-1) none pos) (λσ H Q=>J σ H λx B=>(∃i:Int,x=.int i/\0<=i/\i<=1000/\∀z:aU,z.length<=10->Q (.str z) B)\/∃z,x=.str z/\z.length<=sizeLine/\Q (.str z) B):=by
 show 0;refine wpAny_FormattedValue_plain<|As (O π s σ H _ I h) λv s1 V=>AF V λx B D L Y=>?_;rcases Y with ⟨i,rfl,h0,h1,q⟩|⟨z,rfl,hz,q⟩
 .obtain ⟨t,rfl⟩:=L;obtain⟨n,rfl⟩:=Y9 h0;have hn:n<1001:=by omega
  refine wpAny_formatField_int ?_ ⟨.str _,B,D.tok _,(⟨_,rfl⟩),q _<|AcJ n hn⟩;have:(n:Int).natAbs=n:=rfl;rw[this];exact VB (Nat.log2_le_self n)<|(by omega)
 .obtain ⟨t,rfl⟩:=L;exact yf ⟨.str _,B,D,(⟨_,rfl⟩),q⟩ ⟨.str _,B,D.tok _,(⟨_,rfl⟩),q⟩ hz
end
section
variable {K:UT}{a D:ar}{xs:List V}{g:TG}{tt:TT}{te:TE}{σ0:St}{H:Hp}{Q:Hp->Prop}
abbrev FI(D:ar)(tt:TT)(te:TE)(N:St->Hp->Prop):St->Hp->Prop:=MF tt (MJ te D) N
def QY{T:(St->Hp->Prop)->St->Hp->Prop}{Q:St->Hp->Prop}{σ:St}(Pv:Nat->St->Hp->Prop)(J:Pv 0 σ H)(B:∀i σ H,i<=xs.length->Pv i σ H->A2 K H a xs)(hs:∀i x t σ H,xs[i]?=some x->Pv i σ H->H t=none->g (.ref t) σ (upd H t<|.tup [.int i,x]) (T<|Pv (i+1)))(hd:∀σ H,Pv xs.length σ H->Q σ H):CW (Jy K a) g T σ H Q :=
 G2 xs.length Pv J (λi σ H I p=>have q:=B i σ H (XA I) p;⟨⟨xs,xs[i],q,by simp[I]⟩,λx H' L=>FV L λt y e O Y hy=>by subst e Y;exact hs i y t σ H (hy xs q) p O⟩) λσ H p=>⟨⟨xs,B _ σ H (Vb _) p,Vb _⟩,hd σ H p⟩
def QZ(Pv:Nat->St->Hp->Prop)(I:Pv 0 σ0 (upd H D<|.lst []))(J:∀i σ H,i<=xs.length->Pv i σ H->A2 K H a xs)(hs:∀i x t σ B,xs[i]?=some x->Pv i σ B->B t=none->g (.ref t) σ (upd B t<|.tup [.int i,x]) (FI D tt te<|Pv (i+1)))(hd:∀σ B,Pv xs.length σ B->Q B):CW (Jy K a) g (FI D tt te) σ0 (upd H D<|.lst []) λ_=>Q :=
 QY Pv I J hs hd
def KS(Pv:Nat->St->Hp->Prop)(I:Pv 0 σ0 (upd H D<|.lst []))(J:∀i σ H,i<=xs.length->Pv i σ H->A2 K H a xs)(hs:∀i x σ B,xs[i]?=some x->Pv i σ B->g x σ B (FI D tt te<|Pv (i+1)))(hd:∀σ B,Pv xs.length σ B->Q B):CW (HZ K a) g (FI D tt te) σ0 (upd H D<|.lst []) λ_=>Q :=
 Mm Pv I J hs hd
def JC{lo:Int}{n:Nat}(Pv:Nat->St->Hp->Prop)(I:Pv 0 σ0 (upd H D<|.lst []))(hs:∀i σ B,i<n->Pv i σ B->g (.int<|lo+i) σ B (FI D tt te<|Pv (i+1)))(hd:∀σ B,Pv n σ B->Q B):CW (G1 lo n) g (FI D tt te) σ0 (upd H D<|.lst []) λ_=>Q :=
 PB Pv I hs hd
def AcK{I:TS}{E:Ek}{σ:St}(Pv:Nat->St->Hp->Prop)(J:Pv 0 σ H)(L:∀i σ H,i<=xs.length->Pv i σ H->A2 K H a xs)(hs:∀i x t σ H,xs[i]?=some x->Pv i σ H->H t=none->g (.ref t) σ (upd H t<|.tup [.int i,x]) λσ2 B=>I { E with nx:=Pv<|i+1,ct:=Pv<|i+1,bk:=E.nx } σ2 B)(hd:∀σ H,Pv xs.length σ H->E.nx σ H):CW (Jy K a) g (λN σ2 B=>I { E with nx:=N,ct:=N,bk:=E.nx } σ2 B) σ H E.nx :=
 QY Pv J L hs hd
end
section
variable {X:Cx}(K:UT)(h:X.K=K)
include h
def AcL:FD X (Qm K):=h▸AO
def AcM(hu:X.A.units+64<cLine):Bc X (VE .Eq) (λx y H Q=>Mo x y H Q\/Jp K false x y H Q):=h▸B5 hu
def Il:F0 X (λx lo B H Q=>Mx x lo B H Q\/Mt K x lo B H Q):=h▸Js
def Im (n:Nat)(hc:X.calm=true)(B:Jb X es t)(D:(XB es X.env).length=n)(H:(XB es X.env).findIdx? (·.1)=none):PG X (.Tuple es k pos) (Pn K n t):=h▸FZ hc B D H
def AcN:Bc X (VE .In) (λx y H Q=>(∃i j,x=.str i/\y=.str j/\Q (.bl<|Hh i j) H)\/Ic K false x y H Q):=h▸Ig
def MX:Bc X (VE .NotIn) (λx y H Q=>(∃i j,x=.str i/\y=.str j/\Q (.bl<|!Hh i j) H)\/Ic K true x y H Q):=h▸KJ
end
section
variable {κ:Type} [DecidableEq κ]
noncomputable def Ba(kvs:List (κ×V))(k:κ):Option V:=(kvs.find? λkv=>decide (kv.1=k)).map (·.2)
noncomputable def BS(kvs:List (κ×V))(k:κ)(v:V):List (κ×V) :=
 if (kvs.any λkv=>decide (kv.1=k))=true then kvs.map (λkv=>if kv.1=k then(kv.1,v)else kv)else kvs++[(k,v)]
def F2{p:κ×V}{r:List (κ×V)}{k:κ}(e:p.1=k):Ba (p::r) k=some p.2:=by simp[Ba,Xb,e]
def Fb{p:κ×V}{r:List (κ×V)}{k:κ}(e:¬p.1=k):Ba (p::r) k=Ba r k:=by simp[Ba,Xb,e]
theorem KU(k:κ):∀kvs:List (κ×V),(kvs.any λkv=>decide (kv.1=k))=(Ba kvs k).isSome
 |[]=>rfl
 |p::r=>by
  rw [Y0];by_cases e:p.1=k
  .simp only[F2 e,cx e,Bool.true_or,yh]
  .rw[Fb e,cN e,Bool.false_or];exact KU k r
theorem KW(k j:κ)(y:V):∀kvs:List (κ×V),Ba kvs k=none->Ba (kvs++[(k,y)]) j=if j=k then some y else Ba kvs j
 |[],_=>by
  by_cases e:k=j
  .rw[bf e.symm];exact F2 (p:=(k,y)) e
  .rw[ck (λz=>e z.symm)];exact Fb (p:=(k,y)) e
 |p::r,hn=>by
  rw [Xj];have hk:¬p.1=k:=λz=>by rw[F2 z]at hn;cases hn
  rw [Fb hk]at hn;have ih:=KW k j y r hn;by_cases e:p.1=j
  .rw[F2 e,F2 e,ck (λz=>hk (e.trans z))]
  .rw[Fb e,Fb e,ih]
def KY(kvs:List (κ×V))(k:κ)(v:V):(BS kvs k v).length<=kvs.length+1:=by
 unfold BS;split
 .rw[UW];omega
 .rw[VA,VX,ZN];omega
def KZ{kvs:List (κ×V)}{k:κ}(v:V)(h:Ba kvs k=none):BS kvs k v=kvs++[(k,v)]:=by unfold BS;rw[KU,h];exact ck<|(by decide)
def Dh.rR (r:Dh o u):o.isSome=u.isSome:=by
 cases o with
 |none=>cases u with
  |none=>rfl
  |some _=>exact(show False from r).elim
 |some _=>cases u with
  |none=>exact(show False from r).elim
  |some _=>rfl
def Dh.getD (r:Dh o u)(B:AH d d'):AH (o.getD d) (u.getD d'):=by
 cases o with
 |none=>cases u with
  |none=>exact B
  |some _=>exact(show False from r).elim
 |some _=>cases u with
  |none=>exact(show False from r).elim
  |some _=>exact r
def KV.val (r:KV kvs vs)(k:κ):Dh (Ba kvs k) (XR vs k):=by
 unfold KV at r;induction r with
 |nil=>exact Wt
 |@cons p q I qs h t ih =>
  obtain⟨D,H⟩:=h;by_cases e:p.1=k
  .have B:q.1=k:=D.symm.trans e;have b:XR (q::qs) k=some q.2:=by simp[XR,Xb,B]
   rwa[F2 e,b]
  .have B:¬q.1=k:=λz=>e<|D.trans z;have b:XR (q::qs) k=XR qs k:=by simp[XR,Xb,B]
   rwa[Fb e,b]
def KV.any (r:KV kvs vs)(k:κ):(kvs.any λkv=>decide (kv.1=k))=vs.any λkv=>decide (kv.1=k):=by
 unfold KV at r;induction r with
 |nil=>rfl
 |cons h t ih=>rw[Y0,Y0,ih,h.1]
def KV.nJ{kvs:List (κ×V)}{vs:List (κ×af)}(r:KV kvs vs)(k:κ){y:V}{u:af}(D:AH y u) :
  KV (kvs.map λkv=>if kv.1=k then(kv.1,y)else kv) (vs.map λkv=>if kv.1=k then(kv.1,u)else kv):=by
 unfold KV at r ⊢;induction r with
 |nil=>exact .nil
 |@cons p q I qs h t ih =>
  rw [VP,VP];refine .cons ?_ ih;obtain⟨B,H⟩:=h;by_cases e:p.1=k
  .rw[bf e,bf<|B.symm.trans e];exact⟨B,D⟩
  .rw[ck e,ck λz=>e<|B.trans z];exact⟨B,H⟩
def KV.put{kvs:List (κ×V)}{vs:List (κ×af)}(r:KV kvs vs)(k:κ){y:V}{u:af}(B:AH y u):KV (BS kvs k y) (stored vs k u):=by
 unfold BS stored;rw[r.any k];by_cases e:(vs.any λkv=>decide (kv.1=k))=true
 .rw[bf e,bf e];exact r.nJ k B
 .rw[ck e,ck e];exact Paired.snoc r ⟨rfl,B⟩
def KV.keys{kvs:List (κ×V)}{vs:List (κ×af)}(r:KV kvs vs):kvs.map (·.1)=vs.map (·.1):=by
 unfold KV at r;induction r with
 |nil=>rfl
 |cons h t ih=>rw[VP,VP,ih,h.1]
def KV.length{kvs:List (κ×V)}{vs:List (κ×af)}(r:KV kvs vs):kvs.length=vs.length:=Paired.length r
end
def GN (r:AH (kV k) u):(BG P w).is k u=true:=by
 cases k with
 |inl i=>obtain⟨t,e⟩:=(show ∃t,u=V3 i t from r);subst e;exact Aag P w i t
 |inr x=>obtain⟨t,e⟩:=(show ∃t,u=VT x t from r);subst e;exact HW P w x t
theorem Q0:∀{ks:List Ay}{us:List af},AA (ks.map kV) us->ItemsAre (BG P w) ks us
 |[],_,r=>by rw[Yk]at r;cases r;exact .nil
 |k::ks,_,r=>by
  rw [VP]at r;cases r with
  |cons h t=>exact .cons (GN h) (Q0 t)
abbrev KT(H:Hp):List (List Ay×V)->List (List Ay×ar×af)->Prop:=Paired λp q=>p.1=q.1/\H q.2.1=some (.tup (p.1.map kV))/\AH p.2 q.2.2
def KT.val (r:KT H kvs xs)(k:List Ay):Dh (Ba kvs k) ((Xv xs k).map (·.2)):=by
 induction r with
 |nil=>exact Wt
 |@cons p q J qs h t ih =>
  obtain⟨D,_,I⟩:=AU h;by_cases e:p.1=k
  .have B:q.1=k:=D.symm.trans e;have b:Xv (q::qs) k=some q.2:=by simp[Xv,Xb,B]
   rwa[F2 e,b]
  .have B:¬q.1=k:=λz=>e<|D.trans z;have b:Xv (q::qs) k=Xv qs k:=by simp[Xv,Xb,B]
   rwa[Fb e,b]
def KT.nJ (r:KT H kvs xs)(k:List Ay)(I:AH y u):
  KT H (kvs.map λkv=>if kv.1=k then(kv.1,y)else kv) (xs.map<|putAt k u):=by
 induction r with
 |nil=>exact .nil
 |@cons p q L qs h t ih =>
  rw [VP,VP];refine .cons ?_ ih;obtain⟨B,D,J⟩:=AU h;unfold putAt;by_cases e:p.1=k
  .rw[bf e,bf<|B.symm.trans e];exact⟨B,D,I⟩
  .rw[ck e,ck λz=>e<|B.trans z];exact⟨B,D,J⟩
def KT.put (r:KT H kvs xs)(k:List Ay)(hb:H b=some (.tup<|k.map kV))(B:AH y u):
  KT H (BS kvs k y) (storedH xs k b u):=by
 have e:(kvs.any λkv=>decide (kv.1=k))=(Xv xs k).isSome:=by rw[KU,(r.val k).rR,yq]
 unfold BS storedH;rw[e];by_cases q:(Xv xs k).isSome=true
 .rw[bf q,bf q];exact r.nJ k B
 .rw[ck q,ck q];exact Paired.snoc r ⟨rfl,hb,B⟩
def KT.keeps (r:KT H kvs xs)(D:∀b ys,H b=some (.tup ys)->B b=some (.tup ys)):KT B kvs xs :=
 Paired.mr r λ_ _ z=>⟨z.1,D _ _ z.2.1,z.2.2⟩
section
variable {P:UZ}{w:UU}{H:Hp}{h:Heap}{a:ar}
def Q1 (ok:AY P w H h)(e:Rd H a u):Bv P w H h a u:=e.ok ok
def JD (ok:AY P w H h)(e:Rd H a (.dK kvs)):kvs.length<=sizeLine/\(a == Wj)=false/\∃vs,KV kvs vs/\h.DictOf (BG P w) a vs :=
 show Bv P w H h a (.dK kvs)from Q1 ok e
def MY (ok:AY P w H h)(e:H a=some (.dK kvs)):kvs.length<=sizeLine/\(a == Wj)=false/\∃vs,KV kvs vs/\h.DictOf (BG P w) a vs:=JD ok<|.inl e
def K0 (ok:AY P w H h)(e:H a=some (.tup<|ks.map kV)):(Ys<|BG P w).is h ks a:=by obtain⟨_,its,r,o,B,D,n,I⟩:=(show Bv P w H h a (.tup<|ks.map kV)from ok a _ e);exact⟨o,its.toArray,n,B,D,I,by simpa using Q0 r⟩
def K1 (ok:AY P w H h)(e:Rd H a (.dT kvs)):kvs.length<=sizeLine/\(a == Wj)=false /\
  ∃xs,KT H kvs xs/\h.DictOfH (Ys<|BG P w) a xs:=by
 obtain⟨z,y,xs,r,o,es,B,D,I,J,L,O⟩:=AU<|(show Bv P w H h a (.dT kvs)from Q1 ok e);refine⟨z,y,xs,r,o,es,B,D,I,J,L,λx hx=>?_,O⟩;have all:∀{l:List (List Ay×V)}{m:List (List Ay×ar×af)},KT H l m->∀x∈m,(Ys<|BG P w).is h x.1 x.2.1:=by
  intro l m q;induction q with
  |nil=>intro x hx;exact nomatch hx
  |@cons p q Y qs hq t ih =>
   intro x hx;rcases Vc.mp hx with e|hx
   .subst e;exact K0 ok<|by rw[<-hq.1];exact hq.2.1
   .exact ih x hx
 exact all r x hx
def AcO (ok:AY P w H h)(e:H a=some (.dT kvs)):kvs.length<=sizeLine/\(a == Wj)=false /\
  ∃xs,KT H kvs xs/\h.DictOfH (Ys<|BG P w) a xs:=K1 ok<|.inl e
end
def GO(H:Hp)(a:ar)(y:V)(r:Option V):Prop :=
 (∃kvs k,Rd H a (.dK kvs)/\y=kV k/\r=Ba kvs k)\/∃kvs k b,Rd H a (.dT kvs)/\y=.ref b/\H b=some (.tup (k.map kV))/\r=Ba kvs k
def Es(H:Hp)(a:ar)(y v:V)(H':Hp):Prop :=
 (∃kvs k,H a=some (.dK kvs)/\y=kV k/\kvs.length<sizeLine/\H'=upd H a (.dK (BS kvs k v))) \/
 ∃kvs k b,H a=some (.dT kvs)/\y=.ref b/\H b=some (.tup (k.map kV))/\kvs.length<sizeLine/\H'=upd H a (.dT (BS kvs k v))
theorem GO.k{H:Hp}{a:ar}{kvs:List (Ay×V)}{k:Ay}(e:H a=some (.dK kvs)):GO H a (kV k) (Ba kvs k):=.inl ⟨kvs,k,.inl e,rfl,rfl⟩
theorem Es.k{H:Hp}{a:ar}{kvs:List (Ay×V)}{k:Ay}{v:V}(e:H a=some (.dK kvs))(B:kvs.length<sizeLine):Es H a (kV k) v (upd H a<|.dK (BS kvs k v)):=.inl ⟨kvs,k,e,rfl,B,rfl⟩
section
variable {X:Cx}{π:List (ar×Obj)}{σ:St}{H:Hp}{s:US}{a:ar}{y v:V}{u r:af}{o:Option V}{A:Vf}{E:af->US->Prop}
def Ac.big(I:Ac X π σ H s):Wj<s.heap.objs.size:=by have h:Xd<s.heap.objs.size:=(I.mod.glob.keeps I.bk).lt;exact Nat.lt_trans `x h
def AcP (hu:A.units+1<cLine)(I:Ac X π σ H s)(g:GO H a y (some v))(ry:AH y u)(h:∀D s',Ac X π σ H s'->AH v D->Q D s'):
  UY (U1 X.prog X.w) A (Ya (.ref a) u) Q E s:=by
 rcases g with ⟨J,k,e,L,l⟩|⟨J,k,b,e,L,eb,l⟩
 .subst L;obtain⟨z,hd,vs,B,O⟩:=AU<|JD I.ah e;obtain⟨D,hw,Y⟩:=Au<|Dh.some_of (v:=v) (o:=XR vs k) (by rw[l];exact B.val k);exact yr (GN ry) O.mapOf hw<|h D _ (I.tok _) Y
 .subst L;cases(show u=Vo b from ry);obtain⟨z,hd,xs,B,O⟩:=AU<|K1 I.ah e;obtain⟨D,hw,Y⟩:=Au (Dh.some_of (v:=v) (o:=(Xv xs k).map (·.2))<|by rw[l];exact B.val k);obtain⟨p,hp,dJ⟩:=Au<|VH.mp hw;apply wpAny_getItem_heap (wG hu) (K0 I.ah eb) O hp;rw[dJ];exact h D _ (I.tok _) Y
def K2 (I:Ac X π σ H s)(D:IW (H a))(hs:V8 a s.heap h')(J:∃q,h'.get? a=some q)(new:Bv X.prog X.w (upd H a B) h' a B):
  Ac X π σ (upd H a B) { s with heap:=h',toks:=t' } :=
 I.write (x:=a) (e:=a) D (.inl rfl) (λb q hb z=>(hs.2 b hb).trans z) J new
def MZ (z:kvs.length<=sizeLine)(hd:(a == Wj)=false)(B:KV kvs vs)(dd:h'.DictOf (BG P w) a vs):
  Bv P w D h' a (.dK kvs):=⟨z,hd,vs,B,dd⟩
def Q2 (hu:A.units+1<cLine)(I:Ac X π σ H s)(g:Es H a y v H')(ry:AH y u)(rv:AH v r)(h:∀s',Ac X π σ H' s'->Q () s'):
  UY (U1 X.prog X.w) A (YV (.ref a) u r) Q E s:=by
 rcases g with ⟨B,k,e,L,l,O⟩|⟨B,k,b,e,L,eb,l,O⟩
 .subst L O;obtain⟨z,hd,vs,D,Y⟩:=AU<|MY I.ah e;have hz:vs.length<=sizeLine:=by rw[<-D.length];exact z
  have hl:(BS B k v).length<=sizeLine:=by have:=KY B k v;omega
  refine wpAny_setItem_pairs (hsz:=hz) (GN ry) Y λh' J hs=>h _ ?_;have he:∃q,h'.get? a=some q:=let ⟨q,_,_,hq,_⟩:=J;⟨q,hq⟩;exact K2 I (by rw[e];exact Wt) hs he<|MZ hl hd (D.put k rv) J
 .subst L O;cases(show u=Vo b from ry);obtain⟨z,hd,xs,D,Y⟩:=AU<|AcO I.ah e;have hz:xs.length<=sizeLine:=by rw[<-Paired.length D];exact z
  have hl:(BS B k v).length<=sizeLine:=by have:=KY B k v;omega
  refine wpAny_setItem_heap (hsz:=hz) (wG hu) (K0 I.ah eb) Y λh' J hs=>h _ ?_;obtain⟨q,es,ep,hq,h2,h3,h4,_,h5⟩:=Gk J;refine K2 I (by rw[e];exact Wt) hs ⟨q,hq⟩ ⟨hl,hd,_,(D.put k eb rv).keeps λc ys ec=>?_,q,es,ep,hq,h2,h3,h4,h5⟩;rw[Aw<|Kl ec e (λz=>nomatch z)];exact ec
end
section
variable {X:Cx}{π:List (ar×Obj)}{σ:St}{H:Hp}{s:US}{a:ar}{kvs:List (Ay×V)}{k:Ay}{u:af}{A:Vf}{E:af->US->Prop}
end
def M0(i:UX):Prop:=∀ov iv,Zz i false ov iv=operate [ov,iv] (Ya ov iv)
def AcQ{prog:UZ}{w:UU}{A:Vf}{E:af->US->Prop}{s:US}{env:Env}{value slice:UX}{pos:Pos}{T id:String}{Q:af->US->Prop}(O:typeLookup (.type T) "__getitem__"=pure (some<|.builtin id))(hs:M0 slice)(h:UY (U1 prog w) A (U9 value env) (λo I=>UY (U1 prog w) A (U9 slice env) (λi D=>D.TypeIs o T/\UY (U1 prog w) A (Ya o i) Q E D) E I) E s) :
  UY (U1 prog w) A (U9 (.Subscript value slice pos) env) Q E s:=by
 refine vT<|Ws h (λo I V=>Ws V (λi D H=>?_) λ_ _ x=>x) λ_ _ x=>x;obtain⟨J,H⟩:=H;unfold vU;apply U2;rw[getitemInPython_of_ne J.not_modules];refine U2<|wpAny_specialOf J O ?_;have B:UY (U1 prog w) A (Zz slice false o i) (λr L=>UY (U1 prog w) A (letTemporaryGo value o r >>= λ_=>pure r) Q E L) E D:=by rw[hs o i];exact wpAny_operating<|Ws H (λr L Y=>U2<|wpAny_letTemporaryGo (Vd Y)) λ_ _ x=>x
 first
  |exact Vd<|U2 B
  |exact U2<|Vd (U2 B)
  |exact U2 B
def AcR(td ty tv:TE):TS:=λD σ H=>tv σ H λv H1=>td σ H1 λx H2=>ty σ H2 λy H3=>∃a H4,x=.ref a/\Es H3 a y v H4/\D.nx σ H4
def AcS(td ty tv:TE)(rd:V->V->Hp->VK->Prop):TS:=λD σ H=>td σ H λx H1=>ty σ H1 λy H2=>∃a v,x=.ref a/\GO H2 a y (some v) /\
 tv σ H2 λy2 H3=>rd v y2 H3 λz H4=>∃H5,Es H4 a y z H5/\D.nx σ H5
section
variable {X:Cx}{o i e value:UX}{pos pos' iZ:Pos}{td ty tv:TE}
def Cc(hu:X.A.units+1<cLine)(J:PE X o td)(L:PE X i ty)(hv:PE X value tv)(hs:Xq value (some<|.Subscript o i pos') pos.line X.env=pure false) :
  PS X (.Assign [.Subscript o i pos'] value pos) (AcR td ty tv):=by
 show 5;refine wpAny_Assign_Subscript (As (hv π s σ H _ I h) λr O B=>AF B λv V Y rv q1=>As (J π O σ V _ Y q1) λu s2 B=>AF B λx H2 I2 rx q2=>As (L π s2 σ H2 _ I2 q2) λiv s3 B=>AF B λy H3 I3 ry zz=>?_) hs;obtain⟨a,H4,ex,g,q3⟩:=BB zz;subst ex;obtain rfl:u=Vo a:=rx;exact Q2 hu I3 g ry rv λs4 I4=>⟨σ,H4,I4,q3⟩
def AcT (hu:X.A.units+1<cLine)(ho:PE X o td)(hi:PE X i ty)(hv:PE X value tv)(mR:Kw X Y rd)(ha:∀L J new,augStore i L J new=(do Wl [new,L,J] (YV L J new);release [new,L,J] [];pure .next)):PS X (.AugAssign (.Subscript o i iZ) Y value pos) (AcS td ty tv rd):=by show 5;refine xu (As (ho π s σ H _ I h) λu s1 B=>AF B λx H1 I1 rx q1=>As (hi π s1 σ H1 _ I1 q1) λJ s2 B=>AF B λy H2 I2 ry zz=>?_) ha;obtain⟨a,v,ex,g,q2⟩:=BB zz;subst ex;obtain rfl:u=Vo a:=rx;refine AcP hu I2 g ry λw' s3 I3 aY=>As (hv π s3 σ H2 _ I3 q2) λw2 s4 B=>AF B λy2 H3 I4 O q3=>As (mR π s4 σ H3 v y2 w' w2 _ I4 aY O q3) λw3 s5 B=>AF B λz H4 I5 rz ⟨H5,g5,q4⟩=>?_;exact Q2 hu I5 g5 ry rz λs6 I6=>⟨σ,H5,I6,q4⟩
end
def M3 (h:Heap)(hb:Wj<h.objs.size):Bv P w H (h.push { cls:=.type "dict",data:=.dict #[] }) h.objs.size (.dK []) :=
 ⟨Wn _,beq_eq_false_iff_ne.mpr<|Vy (Vv hb),[],.nil,Heap.DictOf.new h⟩
def AcU:TE:=λ_ H Q=>∀p,H p=none->Q (.ref p) (upd H p (.dK []))
section
variable {X:Cx}{pos:Pos}
def AcV:PE X (.Dict [] [] pos) AcU:=λπ s σ H Q I h =>
 wpAny_Dict_empty ⟨.ref s.heap.objs.size,_,I.laid (a:=s.heap.objs.size) (o:=.dK []) (t':=s.toks) (λ_ _ q=>Vp _ q) (Vb _)<|M3 s.heap I.big,rfl,h _<|I.ah.fresh (Vb _)⟩
end
def M4:List (TE×TE)->St->Hp->(List (V×V)->Hp->Prop)->Prop
 |[],_,H,Q=>Q [] H
 | (tk,tv)::r,σ,H,Q=>tk σ H λx H1=>tv σ H1 λy H2=>M4 r σ H2 λps H3=>Q ((x,y)::ps) H3
abbrev VV:List (V×V)->List (af×af)->Prop:=Paired λp q=>AH p.1 q.1/\AH p.2 q.2
def K4(X:Cx)(pos:Pos)(keys:List (Option UX))(values:List UX)(eN:List (TE×TE)):Prop :=
 ∀(π:List (ar×Obj))(s:US)(σ:St)(H:Hp)(Q:List (V×V)->Hp->Prop),Ac X π σ H s->M4 eN σ H Q ->
  UY (U1 X.prog X.w) X.A (evalPairs (pairTrees keys values X.env pos)) (λvs s'=>∃ps H',Ac X π σ H' s'/\VV ps vs/\Q ps H') X.xe s
def AcW:K4 X pos [] [] []:=λπ s σ H Q I h=>pairTrees_nil_walk ⟨[],H,I,.nil,h⟩
def JE (hk:PE X k tk)(hv:PE X v J)(O:K4 X pos ks vs L):
  K4 X pos (some k::ks) (v::vs) ((tk,J)::L):=λπ s σ H Q I h =>
 pairTrees_cons_walk (As (hk π s σ H _ I h) λu V B=>AF B λx Y I1 rx q1=>As (hv π V σ Y _ I1 q1) λw2 s2 ⟨y,H2,I2,ry,q2⟩ =>
  As (O π s2 σ H2 _ I2 q2) λws s3 B=>AF B λps H3 I3 D q3=>⟨(x,y)::ps,H3,I3,.cons ⟨rx,ry⟩ D,q3⟩)
def Io(kvs more:List (Ay×V)):List (Ay×V):=more.foldl (λacc kv=>BS acc kv.1 kv.2) kvs
def KV.merge:∀{more:List (Ay×V)}{B:List (Ay×af)}{kvs:List (Ay×V)}{vs:List (Ay×af)},KV more B->KV kvs vs->KV (Io kvs more) (merged vs B):=by
 intro more B kvs vs r;unfold KV at r;induction r generalizing kvs vs with
 |nil=>intro q;exact q
 |@cons p q D qs h t ih =>
  intro r0;have e:KV (BS kvs p.1 p.2) (stored vs q.1 q.2):=by have:=r0.put p.1 h.2;rwa[<-h.1]
  exact ih e
theorem Q3:∀(more kvs:List (Ay×V)),(Io kvs more).length<=kvs.length+more.length
 |[],kvs=>by show kvs.length<=kvs.length+0;omega
 |p::r,kvs=>by
  have B:=Q3 r (BS kvs p.1 p.2);have D:=KY kvs p.1 p.2;show(Io (BS kvs p.1 p.2) r).length<=_;rw[VX];omega
theorem Q4:∀{kvs:List (Ay×V)}{ws:List (af×af)},VV (kvs.map λkv=>(kV kv.1,kv.2)) ws->∃B,Carries (BG P w) ws B/\KV kvs B
 |[],_,r=>by rw[Yk]at r;cases r;exact⟨[],Wt,.nil⟩
 |p::kvs,_,r=>by
  rw [VP]at r;cases r with
  |@cons a b D bs h t =>
   obtain⟨B,c,q⟩:=Au (Q4 (P:=P) (w:=w) t);obtain⟨b1,b2⟩:=b;exact⟨(p.1,b2)::B,⟨GN h.1,rfl,c⟩,.cons ⟨rfl,h.2⟩ q⟩
def AcX(eN:List (TE×TE)):TE:=λσ H Q=>∀p,H p=none->M4 eN σ (upd H p (.dK [])) λps H2=>H2 p=some (.dK [])/\∃kvs:List (Ay×V),ps=kvs.map (λkv=>(kV kv.1,kv.2))/\kvs.length<=15/\Q (.ref p) (upd H2 p (.dK (Io [] kvs)))
def AcY{X:Cx}{pos:Pos}{keys:List (Option UX)}{B:List UX}{O:List (TE×TE)}(h:K4 X pos keys B O)(aA:keys.all (·.isSome)=true)(hl:keys.length=B.length)(h0:keys≠[])(J:keys.length<=15):PE X (.Dict keys B pos) (AcX O):=by
 intro π s σ H Q I q;have hn:=I.ah.fresh<|Vb s.heap.objs.size;have I1:=I.laid (a:=s.heap.objs.size) (o:=.dK []) (h':=s.heap.push { cls:=.type "dict",data:=.dict #[] }) (t':=s.toks) (λ_ _ q=>Vp _ q) (Vb _)<|M3 s.heap I.big;refine wpAny_Dict_walk (knd:=BG X.prog X.w) aA hl h0 J<|As (h π _ σ _ _ I1<|q _ hn) λws s2 zz=>AF zz λps H2 Y L zz=>?_;obtain⟨e,D,ep,lk,q2⟩:=zz;subst ep;obtain⟨rs,c,rk⟩:=Au<|Q4 (P:=X.prog) (w:=X.w) L;obtain⟨z,hd,vs0,r0,dd⟩:=AU<|MY Y.ah e;cases r0;refine⟨rs,c,dd,λV dM hs=>⟨.ref s.heap.objs.size,_,?_,rfl,q2⟩⟩;have hz:(Io [] D).length<=sizeLine:=by have h1:=Q3 D [];rw[ZN]at h1;rw[U0];omega
 have he:∃q,V.get? s.heap.objs.size=some q:=let ⟨q,_,_,hq,_⟩:=dM;⟨q,hq⟩;exact K2 Y (by rw[e];exact Wt) hs he<|MZ hz hd (rk.merge .nil) dM
structure M1(X:Cx)(o:UX)(m:aU)(apos:Pos)(e:UX)(aW:Pos):Prop where
 base:YX o m X.env (U9 o X.env)=U9 o X.env
 aD:((Vu aW (U8 [e] X.env)).all (λx=>!x.1) && (WV aW (WW [] X.env)).all (λx=>x.1.isSome)
  && decide (([e]:List UX).length+([]:List Yh).length+(if ([]:List Yh).isEmpty then 0 else 1)<30))=true
 line:(apos.endLine == aW.line)=true
 trees:Vu aW (U8 [e] X.env)=[(false,U9 e X.env)]
structure M2(X:Cx)(o:UX)(m:aU)(apos:Pos)(e f:UX)(aW:Pos):Prop where
 base:YX o m X.env (U9 o X.env)=U9 o X.env
 aD:((Vu aW (U8 [e,f] X.env)).all (λx=>!x.1) && (WV aW (WW [] X.env)).all (λx=>x.1.isSome)
  && decide (([e,f]:List UX).length+([]:List Yh).length+(if ([]:List Yh).isEmpty then 0 else 1)<30))=true
 line:(apos.endLine == aW.line)=true
 trees:Vu aW (U8 [e,f] X.env)=[(false,U9 e X.env),(false,U9 f X.env)]
def Q5(H:Hp)(a:ar):Prop:=(∃kvs,Rd H a (.dK kvs))\/∃kvs,Rd H a (.dT kvs)
def AcZ{X:Cx}{π:List (ar×Obj)}{σ:St}{H:Hp}{s:US}{a:ar}(I:Ac X π σ H s)(d:Q5 H a) :
  s.TypeIs (.ref a) "dict"/\(∀b,Vo a=.ref b->∃B,s.heap.get? b=some B/\B.dict=none)/\(a == Wj)=false:=by
 rcases d with ⟨J,e⟩|⟨J,e⟩
 .obtain ⟨_,hd,vs,_,D⟩:=AU<|JD I.ah e;refine⟨D.typeIs,λb q=>?_,hd⟩;cases q;obtain⟨B,_,_,L,O,_⟩:=Dg D;exact⟨B,L,O.2.1⟩
 .obtain ⟨_,hd,xs,_,D⟩:=AU<|K1 I.ah e;refine⟨D.typeIs,λb q=>?_,hd⟩;cases q;obtain⟨B,_,_,L,O,_⟩:=Dg D;exact⟨B,L,O.2.1⟩
section
variable {X:Cx}{π:List (ar×Obj)}{σ:St}{H:Hp}{s:US}{a:ar}{y d:V}{u r:af}{o:Option V}{A:Vf}{E:af->US->Prop}
def Ac0 (hu:A.units+1<cLine)(I:Ac X π σ H s)(g:GO H a y o)(O:AH y u)(Y:AH d r)(h:∀w' s',Ac X π σ H s'->AH (o.getD d) w'->Q w' s'):
  UY (U1 X.prog X.w) A (call (.builtin "dict.get") [.ref a,u,r]) Q E s:=by
 rcases g with ⟨J,k,e,L,l⟩|⟨J,k,b,e,L,eb,l⟩
 .subst L;obtain⟨z,hd,vs,B,D⟩:=AU<|JD I.ah e;refine call_meetsIn wH D.typeIs yt (yu _ _ _) (meets_dict_get_default (BG X.prog X.w) a (GN O) hd r) ⟨_,D.mapOf,h _ _ (I.tok _) ?_⟩;rw[l];exact(B.val k).getD Y
 .subst L;cases(show u=Vo b from O);obtain⟨z,hd,xs,B,D⟩:=AU<|K1 I.ah e;refine call_meetsIn wH D.typeIs yt (yu _ _ _) (meetsH_dict_get_default (Ys<|BG X.prog X.w) a b hd r) ⟨wG hu,k,xs,K0 I.ah eb,D,h _ _ (I.tok _) ?_⟩;rw[l];exact(B.val k).getD Y
end
def Ac1(td ty tx:TE):TE:=λσ H Q=>td σ H λx H1=>∃a,x=.ref a/\Q5 H1 a/\ty σ H1 λy H2=>tx σ H2 λz H3=>∃o,GO H3 a y o/\Q (o.getD z) H3
section
variable {X:Cx}{o e f:UX}{apos aW:Pos}{td ty tx:TE}
def Ac2(hu:X.A.units+1<cLine)(J:PE X o td)(L:PE X e ty)(O:PE X f tx)(m:M2 X o "get" apos e f aW):PE X (.Call (.Attribute o "get" apos) [e,f] [] aW) (Ac1 td ty tx):=by
 show 0;refine wpAny_Call_method m.base m.aD m.line PySem.F.plainAttrs_dict wH PySem.F.type_dict_get<|As (J π s σ H _ I h) λu V B=>AF B λx Y D rx zz=>?_;obtain⟨a,ex,d,q1⟩:=AG zz;subst ex;obtain rfl:u=Vo a:=rx;obtain⟨t1,t2,_⟩:=AU<|AcZ D d;refine⟨t1,t2,?_⟩;rw[m.trees];refine xQ rfl (vZ (vQ (As (L π V σ Y _ D q1) λiv s2 ⟨y,H2,I2,ry,q2⟩ =>
  vQ (As (O π s2 σ H2 _ I2 q2) λfv s3 B=>AF B λz H3 I3 rz ⟨ov,g,q3⟩=>xG ?_))))
 exact Ac0 hu I3 g ry rz λw' s4 I4 aY=>⟨_,H3,I4,aY,q3⟩
end
section
variable {X:Cx}{π:List (ar×Obj)}{σ:St}{H:Hp}{s:US}{a:ar}{kvs:List (Ay×V)}{A:Vf}{E:af->US->Prop}
end
section
variable {X:Cx}{π:List (ar×Obj)}{σ:St}{H:Hp}{s:US}{a:ar}{y:V}{u:af}{A:Vf}{E:af->US->Prop}
end
section
variable {X:Cx}
end
section
variable {κ:Type} [DecidableEq κ]
end
section
variable {X:Cx}{N':List aU}{sc:Scope}{aF:List (Option Nat)}{cl:List (aU×ar)}{C:ar}{fp:List ar}{π:List (ar×Obj)}{s₂:US}{H₂:Hp}{σ:St}
def Ac3 (I:Ac X π σ H s)(e:H D=some (.dK kvs))(aD:kvs.length<sizeLine)(rk:AH (kV k) x)(O:AH v y)(q:∀J,Ac X π σ (upd H D<|.dK (BS kvs k v)) J->Q () J):UY (U1 X.prog X.w) X.A (dictSet D x y) Q E s:=by
 obtain⟨z,hd,vs,B,Y⟩:=AU<|MY I.ah e;have hz:vs.length<=sizeLine:=by rw[<-B.length];exact z
 have hl:(BS kvs k v).length<=sizeLine:=by have:=KY kvs k v;omega
 refine wpAny_dictSet_pairs (hsz:=hz) (GN rk) Y λh' L hs=>q _ ?_;have he:∃q,h'.get? D=some q:=let ⟨q,_,_,hq,_⟩:=L;⟨q,hq⟩;exact K2 I (by rw[e];exact Wt) hs he<|MZ hl hd (B.put k O) L
abbrev Q6(tk tv:TE)(D:ar):St->Hp->(Hp->Prop)->Prop:=λσ H N=>tk σ H λk H5=>tv σ H5 λv H6=>∃kvs kk,k=kV kk/\H6 D=some (.dK kvs)/\kvs.length<sizeLine/\N (upd H6 D (.dK (BS kvs kk v)))
def Ac4(aF:List (Option Nat))(wi:TI)(g:TG)(tt:TT)(tk tv:TE):TE:=Ij (λ_=>.dK []) (Q6 tk tv) aF wi g tt
def Ac5{kx O V iter:UX}{B:List UX}{pos:Pos}{Y tv:TE}(he:∀cl C fp π s₂ H₂,PE (Bu X N' sc cl C fp π s₂ H₂) kx Y)(hv:∀cl C fp π s₂ H₂,PE (Bu X N' sc cl C fp π s₂ H₂) O tv):Jx X (.DictComp kx O [⟨V,iter,B,0⟩] sc pos) V iter B N' sc newDict (λ_=>.dK []) (Q6 Y tv) :=
 ⟨rfl,λ_ _ _ _=>⟨rfl,rfl⟩,λ{π s σ H Q} I q=>Y8<|q _ (I.laid (λb o q=>Vp _ q) (Vb _)<|M3 s.heap I.big),codeAny_compStart_dict,λcl C fp π s₂ H₂ it D=>⟨_,compTurn_dict ..,λ{bU s σ H N} I q=>by
  refine U2<|As (he cl C fp π s₂ H₂ _ s σ H _ I q) λy s8 J=>AF J λv H8 I8 r8 q8=>U2<|WJ (As (hv cl C fp π s₂ H₂ _ s8 σ H8 _ I8 q8) λy' s9 J=>AF J λv' H9 I9 r9 zz=>?_);obtain⟨kvs,kk,e,hy,aD,n9⟩:=BB zz;subst e;exact U2<|X8 (WJ<|Ac3 (X:=Bu X N' sc cl C fp π s₂ H₂) I9 hy aD r8 r9 λjo L=>⟨_,L,n9⟩)⟩⟩
def Q7 (hc:X.calm=true)(S:Bl sc X.env.scope N' X.N aF)(V:PI X D iter I)(Y:∀cl C fp π s₂ H₂,PG (Bu X N' sc cl C fp π s₂ H₂) D g)(ht:∀cl C fp π s₂ H₂,F1 (Bu X N' sc cl C fp π s₂ H₂) B J)(he:∀cl C fp π s₂ H₂,PE (Bu X N' sc cl C fp π s₂ H₂) kx L)(hv:∀cl C fp π s₂ H₂,PE (Bu X N' sc cl C fp π s₂ H₂) H O)(hs:∀x,XC iter X.env x=pure x:=by intro _;rfl):PE X (.DictComp kx H [⟨D,iter,B,0⟩] sc pos) (Ac4 aF I g J L O):=MI rfl hc S V Y ht (Ac5 he hv) hs
end
structure K5(P:UZ)(w:UU)(K:UT)(a:ar)(kvs:List (Ay×V)):Prop where
 lo:(a == Wj)=false
 sz:kvs.length<=sizeLine
 rS:∃o vs ep,K.lookup a=some o/\KV kvs vs/\∀h:Heap,h.get? a=some o->h.DictAt (BG P w) a vs ep
def Dq(P:UZ)(w:UU)(K:UT)(H:Hp)(a:ar)(kvs:List (Ay×V)):Prop:=Rd H a (.dK kvs)\/K5 P w K a kvs
def Dq.of{P:UZ}{w:UU}{K:UT}{H:Hp}{a:ar}{kvs:List (Ay×V)}(h:H a=some (.dK kvs)):Dq P w K H a kvs:=.inl<|.inl h
def Q8 (h:(BG P w).is k u=true):AH (kV k) u:=by
 rw [Aaf]at h;cases k with
 |inl i =>
  show ∃t,u=V3 i t;cases u<;>simp[Fu,Z5]at h;rename_i j t
  exact⟨t,by rw[h]⟩
 |inr x =>
  show ∃t,u=VT x t;cases u<;>simp[Fu,Zn]at h;rename_i j t
  exact⟨t,by rw[h]⟩
section
variable {X:Cx}{π:List (ar×Obj)}{σ:St}{H:Hp}{s:US}{a:ar}{kvs:List (Ay×V)}{P:UZ}{w:UU}{K:UT}
def K6(I:Ac X π σ H s)(e:Dq X.prog X.w X.K H a kvs):kvs.length<=sizeLine/\(a == Wj)=false/\∃vs,KV kvs vs/\s.heap.DictOf (BG X.prog X.w) a vs:=by
 rcases e with e|e
 .exact JD I.ah e
 .obtain ⟨o,vs,B,l,r,d⟩:=Dg e.rS;exact⟨e.sz,e.lo,vs,r,(d _<|I.bk _ _ (I.mod.d7 _ _ l)).dictOf⟩
def Q9(P:UZ)(w:UU)(K:UT)(neg:Bool):R2:=λx y H Q=>∃a kvs k,y=.ref a/\x=kV k/\Dq P w K H a kvs/\Q (.bl (if neg then !(Ba kvs k).isSome else(Ba kvs k).isSome)) H
def Ac6(D:X.prog=P:=by rfl)(hw:X.w=w:=by rfl)(J:X.K=K:=by rfl):Bc X (VE .NotIn) (Q9 P w K true):=by
 subst D hw J;intro π s σ H x y v u Q I L O h;replace h:=Dg h;obtain⟨a,kvs,k,rfl,rfl,e,q⟩:=h
 cases(show u=Vo a from O);obtain⟨z,hd,vs,B,Y⟩:=AU<|K6 I e;apply wpAny_notIn_of (GN L) hd Y.mapOf;rw[<-(B.val k).rR];exact⟨.bl<|!(Ba kvs k).isSome,H,I.tok _,rfl,q⟩
def Ra(P:UZ)(w:UU)(K:UT)(td ty:TE):TE:=λσ H Q=>td σ H λx H1=>ty σ H1 λy H2=>∃a kvs k v,x=.ref a/\y=kV k/\Dq P w K H2 a kvs/\Ba kvs k=some v/\Q v H2
def Ac7{o i:UX}{pos:Pos}{J ty:TE}(Y:PE X o J)(hi:PE X i ty)(hs:M0 i)(hP:X.prog=P:=by rfl)(hw:X.w=w:=by rfl)(hK:X.K=K:=by rfl):PE X (.Subscript o i pos) (Ra P w K J ty):=by subst hP hw hK;show 0;refine AcQ PySem.F.slot_dict_getitem.lookup hs<|As (Y π s σ H _ I h) λu s1 B=>AF B λx H1 I1 rx q1=>As (hi π s1 σ H1 _ I1 q1) λiv s2 B=>AF B λy H2 L ry zz=>?_;obtain⟨a,kvs,k,v,ex,ey,g,l,q2⟩:=DW zz;subst ex ey;obtain rfl:u=Vo a:=rx;obtain⟨z,hd,vs,D,O⟩:=AU<|K6 L g;obtain⟨w',hw,aY⟩:=Au<|Dh.some_of (v:=v) (o:=XR vs k) (by rw[<-l];exact D.val k);exact⟨O.typeIs,yr (GN ry) O.mapOf hw ⟨v,H2,L.tok _,aY,q2⟩⟩
def Aq(P:UZ)(w:UU)(K:UT){X:Cx}{o i:UX}{pos:Pos}{B ty:TE}(D:PE X o B)(I:PE X i ty)(hs:M0 i:=by exact λ_ _=>rfl)(J:X.prog=P:=by rfl)(hw:X.w=w:=by rfl)(L:X.K=K:=by rfl):PE X (.Subscript o i pos) (Ra P w K B ty):=Ac7 D I hs J hw L
end
section
variable {K:UT}{D:ar}{kvs:List (Ay×V)}{g:TG}{tt:TT}{tk tv:TE}{σ0:St}{H:Hp}{Q:Hp->Prop}{a:ar}{xs:List V}
abbrev K7(D:ar)(tt:TT)(tk tv:TE)(N:St->Hp->Prop):St->Hp->Prop:=λσ3 H3=>tt σ3 H3 λb H4 =>
 if b=true then tk σ3 H4 λk H5=>tv σ3 H5 λv H6=>∃kvs kk,k=kV kk/\H6 D=some (.dK kvs)/\kvs.length<sizeLine/\N σ3 (upd H6 D (.dK (BS kvs kk v)))else N σ3 H4
end
section
variable {X:Cx}{op:CmpOp}{r:R2}{a b c e1 e2 e3 e4:UX}{p:List Stmt}{t:TS}{ta tb t1 t2 t3 t4:TE}{tc:TT}{pos:Pos}
def A1(B:Bc X (VE op) r)(D:PE X a ta)(hb:PE X b tb)(h:op≠.In:=by decide)(H:op≠.NotIn:=by decide):PT X (.Compare a [op] [b] pos) (Kt<|G3 r ta tb):=Em B D hb<|PQ b h H
def K8(B:Bc X (VE op) r)(D:PE X a ta)(hb:PE X b tb)(h:op≠.In:=by decide)(H:op≠.NotIn:=by decide):PE X (.Compare a [op] [b] pos) (G3 r ta tb):=PR B D hb<|PQ b h H
def Hn(P:UZ)(w:UU)(K:UT)(B:PE X a ta)(hb:PE X b tb)(D:YW .NotIn b=false:=by with_unfolding_all rfl)(H:X.prog=P:=by rfl)(hw:X.w=w:=by rfl)(I:X.K=K:=by rfl):PT X (.Compare a [.NotIn] [b] pos) (Kt<|G3 (Q9 P w K true) ta tb):=Em (Ac6 H hw I) B hb D
def AV(hc:PT X c tc)(B:Di X p t):PS X (.If c p [] pos) (Pj tc t Ph):=Ja hc B Aar
def Ag(B:PE X e1 t1)(hs:U8 [e1] X.env=(false,U9 e1 X.env)::U8 [] X.env:=by rfl):PA X [e1] (Gy t1 BA):=Co B B3 hs
def AJ(B:PE X e1 t1)(D:PE X e2 t2)(hs:U8 [e1,e2] X.env=(false,U9 e1 X.env)::U8 [e2] X.env:=by rfl)(H:U8 [e2] X.env=(false,U9 e2 X.env)::U8 [] X.env:=by rfl):PA X [e1,e2] (Gy t1<|Gy t2 BA):=Co B (Ag D H) hs
def A0(B:PE X e1 t1)(D:PE X e2 t2)(H:PE X e3 t3)(hs:U8 [e1,e2,e3] X.env=(false,U9 e1 X.env)::U8 [e2,e3] X.env:=by rfl)(I:U8 [e2,e3] X.env=(false,U9 e2 X.env)::U8 [e3] X.env:=by rfl)(hq:U8 [e3] X.env=(false,U9 e3 X.env)::U8 [] X.env:=by rfl):PA X [e1,e2,e3] (Gy t1<|Gy t2 (Gy t3 BA)):=Co B (AJ D H I hq) hs
end
structure BI(H H':Hp)(l:ar)(o:HO):Prop where
 n:H l=none
 e:H'=upd H l o
def BI.get (n:BI H B l o):B l=some o:=by rw[n.e];exact Ao
def BI.same (n:BI H B l o):Ah H B:=by rw[n.e];exact(Ah.refl H).upd n.n
def Ac8(t:TA):TE:=λσ H Q=>t σ H λxs H1=>xs.length<=sizeLine/\∀p H2,BI H1 H2 p (.tup xs)->Q (.ref p) H2
def Ac9(t:TA):TE:=λσ H Q=>t σ H λxs H1=>xs.length<=sizeLine/\∀p H2,BI H1 H2 p (.lst xs)->Q (.ref p) H2
variable {X:Cx}{es:List UX}{t:TA}{pos:Pos}
def Bp (h:PA X es t):PE X (.Tuple es x1 pos) (Ac8 t):=by intro π s σ H Q I hq;refine xH<|As (h pos π s σ H _ I hq) λus B L=>FV L λxs D J r z q=>⟨by rwa[<-r.length],?_⟩;have O:D B.heap.objs.size=none:=J.ah.fresh<|Vb _;refine⟨.ref B.heap.objs.size,upd D B.heap.objs.size<|.tup xs,J.laid (t':=B.toks) (λb u e=>Vp _ e) (Vb _) ?_,rfl,q _ _ ⟨O,rfl⟩⟩;exact⟨z,us,r,⟨_,VO _ rfl,rfl,_,rfl⟩⟩
def A3(h:PA X es t):PE X (.List es pos) (Ac9 t):=by intro π s σ H Q I hq;refine xI<|As (h pos π s σ H _ I hq) λus B L=>FV L λxs D J r z q=>⟨by rwa[<-r.length],?_⟩;have O:D B.heap.objs.size=none:=J.ah.fresh<|Vb _;refine⟨.ref B.heap.objs.size,upd D B.heap.objs.size<|.lst xs,J.laid (t':=B.toks) (λb u e=>Vp _ e) (Vb _) ?_,rfl,q _ _ ⟨O,rfl⟩⟩;exact⟨z,us,0,r,VO _ rfl⟩
end L2
namespace L2
open PySem PySem.Spec PyProof.Rows
structure Rb(K:UT)(C f:ar)(m:aU):Prop where
 rd:yv K C (.type "type")=true
 sp:Zu K (.ref C) "__getattribute__"=some (some (.builtin "type.__getattribute__"))
 fd:yw K (.ref C) (.type "type") m=some (.val (.ref f))
 ty:Yd K (.ref f)=some (.type "function")
 kp:WU K (.ref f)=true
section
variable {X:Cx}{CX:Cp}{k:Nat}{f C:ar}{fd:U7}{ps:List aU}{sp:Sp}{E:XK}{x m:aU}{p pos apos:Pos}{e:UX}{es:List UX}{t:TA}
def Ada{pl:Sem Bool}(c:Rb X.K C f m)(g:Gm X.env.scope x)(V:X.mg x=some (.ref C))(F:Az X.prog X.w X.K X.mg X.base CX k f fd ps sp)(hb:DI X.K fd ps [])(Y:BE k X.A)(hx:DB CX X E)(ha:PA X (e::es) t)(aG:U8 (e::es) X.env=(false,U9 e X.env)::U8 es X.env:=by rfl)(aN:(Vu pos<|U8 es X.env).any (·.1)=false:=by rfl)(ht:U9 (.Call (.Attribute (.Name x p) m apos) (e::es) [] pos) X.env=(U9 (.Name x p) X.env >>= λJ=>Wo apos.atName >>= λ_=>Wl [J] (Xg J m pl) >>= λff=>XE pos ff.1 ff.2 (Vu pos<|U8 (e::es) X.env)<|WV pos (WW [] X.env)):=by rfl) :
  PE X (.Call (.Attribute (.Name x p) m apos) (e::es) [] pos) (Kx sp [] E t):=by
 show 0;refine YC (pl:=pl) ?_ ht;have pn:PE X (.Name x p) (tC<|.ref C):=Ea g V rfl;refine As (pn π s σ H (λv L=>v=.ref C/\L=H) I ⟨rfl,rfl⟩) λu s1 B=>FV B λv L D rv e1 e2=>?_;subst e1 e2;cases rv;refine PySem.W.method_cls D.aH c.sp<|PySem.W.cls_value D.aH c.rd c.fd rfl ?_;have I2:=D.tok<|s1.toks+1;refine YB (first:=[]) (h₀:=X.base) I.ok.mod.d7 c.kp (As (ha pos π _ σ _ _ I2 h) λus s2 B=>AF B λvs H2 O r q=>⟨O.aH,?_⟩) aG aN;exact Ia F Y hb .nil hx O r q
end
section
variable {X:Cx}
end
theorem Ho:∀{vs:List af}{zs:List aU},Yp vs zs->AA (zs.map V.str) vs
 |_,_,.nil=>.nil
 |_,_,.cons n t r=>.cons ⟨t,rfl⟩ (Ho r)
theorem JF:∀{zs:List aU}{vs:List af},AA (zs.map V.str) vs->Yp vs zs
 |[],_,.nil=>.nil
 |n::zs,_,.cons r t=>by
  obtain⟨B,rfl⟩:=r;exact .cons n B (JF t)
def C6(a b:aU):Prop:=a.cps.toList<=b.cps.toList
def Adb (h:C6 a b)(k:C6 b c):C6 a c:=List.le_trans h k
def Adc (h:C6 a b)(k:C6 b a):a=b:=by have e:=wI h k;cases a with|mk x=>cases b with|mk y=>cases x;cases y;simp_all
theorem Rc:∀(l:List aU)(p:aU),risingS p l=true->(p::l).Pairwise C6
 |[],p,_=>List.pairwise_singleton _ _
 |x::r,p,h=>by
  have B:(!ltCps x.cps.toList p.cps.toList && risingS x r)=true:=h;rw[WC]at B;have ih:=Rc r x B.2;have hx:C6 p x:=by have:=B.1;rw[ltCps_eq]at this;show ¬(x.cps.toList<p.cps.toList);simpa using this
  refine yx.mpr ⟨λy hy=>?_,ih⟩;rcases Vc.mp hy with z|z
  .rw[z];exact hx
  .exact Adb hx ((yx.mp ih).1 y z)
theorem Ade:∀{l:List aU},sortedS l=true->l.Pairwise C6
 |[],_=>.nil
 |x::r,h=>Rc r x h
def Adf{a b:List aU}(p:a.Perm b)(B:a.Pairwise C6)(hb:b.Pairwise C6):a=b :=
 List.Perm.eq_of_pairwise (le:=C6) (λx y _ _ D H=>Adc D H) B hb p
section
variable {X:Cx}
def Rf:BX X (.builtin "sorted") (λxs H Q=>∃(p:ar)(zs:List aU),xs=[.ref p]/\A2 X.K H p (zs.map V.str)/\zs.length<64/\∀(l:ar)(B:List aU),H l=none->B.Perm zs->B.Pairwise C6->Q (.ref l) (upd H l<|.lst (B.map V.str))):=by
 show 2;replace h:=BB h;obtain⟨p,zs,rfl,hq,hl,q⟩:=h
 obtain⟨u,rfl,L⟩:=Au<|DA r;cases L;obtain⟨its,D,pl,hz⟩:=AG<|I.list hq;have e:=D.length;rw[UW]at e;refine sorted_strs pl.isList (JF D) (by omega) λout B O J Y=>?_;obtain⟨c,ho⟩:=sortedAll_at s.heap its out;have fr:H (s.heap.objs.size+1)=none:=I.ah.fresh<|Wu _;refine⟨.ref<|s.heap.objs.size+1,_,I.laid (t':=s.toks) (λb o q=>sortedAll_old q) (Wu _) (show Bv X.prog X.w _ _ _ (.lst<|B.map V.str) from⟨?_,out.toList,c,Ho O,by simpa using ho⟩),rfl,q _ B fr J<|Ade Y⟩;rw[UW,J.length_eq,U0];omega
def Adg(hc:X.calm=true):BX X (.builtin "all") (λxs H Q=>∃(p:ar)(bs:List Bool),xs=[.ref p]/\A2 X.K H p (bs.map V.bl)/\Q (.bl<|bs.all id) H):=by
 show 2;replace h:=BB h;obtain⟨p,bs,rfl,hq,q⟩:=h
 obtain⟨u,rfl,rx⟩:=Au<|DA r;cases rx;obtain⟨its,L,pl,hz⟩:=AG<|I.list hq;refine call_all_walk<|vG pl.isList ?_;have aP:p<s.heap.objs.size:=by obtain⟨o,e,_⟩:=Au pl.isList;exact Vk e
 have J:=L.length;rw[UW]at J;have hb:∀(i:Nat)(v:af),its.toArray[i]?=some v->v=YO (bs.getD i true):=λi v hv=>by
  have O:its[i]?=some v:=by simpa using hv
  have B:i<bs.length:=by rw[J];exact(Vz.mp O).1
  obtain⟨u,Y,e2⟩:=Au<|L.get (i:=i) (x:=.bl bs[i]) (by rw[Va,Vi B];rfl);rw[O]at Y;cases Y;rwa[Vt,Vi B]
 refine⟨s.heap.objs.size,_,_,_,_,_,λi=>bs.getD i true,rfl,Walks.list (by simpa using I.ok.hd hc) s.heap.objs.size p (Vv aP) its.toArray,⟨⟨_,VO _ rfl,rfl,rfl⟩,pl.isList.push _⟩,λi v s' Q' E' hv gm=>?_,λh' tk hk=>?_⟩
 .rw[hb i v hv];exact Xp gm
 .have e:(VN its.toArray.size).all (λi=>bs.getD i true)=bs.all id:=by
   rw [Vs,<-J,XD,WL,WL];constructor
   .intro h b D;obtain⟨i,B,rfl⟩:=Xa D;have:=h i<|We.mpr B;rwa [Vt,Vi B]at this
   .intro h i B;have eM:=We.mp B;rw[Vt,Vi eM];exact h _<|Yq eM
  rw [e];have I2:Ac X π σ H { s with heap:=h',toks:=tk }:=I.kept (t':=tk) λb o D=>hk b o (λz=>by
   rw [Vl.mp z]at D;exact absurd (Vk D)<|Wv _) (Vp _ D)
  exact⟨.bl _,H,I2,rfl,q⟩
end
end L2
namespace L2
open PySem PySem.Spec PyProof.Rows PySem.W
section
variable {n:Nat}{key:Nat->List Nat}{cmp:Nat->Nat->(Bool->US->Prop)->US->Prop}{s:US}
noncomputable def Bq(p:Array Nat)(i:Nat):Nat:=p.getD i 0
def Eb(p:Array Nat)(i:Nat):Bq p i=(p[i]?).getD 0:=by unfold Bq;rw[Array.getD_eq_getD_getElem?]
structure Pm(n:Nat)(p:Array Nat):Prop where
 pm:p.toList.Perm (VN n)
def Pm.size (h:Pm n p):p.size=n:=by have:=h.pm.length_eq;simpa using this
def Pm.lt (h:Pm n p)(B:i<n):Bq p i<n:=by
 have hs:i<p.size:=by rwa[h.size]
 rw [Eb,XO hs];exact We.mp<|h.pm.mem_iff.mp (Array.getElem_mem_toList hs)
def Pm.inj (h:Pm n p)(D:i<n)(H:j<n)(e:Bq p i=Bq p j):i=j:=by
 have hs:i<p.size:=by rwa[h.size]
 have B:j<p.size:=by rwa[h.size]
 rw [Eb,Eb,XO hs,XO B]at e;have I:p.toList.Nodup:=h.pm.nodup_iff.mpr yy;have J:p.toList[i]'(by simpa using hs)=p.toList[j]'(by simpa using B):=by simpa using e
 exact(YS I).mp J
structure Ky(n:Nat)(key:Nat->List Nat)(cmp:Nat->Nat->(Bool->US->Prop)->US->Prop)(s:US):Prop where
 df:∀i j,i<n->j<n->i≠j->key i≠key j
 ok:∀i j C,i<n->j<n->C (decide (key i<key j)) s->cmp i j C s
def Up(key:Nat->List Nat)(p:Array Nat)(m:Nat):Prop:=∀i j,i<j->j<m->key (Bq p i)<key (Bq p j)
def Dn(key:Nat->List Nat)(p:Array Nat)(m:Nat):Prop:=∀i j,i<j->j<m->key (Bq p j)<key (Bq p i)
def M5 (k:Ky n key cmp s)(h:Pm n p)(B:i<n)(D:j<n)(d:i≠j)(z:¬key (Bq p i)<key (Bq p j)):key (Bq p j)<key (Bq p i):=by
 have ne:key (Bq p i)≠key (Bq p j):=k.df _ _ (h.lt B) (h.lt D) λe=>d<|h.inj B D e;rcases List.le_total (key<|Bq p i) (key<|Bq p j)with q|q
 .exact absurd (wI q<|List.not_lt.mp z) ne
 .exact Za λw=>ne<|wI (List.not_lt.mp w) q
def Up.more (u:Up key p m)(h:m=0\/key (Bq p<|m-1)<key (Bq p m)):Up key p (m+1):=λi j B D=>by
 by_cases e:j<m
 .exact u i j B e
 .have e:j=m:=by omega
  subst e;rcases h with h|h
  .omega
  .by_cases q:i=j-1
   .rwa[q]
   .exact ZO (u i (j-1) (by omega)<|(by omega)) h
def Dn.more (u:Dn key p m)(h:m=0\/key (Bq p m)<key (Bq p<|m-1)):Dn key p (m+1):=λi j B D=>by
 by_cases e:j<m
 .exact u i j B e
 .have e:j=m:=by omega
  subst e;rcases h with h|h
  .omega
  .by_cases q:i=j-1
   .rwa[q]
   .exact ZO h (u i (j-1) (by omega)<|(by omega))
theorem M6 (k:Ky n key cmp s)(B:Pm n p):∀(f m:Nat),1<=m->m+f=n->Up key p m->(∀m',m<=m'->m'<=n->Up key p m'->(m'<n->key (Bq p m')<key (Bq p (m'-1)))->Q m' s)->(kas_asc p f m).kasWp cmp Q s
 |0,m,H,I,u,q=>q m (Vb _) (by omega) u λz=>by omega
 |f+1,m,H,I,u,q=>by
  refine k.ok _ _ _ (B.lt (i:=m) (by omega)) (B.lt (i:=m-1) (by omega)) ?_;by_cases c:key (Bq p m)<key (Bq p (m-1))
  .have D:key (p.getD m 0)<key (p.getD (m-1) 0):=c;rw[cx D];dsimp only;rw[bf rfl];exact q m (Vb _) (by omega) u λ_=>c
  .have D:¬key (p.getD m 0)<key (p.getD (m-1) 0):=c;rw[cN D];dsimp only;rw[ck (by decide)];exact M6 k B f (m+1) (by omega) (by omega) (u.more (.inr (M5 k B (by omega) (by omega) (by omega) c))) λm' a b=>q m' (by omega) b
theorem Rg (k:Ky n key cmp s)(B:Pm n p):∀(f m:Nat),1<=m->m+f=n->Dn key p m->(∀m',m<=m'->m'<=n->Dn key p m'->Q (p,m',0) s)->(kas_desc f p m 0).kasWp cmp Q s
 |0,m,H,I,u,q=>q m (Vb _) (by omega) u
 |f+1,m,H,I,u,q=>by
  refine k.ok _ _ _ (B.lt (i:=m) (by omega)) (B.lt (i:=m-1) (by omega)) ?_;by_cases c:key (Bq p m)<key (Bq p (m-1))
  .have D:key (p.getD m 0)<key (p.getD (m-1) 0):=c;rw[cx D];dsimp only;rw[bf rfl,ck (by decide)];exact Rg k B f (m+1) (by omega) (by omega) (u.more (.inr c)) λm' a b=>q m' (by omega) b
  .have D:¬key (p.getD m 0)<key (p.getD (m-1) 0):=c;rw[cN D];dsimp only;rw[ck (by decide)];have d:=M5 k B (i:=m) (j:=m-1) (by omega) (by omega) (by omega) c;have J:key (p.getD (m-1) 0)<key (p.getD m 0):=d;refine k.ok _ _ _ (B.lt (i:=m-1) (by omega)) (B.lt (i:=m) (by omega)) ?_;rw[cx J];dsimp only;rw[bf rfl];exact q m (Vb _) (by omega) u
def Rh (B:m<=p.size)(i:Nat):Bq (kas_rev p 0 m) i=if i<m then Bq p (m-1-i)else Bq p i:=by
 rw [Eb,Eb,Eb];unfold kas_rev;rw[getElem?_mirror B _<|(by omega)];split
 .rename_i h
  have D:i<m:=(by omega)
  rw [bf D];congr 2
  omega
 .rename_i h
  split
  .congr 2
   omega
  .rfl
def Pm.rev (h:Pm n p)(m:Nat):Pm n (kas_rev p 0 m):=⟨(yz.mp<|mirror_perm _ _ _ _).trans h.pm⟩
def Dn.rev (h:Dn key p m)(B:m<=p.size):Up key (kas_rev p 0 m) m:=λi j H D=>by
 rw [Rh B,Rh B,bf<|(by omega),bf D];exact h _ _ (by omega)<|(by omega)
def Adh (k:Ky n key cmp s)(B:Pm n p)(V:1<=n)(q:∀m D,1<=m->m<=n->Pm n D->Up key D m->Q (m,D) s):(kas_count n p).kasWp cmp Q s:=by
 unfold kas_count;rw[Zb];refine M6 k B (n-1) 1 (Vb _) (by omega) (λi j a b=>(by omega)) λm H I u d=>?_;by_cases e:m=n
 .rw[bf<|beq_iff_eq.mpr e];exact q m p H I B u
 .rw[ck λz=>e<|beq_iff_eq.mp z];by_cases g:m > 1
  .rw[bf g];have c:key (p.getD 0 0)<key (p.getD (m-1) 0):=u 0 (m-1) (by omega) (by omega);refine k.ok _ _ _ (B.lt (i:=0)<|(by omega)) (B.lt (i:=m-1)<|(by omega)) ?_;rw[cx c];dsimp only;rw[bf rfl];exact q m p H I B u
  .rw[ck g];have J:m=1:=by omega
   subst J;unfold kas_descPart;rw[Zb];refine Rg k B (n-2) 2 `x (by omega) (Dn.more (m:=1) (λi j a b=>(by omega))<|.inr (d<|(by omega))) λm' a b dn=>?_;rw[ck<|(by simp)];unfold kas_tail3;rw[Zb];have Y:=B.size;exact M6 k (B.rev m') (n-m') m' (by omega) (by omega) (dn.rev<|(by omega)) λm2 c1 L O _=>q m2 _ (by omega) L (B.rev m') O
theorem M7 (k:Ky n key cmp s)(B:Pm n p)(hc:c<n)(u:Up key p c)(q:∀l,l<=c->(∀i,i<l->key (Bq p i)<key (Bq p c))->(∀i,l<=i->i<c->key (Bq p c)<key (Bq p i))->Q l s):
  ∀(f l r:Nat),l<=r->r<=c->r-l<=f->(∀i,i<l->key (Bq p i)<key (Bq p c))->(∀i,r<=i->i<c->key (Bq p c)<key (Bq p i))->(kas_place p c f l r).kasWp cmp Q s
 |0,l,r,I,D,J,a,b=>by
  have e:l=r:=by omega
  subst e;exact q l D a b
 |f+1,l,r,I,D,J,a,b=>by
  unfold kas_place;by_cases g:l ≥ r
  .rw[bf g];have e:l=r:=by omega
   subst e;exact q l D a b
  .rw[ck g];refine k.ok _ _ _ (B.lt (i:=c) hc) (B.lt (i:=(l+r) / 2) (by omega)) ?_;by_cases z:key (Bq p c)<key (Bq p ((l+r) / 2))
   .have H:key (p.getD c 0)<key (p.getD ((l+r) / 2) 0):=z;rw[cx H];dsimp only;rw[bf rfl];refine M7 k B hc u q f l ((l+r) / 2) (by omega) (by omega) (by omega) a λi L O=>?_;by_cases e:i=(l+r) / 2
    .rw[e];exact z
    .exact ZO z (u _ _ (by omega) O)
   .have H:¬key (p.getD c 0)<key (p.getD ((l+r) / 2) 0):=z;rw[cN H];dsimp only;rw[ck (by decide)];have y:=M5 k B (i:=c) (j:=(l+r) / 2) hc (by omega) (by omega) z;refine M7 k B hc u q f ((l+r) / 2+1) r (by omega) (by omega) (by omega) (λi L=>?_) b;by_cases e:i=(l+r) / 2
    .rw[e];exact y
    .exact ZO (u _ _ (by omega) (by omega)) y
def Ri (hc:c<p.size)(B:l<=c)(i:Nat):Bq (bubble p c<|c-l) i=if i=l then Bq p c else if l<i/\i<=c then Bq p (i-1)else Bq p i:=by
 rw [Eb,getElem?_bubble hc (c-l)<|(by omega)];have e:c-(c-l)=l:=(by omega)
 rw [e,Eb,Eb,Eb];split
 .rfl
 .split<;>rfl
theorem Rj (k:Ky n key cmp s)(q:∀p,Pm n p->Up key p n->Q p s):∀(f:Nat)(p:Array Nat)(c:Nat),Pm n p->c+f=n->Up key p c->(kas_bin f p c).kasWp cmp Q s
 |0,p,c,B,e,u=>by
  have e:c=n:=by omega
  subst e;exact q p B u
 |f+1,p,c,B,e,u=>by
  unfold kas_bin;rw[Zb];have V:=B.size;refine M7 k B (by omega) u (λl D a b=>?_) c 0 c (Wn _) (Vb _) (Vb _) (λi z=>by omega) (λi Y z2=>by omega);refine Rj k q f _ (c+1) ⟨(yz.mp (bubble_perm _ _ _)).trans B.pm⟩ (by omega) λi j J hj=>?_;rw[Ri (by omega) D,Ri (by omega) D];by_cases H:i=l
  .rw[bf H,ck (by omega),bf (by omega)];exact b _ (by omega) (by omega)
  .rw[ck H];by_cases L:l<i
   .rw[bf ⟨L,by omega⟩,ck (by omega),bf (by omega)];exact u _ _ (by omega) (by omega)
   .rw[ck (by omega)];by_cases I:j=l
    .rw[bf I];exact a i (by omega)
    .rw[ck I];by_cases O:l<j
     .rw[bf ⟨O,by omega⟩];by_cases e5:i=j-1
      .omega
      .exact u _ _ (by omega) (by omega)
     .rw[ck (by omega)];exact u _ _ J (by omega)
def Adi (k:Ky n key cmp s)(D:1<=n)(q:∀p,Pm n p->Up key p n->Q p s):(kas_sort n).kasWp cmp Q s:=by
 unfold kas_sort;rw[Zb];refine Adh k ⟨by simp⟩ D λm p H I B u=>?_;by_cases e:m<n
 .rw[bf e];have em:max m 1=m:=by omega
  rw [em];exact Rj k q (n-m) p m B (by omega) u
 .rw[ck e];have e:m=n:=by omega
  subst e;exact q p B u
end
end L2
namespace L2
open PySem PySem.Spec PyProof.Rows PySem.W
section
variable {prog:UZ}{w:UU}{A:Vf}{E:af->US->Prop}{s:US}
def JG(prog:UZ)(w:UU)(A:Vf)(key:Nat->List Nat)(vs:List af)(s:US):Prop :=
 UY (U1 prog w) A (keyKind' vs.toArray) (λκ s2=>s2=s/\Ky vs.length key (kas_ask prog w A κ vs) s) (λ_ _=>False) s
noncomputable def EI(p:Array Nat)(vs:List af):Array af:=(p.toList.map λi=>vs.getD i VU).toArray
def Rk(vs:List af):EI (VN vs.length).toArray vs=vs.toArray:=by
 unfold EI;congr 1
 refine wJ `B λi D B=>?_;simp[Vt,Vi B]
def Rl (J:s.heap.get? a=some (VQ "list" vs.toArray n))(aD:vs.length<64)(hk:2<=vs.length->∀h',(∀b o,b≠a->s.heap.get? b=some o->h'.get? b=some o)->JG prog w A key vs { s with heap:=h' })(q:∀p,Pm vs.length p->Up key p vs.length->P (.done<|.ret .none) { s with heap:=sortedHeap s.heap a vs (EI p vs) }):UY (U1 prog w) A (Builtin.«list.sort» ⟨[.ref a],[]⟩) P E s:=by
 rw [list_sort_plain];have lt:a<s.heap.objs.size:=Vk J;refine U2<|listItems_at J rfl (U2<|wK J rfl ?_);obtain⟨c,hc⟩:∃c,(s.heap.update a<|V9 λ_=>#[]).get? a=some (VQ "list" #[] c):=⟨_,get?_update_seq J λ_=>#[]⟩;refine U2<|wL hc rfl (U2<|yA (U2<|wM (WJ ?_)));have n1:a≠(s.heap.update a<|V9 λ_=>#[]).objs.size:=by rw[wN];exact Vv lt
 have n2:a≠((s.heap.update a<|V9 λ_=>#[]).push<|VQ "tuple" vs.toArray 0).objs.size:=by rw[size_push',wN];exact Vv<|Zc lt
 have hd:(((s.heap.update a<|V9 λ_=>#[]).push<|VQ "tuple" vs.toArray 0).push<|VQ "list" #[] 0).get? a=some (VQ "list" #[] c):=by rwa[yB _ _ _ n2,yB _ _ _ n1]
 have V:∀b o,b≠a->s.heap.get? b=some o->(((s.heap.update a<|V9 λ_=>#[]).push<|VQ "tuple" vs.toArray 0).push<|VQ "list" #[] 0).get? b=some o:=λb o hb e =>
  Vp _ (Vp _<|by rwa[yC _ _ _ _ hb])
 show UY (U1 prog w) A _ P E { s with heap:=((s.heap.update a<|V9 λ_=>#[]).push<|VQ "tuple" vs.toArray 0).push (VQ "list" #[] 0) };have Y:∀p,Pm vs.length p->Up key p vs.length->P (.done<|.ret .none) { s with heap:=(((s.heap.update a<|V9 λ_=>#[]).push<|VQ "tuple" vs.toArray 0).push<|VQ "list" #[] 0).update a (V9 λ_=>EI p vs) }:=q;have rT:=λh2=>hk h2 _ V;generalize ((s.heap.update a<|V9 λ_=>#[]).push<|VQ "tuple" vs.toArray 0).push (VQ "list" #[] 0)=G at hd Y rT ⊢;dsimp only;have sz:vs.toArray.size=vs.length:=Vs;by_cases two:vs.toArray.size<2
 .rw[bf two,bf two];refine U2<|Vd ?_;rw[StateT.run_pure];refine U2<|Vd ?_;dsimp only;have e0:(arrOf<|SortSt.mk' general' (vs.toArray.zip vs.toArray) #[] 7 none).map (·.2)=EI (VN vs.length).toArray vs:=by
   rw [Rk];show(vs.toArray.zip vs.toArray).map (·.2)=_;rw[Array.map_snd_zip]<;>simp
  refine U2<|wL hd rfl (U2<|wK hd rfl ?_ (hsz2:=by rw[e0,Rk,sz,U0];omega));simp only[bne_self_eq_false,YH,if_false];rw[e0];exact Vd<|Y _ ⟨by simp⟩ λi j h1 h2=>(by omega)
 .rw[ck two,ck two];refine U2<|Ws (rT<|(by omega)) (λκ s2 ⟨e,ky⟩=>?_) λ_ _ f=>f.elim;subst e;refine U2 (Ws (kat_run (ks:=vs) (vs:=vs) (Q:=λL H=>H={ s with heap:=G }/\failedOf L=none/\∃p,Pm vs.length p/\Up key p vs.length/\(arrOf L).map (·.2)=EI p vs) (G:=λp H=>H={ s with heap:=G }/\Pm vs.length p/\Up key p vs.length) rfl (by omega) aD
   (λp L H _ I O ⟨e,D,u⟩=>⟨e,O,p,D,u,kat_snds rfl I⟩) (Adi ky (by omega) λp D u=>⟨rfl,D,u⟩)) (λr H ⟨e,O,p,D,u,I⟩=>?_) λ_ _ f=>f)
  subst e;obtain⟨⟨⟩,L⟩:=r;dsimp only at O I ⊢;have B:(EI p vs).size<=sizeLine:=by unfold EI;rw[Vs,UW,Wm,D.size,U0];omega
  refine U2<|wL hd rfl (U2<|wK hd rfl ?_ (hsz2:=by rw[I];exact Nat.le_succ_of_le B));rw[O,I];simp only[bne_self_eq_false,YH,if_false];exact Vd<|Y p D u
def Adj (I:s.heap.IsList l vs.toArray)(J:vs.length<64)(hk:2<=vs.length->∀h',(∀b o,s.heap.get? b=some o->h'.get? b=some o)->JG prog w A.in1.in1 key vs { s with heap:=h' })(q:∀p,Pm vs.length p->Up key p vs.length->Q (.ref<|s.heap.objs.size+1) { s with heap:=sortedAll s.heap vs (EI p vs) }):UY (U1 prog w) A (call (.builtin "sorted") [.ref l]) Q E s:=by
 apply yD kind_sorted plain_sorted entry_sorted (args_sorted1 _);unfold Builtin.«sorted»;refine U2 (m:=checkCount "sorted" 1 1 _)<|Vd (U2<|collect_list I (U2<|wM ?_ (by rw[U0];omega)) (by rw[U0];omega));have D:((s.heap.push<|VQ "list" #[] 0).update s.heap.objs.size (V9 (·++vs.toArray))).objs.size=s.heap.objs.size+1:=by rw[wN,size_push']
 have H:(((s.heap.push<|VQ "list" #[] 0).update s.heap.objs.size (V9 (·++vs.toArray))).push<|VQ "list" vs.toArray 0).get? (s.heap.objs.size+1)=some (VQ "list" vs.toArray 0):=D▸VO _ rfl;have keep:∀b o,s.heap.get? b=some o->(((s.heap.push<|VQ "list" #[] 0).update s.heap.objs.size (V9 (·++vs.toArray))).push<|VQ "list" vs.toArray 0).get? b=some o:=λb o e =>
  Vp _ (by rw[yC _ _ _ _<|Vv (Vk e)];exact Vp _ e)
 show UY _ _ _ _ _ { s with heap:=((s.heap.push<|VQ "list" #[] 0).update s.heap.objs.size (V9 (·++vs.toArray))).push (VQ "list" vs.toArray 0) };rw[D];refine U2<|WJ (Yr yE ⟨_,H,rfl⟩ yF (Rl (key:=key) H J (λL h' B=>hk L h' λb o e=>B b o (Vv<|Zc (Vk e))<|keep b o e) λp O u=>⟨_,rfl,?_⟩)<|yG _);exact Vd ⟨_,rfl,q p O u⟩
end
end L2
namespace L2
open PySem PySem.Spec PyProof.Rows PySem.W
abbrev Pr:=ar×aU×Int
noncomputable def Bw(t:Pr):V:=.ref t.1
def C7(H:Hp)(ts:List Pr):Prop:=∀t∈ts,H t.1=some (.tup [.str t.2.1,.int t.2.2])
def C7.same (h:C7 H ts)(s:Ah H B):C7 B ts:=λt m=>s _ _<|h t m
section
variable {X:Cx}{π:List (ar×Obj)}{σ:St}{H:Hp}{s:US}
def Adk(I:Ac X π σ H s){t:Pr}(h:H t.1=some (.tup [.str t.2.1,.int t.2.2])):∃o tk B n,s.heap.get? t.1=some o/\o.cls=.type "tuple"/\o.data=.seq #[VT t.2.1 tk,V3 t.2.2 B] n:=by obtain⟨_,its,r,o,e,c,n,d⟩:=(show Bv X.prog X.w H s.heap t.1 _ from I.ah _ _ h);obtain⟨_,_,rfl,⟨tk,rfl⟩,B,rfl⟩:=BB r.two;exact⟨o,tk,B,n,e,c,d⟩
noncomputable def JH(ts:List Pr)(i:Nat):List Nat:=(ts.getD i (0,VD,0)).2.1.cps.toList
def Rm{x y:aU}(h:x.cps.toList=y.cps.toList):x=y:=by cases x with|mk a=>cases y with|mk b=>cases a;cases b;simp_all
def M8{ts:List Pr}{vs:List af}(r:AA (ts.map Bw) vs){i:Nat}(B:i<ts.length):vs.getD i VU=.ref ts[i].1:=by obtain⟨u,e,q⟩:=Au<|r.get (i:=i) (x:=.ref ts[i].1) (by rw[Va,Vi B];rfl);rwa[Vt,e]
def K9 (B:i<ts.length):JH ts i=ts[i].2.1.cps.toList:=by unfold JH;rw[Vt,Vi B];rfl
theorem Rn:∀{ts:List Pr}{vs:List af},AA (ts.map Bw) vs->(∀t∈ts,∃o tk B n,h.get? t.1=some o/\o.cls=.type "tuple"/\o.data=.seq #[VT t.2.1 tk,V3 t.2.2 B] n) ->
  ∃fs:List af,KatTups h vs fs/\fs.length=ts.length/\∀f∈fs,∃z t,f=VT z t
 |[],_,.nil,_=>⟨[],trivial,rfl,λ_ m=>nomatch m⟩
 |t::ts,v::vs,.cons r q,k=>by
  obtain⟨fs,a,b,c⟩:=Rn q λD m=>k D (Vw _ m);obtain⟨o,tk,B,n,I,J,L⟩:=DW (k t VJ);have r:v=.ref t.1:=r;subst r;refine⟨VT t.2.1 tk::fs,KatTups.cons I J L rfl a,by rw[VX,VX,b],λf O=>?_⟩;rcases Vc.mp O with z|z
  .exact ⟨_,_,z⟩
  .exact c f z
def Adl (r:AA (ts.map Bw) vs)(B:∀t∈ts,∃o tk V n,h'.get? t.1=some o/\o.cls=.type "tuple"/\o.data=.seq #[VT t.2.1 tk,V3 t.2.2 V] n)(O:(ts.map (·.2.1)).Nodup)(two:2<=vs.length):JG X.prog X.w A (JH ts) vs { s with heap:=h' }:=by
 have Y:=r.length;rw[UW]at Y;obtain⟨fs,k1,k2,k3⟩:=AG<|Rn r B;refine kat_kind (s:={ s with heap:=h' }) (T:=.type "str") k1 (by omega) (λv m=>?_) `x ⟨rfl,⟨λi j hi hj ne e=>?_,λi j C hi hj hc=>?_⟩⟩
 .obtain ⟨z,t,rfl⟩:=k3 v m;exact Looks.of_pure rfl
 .rw[K9<|(by omega),K9<|(by omega)]at e;have e':=Rm e;have D:i<(ts.map (·.2.1)).length:=by rw[UW];omega
  have I:j<(ts.map (·.2.1)).length:=by rw[UW];omega
  exact ne<|(YS (h₀:=D) (h₁:=I) O).mp (by simpa using e')
 .have J:i<ts.length:=by omega
  have L:j<ts.length:=(by omega)
  show UY _ A (keyLt' (tuples' true) (vs.getD i VU)<|vs.getD j VU) C _ _;rw[M8 r J,M8 r L];obtain⟨o1,a1,b1,n1,x1,x2,x3⟩:=DW<|B ts[i] (Yq J);obtain⟨o2,a2,b2,n2,y1,y2,y3⟩:=DW<|B ts[j] (Yq L);refine kat_lt (s:={ s with heap:=h' }) x1 x3 y1 y3<|kat_cons (eqBool_str ?_);rw[K9 J,K9 L]at hc;by_cases e:ts[i].2.1=ts[j].2.1
  .have D:i<(ts.map (·.2.1)).length:=by rw[UW];omega
   have I:j<(ts.map (·.2.1)).length:=by rw[UW];omega
   have ij:i=j:=(YS (h₀:=D) (h₁:=I) O).mp (by simpa using e);subst ij;rw[beq_self_eq_true];refine kat_yes<|kat_cons (xm ?_);rw[beq_self_eq_true];refine kat_yes<|kat_nil ?_;rw[cN<|List.lt_irrefl _]at hc;simpa using hc
  .rw[beq_eq_false_iff_ne.mpr e];exact kat_no<|oneLt_str hc
def Adm:BX X (.builtin "sorted") (λxs H Q=>∃(p:ar)(ts:List Pr),xs=[.ref p]/\A2 X.K H p (ts.map Bw)/\C7 H ts/\(ts.map (·.2.1)).Nodup/\ts.length<64 /\
  ∀(l:ar)(J:List Pr),H l=none->J.Perm ts->J.Pairwise (λa b=>C6 a.2.1 b.2.1)->Q (.ref l) (upd H l<|.lst (J.map Bw))):=by
 show 2;replace h:=IU h;obtain⟨p,ts,rfl,hq,L,nd,O,q⟩:=h
 obtain⟨u,rfl,rx⟩:=Au<|DA r;cases rx;obtain⟨its,V,pl,hz⟩:=AG<|I.list hq;have el:=V.length;rw[UW]at el;have objs:=λt (m:t∈ts)=>Adk I<|L t m;refine Adj (key:=JH ts) pl.isList (by omega) (λtwo h' keep=>Adl V (λt m=>?_) nd two) λB hp up=>?_
 .obtain ⟨o,a,b,n,e1,e2,e3⟩:=DW<|objs t m;exact⟨o,a,b,n,keep _ _ e1,e2,e3⟩
 .obtain ⟨c,ho⟩:=sortedAll_at s.heap its<|EI B its;have fr:H (s.heap.objs.size+1)=none:=I.ah.fresh<|Wu _;have D:=hp.pm;rw[<-el]at D up;have nK:∀i∈B.toList,i<ts.length:=λi m=>We.mp<|D.mem_iff.mp m;have vv:∀l:List Nat,(∀i∈l,i<ts.length)->AA ((l.map λi=>ts.getD i (0,VD,0)).map Bw) (l.map λi=>its.getD i VU):=λl O=>by
   induction l with
   |nil=>exact .nil
   |cons i l ih =>
    have hi:=O i VJ;refine .cons ?_<|ih λj m=>O j<|Vw _ m;dsimp only;rw[M8 V hi,Vt,Vi hi];rfl
  have perm:(B.toList.map λi=>ts.getD i (0,VD,0)).Perm ts:=by have:=D.map λi=>ts.getD i (0,VD,0);refine this.trans<|yH ?_;refine wJ `B λi h1 Y=>?_;simp[Vt,Vi Y]
  have sz:B.size=ts.length:=by have:=D.length_eq;simpa using this
  refine⟨.ref<|s.heap.objs.size+1,_,I.laid (t':=s.toks) (λb o q=>sortedAll_old q) (Wu _) (show Bv X.prog X.w _ _ _ (.lst<|(B.toList.map λi=>ts.getD i (0,VD,0)).map Bw) from⟨?_,(B.toList.map λi=>its.getD i VU),c,vv _ nK,ho⟩),rfl,q _ _ fr perm ?_⟩
  .rw[UW,UW,Wm,sz,U0];omega
  .rw[ZP,yI];intro i j h1 Y nM;have k1:i<B.size:=by simpa using h1
   have k2:j<B.size:=by simpa using Y
   have:=up i j nM (by omega);rw[Eb,Eb,XO k1,XO k2]at this;simp only[Option.getD_some,JH]at this;have t':(ts.getD B.toList[i] (0,VD,0)).2.1.cps.toList<(ts.getD B.toList[j] (0,VD,0)).2.1.cps.toList:=by simpa using this
   exact List.le_of_lt t'
end
end L2
namespace L2
open PySem PySem.Spec PyProof.Rows
noncomputable def Et(w:UU):Bool:=w.params.followText "set-order"
def La(w:UU)(e:Int×af):Prop:=∃z tk,e=(WI w z,VT z tk)
noncomputable def Fc(e:Int×af):aU:=match e.2 with
 |.str z _=>z
 |_=>VD
def Ec(w:UU)(h:Heap)(a:ar)(zs:List aU):Prop:=∃o es ep t,h.get? a=some o/\o.ExactSet/\o.data=.set es ep t/\zs=es.toList.map Fc/\(∀e∈es.toList,La w e)/\zs.Nodup/\zs.length<3000/\t.fits es.size=true/\t.led=!Et w/\(zs≠[]->t.plain=false)
def Ec.at (x:Ec w h a zs)(k:∀o,h.get? a=some o->h'.get? a=some o):Ec w h' a zs:=by obtain⟨o,es,B,t,e,r⟩:=DW x;exact⟨o,es,B,t,k _ e,r⟩
def Adn (h:∀e∈l,La w e):ElemsOf (BG prog w) l:=λe m=>by
 obtain⟨z,B,rfl⟩:=h e m;exact⟨⟨VI z,HW prog w z B,rfl⟩,rfl⟩
def Ro (h:La w e):Fu (VI z) e.2=true↔Fc e=z:=by
 obtain⟨y,B,rfl⟩:=h;show Zn z (.str y B)=true↔y=z;constructor
 .intro q;obtain⟨t,e⟩:=xl q;injection e
 .rintro rfl;exact Pc y B
def Ado(t:Xk)(n:Nat):(t.orStandIn n).led=t.led:=by unfold yJ yK;split<;>rfl
def Adp{t:Xk}{n:Nat}(h:t.plain=false):(t.orStandIn n).plain=false:=by unfold yJ yK;split<;>first|exact h|rfl
def Adq(t:Xk)(es:Array (Int×af))(h:Int)(x:af):(YI t es h x).2.1.led=t.led:=by
 unfold YI;split
 .exact Ado _ _
 .rfl
def Ads (B:t.plain=false):(YI t es h x).2.1.plain=false:=by
 unfold YI;split
 .exact Adp B
 .rfl
def Rp{t t':Xk}{hs:Array Int}{n:Nat}{o:Array Nat}(e:t.relaid hs n=some (t',o)):t'.led=t.led/\t'.plain=t.plain:=by
 unfold SetTable.relaid SetTable.laid at e;cases q:SetTable.layClean (SetTable.sizeAbove n-1) hs with
 |none=>rw[q]at e;cases e
 |some x=>rw[q]at e;cases e;exact⟨rfl,rfl⟩
def Adt(t:Xk)(es:Array (Int×af))(n:Nat):(XS t es n).2.1.led=t.led:=by
 unfold XS;split
 .rename_i t' o e
  dsimp only;split
  .exact (Rp e).1
  .rfl
 .rfl
def Adu (B:t.plain=false):(XS t es n).2.1.plain=false:=by
 unfold XS;split
 .rename_i t' o e
  dsimp only;split
  .exact (Rp e).2.trans B
  .rfl
 .rfl
section
variable {prog:UZ}{w:UU}{A:Vf}{E:af->US->Prop}{s:US}
def Rq{a:ar}{o:Obj}{es es':Array (Int×af)}{ep:Nat}{t t':Xk}{h:Heap}(B:h.get? a=some o)(hd:o.data=.set es ep t):(h.update a<|ZQ es' t').get? a=some { o with data:=.set es' (ep+1) t' }:=by have e:=vW (ZQ es' t') B (by rw[putSet_of es' t' hd];rfl);rwa [putSet_of es' t' hd]at e
def add_str (hS:Ec w s.heap a zs)(room:zs.length+1<3000)(q:∀h' aq b,V8 a s.heap h'->Ec w h' a aq->(if z∈zs then aq=zs else aq.Perm (zs++[z]))->Q b { s with heap:=h' }):UY (U1 prog w) A (setAddHashed a (.str z tk)<|WI w z) Q E s:=by
 obtain⟨o,es,ep,t,ho,hex,hd,rfl,kE,nd,aD,hf,led,pl⟩:=HV<|id hS;rw[UW,Wm]at aD room;have sb:scanBound=4096:=rfl;have rU:=Adn (prog:=prog) kE;unfold setAddHashed wO;refine WJ<|U2 (wpAny_setState_of ho hd hf ?_);dsimp only;rw[byScan_of (knd:=BG prog w) (x:=VT z tk) rfl (by omega) rU];simp only[↓reduceIte];unfold setAddByScan;refine U2<|U2 (YJ<|U2 (wpAny_setScan_of (knd:=BG prog w) (k:=VI z) (HW prog w z tk) ho hd hf rU ?_));cases rV:List.findIdx? (λe=>(BG prog w).is (VI z) e.2) es.toList with
 |some j =>
  obtain⟨hj,O,_⟩:=List.findIdx?_eq_some_iff_getElem.mp rV;have mem:z∈es.toList.map Fc:=Ve.mpr ⟨_,Yq hj,(Ro<|kE _ (Yq hj)).mp O⟩;dsimp only;exact Vd<|Vd (q s.heap _ _ (Heap.SameBut.refl a s.heap) hS<|by rw[bf mem])
 |none =>
  have rW:z ∉ es.toList.map Fc:=λm=>by
   obtain⟨e,me,rfl⟩:=Au<|Ve.mp m;have:=List.findIdx?_eq_none_iff.mp rV e me;rw[show(BG prog w).is (VI<|Fc e) e.2=true from(Ro<|kE e me).mpr rfl]at this;cases this
  have V:=layNew_perm t es (WI w z)<|.str z tk;have kF:=layNew_fits t es (WI w z)<|.str z tk;have l1:=Adq t es (WI w z)<|.str z tk;have p1:t.plain=false->(YI t es (WI w z)<|.str z tk).2.1.plain=false:=Ads;dsimp only;have ek:Pb w (VI z)=WI w z:=rfl;have ek2:(BG prog w).hash (VI z)=WI w z:=rfl;try rw[ek2]
  generalize YI t es (WI w z) (.str z tk)=L at V kF l1 p1 ⊢;obtain⟨B,t1,wd,aaH⟩:=L;dsimp only at V kF l1 p1 ⊢;rw[Array.toList_push]at V;have aaI:∀e∈B.toList,La w e:=λe m=>by
   rcases Vx.mp (V.mem_iff.mp m)with y|y
   .exact kE e y
   .rw[Vl.mp y];exact⟨z,tk,rfl⟩
  have pz:(B.toList.map Fc).Perm (es.toList.map Fc++[z]):=by have:=V.map Fc;rwa [Vg]at this
  have sz1:B.size=es.size+1:=by rw[<-Wm,V.length_eq,VA,Wm];rfl
  have jq:(B.toList.map Fc).Nodup:=pz.nodup_iff.mpr<|WN.mpr ⟨nd,Vr.mpr ⟨(by simp),WO⟩,λx hx y hy e=>by rw[Vl.mp hy]at e;exact rW<|e▸hx⟩;have Y:∀(h':Heap)(o':Obj)(I:Array (Int×af))(jr:Nat)(D:Xk),V8 a s.heap h'->h'.get? a=some o'->o'.ExactSet->o'.data=.set I jr D->I.toList.Perm B.toList->D.fits I.size=true->D.led=t.led->D.plain=false->∀b,Q b { s with heap:=h' }:=λh' o' I jr D sm e1 e2 e3 J f2 l2 p2 b=>by
   have rX:=J.map Fc;refine q h' (I.toList.map Fc) b sm ⟨o',I,jr,D,e1,e2,e3,rfl,λe m=>aaI e<|J.mem_iff.mp m,rX.nodup_iff.mpr jq,?_,f2,l2.trans led,λ_=>p2⟩ (by rw[ck rW];exact rX.trans pz);rw[UW,J.length_eq,Wm,sz1];omega
  have quiet:∀(b:Bool){s₁:US}{Q':Unit->US->Prop},Q' () s₁->UY (U1 prog w) A (match b with|true=>rule "set.scan.the-table-gave-way" |false=>pure ()) Q' E s₁:=λb s₁ Q' h=>by
   cases b
   .exact Vd h
   .exact YJ h
  refine U2<|quiet aaH ?_;have key:∀D:Xk,D.fits B.size=true->D.led=t.led->D.plain=false->∀(K:Option Bool->Sem Bool),(∀h' b,(∀b,Q b { s with heap:=h' })->UY (U1 prog w) A (K<|some b) Q E { s with heap:=h' }) ->
    UY (U1 prog w) A (do
     storeSet a B D
     if (!wd && D.tooFull)=true then do
       (match (XS D B<|XT B.size).2.2 with|true=>rule "set.scan.the-table-gave-way" |false=>pure ())
       storeSet a (XS D B<|XT B.size).1 (XS D B<|XT B.size).2.1
       pure (some true)
      else pure (some true)) (λr s'=>UY (U1 prog w) A (K r) Q E s') E s:=by
   intro D f2 l2 p2 K hK;refine U2<|yL ho hd ?_ (by rw[U0];omega);have g1:=Rq (es':=B) (t':=D) ho hd;have s1:=ZR s.heap a<|ZQ B D;split
   .have J:=relayAll_perm D B<|XT B.size;have f3:=relayAll_fits D B<|XT B.size;have l3:=Adt D B<|XT B.size;have p3:=Adu (es:=B) (n:=XT B.size) p2;generalize XS D B (XT B.size)=R at J f3 l3 p3 ⊢;obtain⟨I,t3,g2⟩:=R;dsimp only at J f3 l3 p3 ⊢;have sz2:I.size=B.size:=by rw[<-Wm,J.length_eq,Wm]
    refine U2<|quiet g2 (U2<|yL (s:={ s with heap:=s.heap.update a (ZQ B D) }) g1 rfl ?_ (by rw[U0];omega));have g3:=Rq (es':=I) (t':=t3) g1 rfl;exact Vd<|hK _ true (Y _ _ I _ t3 (s1.trans<|ZR _ a _) g3 hex rfl J f3 (l3.trans l2) p3)
   .exact Vd (hK _ true<|Y _ _ B _ D s1 g1 hex rfl (List.Perm.refl _) f2 l2 p2)
  by_cases O:t1.plain=true
  .rw[bf O];apply U2;rw[hashByValue_scannable 8 (x:=VT z tk) rfl];apply Vd;exact key { t1 with plain:=false } (SetTable.fits_plain_off kF) l1 rfl (λr=>match r with|some H=>pure H|none=>wO a (.str z tk) (WI w z) 99999) λh' b hq=>Vd<|hq b
  .have O:t1.plain=false:=by simpa using O
   rw [ck<|by rw[O];decide];refine U2<|Vd ?_;exact key t1 kF l1 O (λr=>match r with|some H=>pure H|none=>wO a (.str z tk) (WI w z) 99999) λh' b hq=>Vd<|hq b
end
section
variable {prog:UZ}{w:UU}{A:Vf}{I:ar}{fp wr:List ar}{G:Array X6->Array X6->Prop}{n:Nat}{P:Nat->af->Prop}{St:Nat->US->Prop}
def Adv (W:WalksS prog w A.in1 I fp wr G n P St)(S:ar)(hS:S ∉ fp)(val:Nat->aU)(hv:∀i v,P i v->∃t,v=VT (val i) t)(aD:n+1<3000):
  ∀(k i:Nat)(s:US)(zs:List aU),n-i=k->i<=n->St i s->Ec w s.heap S zs->(∀z,z∈zs↔∃j,j<i/\val j=z)->zs.length<=i ->
   (∀B H,Moved (S::wr) G s B->Ec w B.heap S H->(∀z,z∈H↔∃j,j<n/\val j=z)->R (.ok<|.ret .none) B)->Wf (U1 prog w) A (.builtin "set.update.loop" ⟨[.ref S,.ref I],[]⟩) R s:=by
 have nw:S ∉ wr:=λh=>hS<|W.sub _ h;have sub:∀b∈wr,b∈S::wr:=λb h=>Vw _ h;intro k;induction k with
 |zero =>
  intro i s zs hk hi st x mem _ q;have e:i=n:=(by omega)
  subst e;apply Ym yM;rw[Zd wR _];show UY _ A.in1 (WT (.ref I) >>= _) _ _ s;refine U2<|W.done s _ _ st λB m=>?_;exact Vd<|q B zs (m.mono sub) (x.at λo e=>m.heap S o nw e) mem
 |succ k ih =>
  intro i s zs hk hi st x mem len q;apply Ym yM;rw[Zd wR _];show UY _ A.in1 (WT (.ref I) >>= _) _ _ s;refine U2<|W.item i s _ _ (by omega) st λv B hP bu m=>?_;obtain⟨t,rfl⟩:=hv i v hP;have x':=x.at λo e=>m.heap S o nw e;show UY _ A.in1 (Wl [VT (val i) t] (setAdd S<|.str (val i) t) >>= _) _ _ B;refine U2<|WJ ?_;unfold setAdd;refine WJ<|U2 ((BG prog w).pyHash (k:=VI<|val i) (HW _ _ _ _) ?_);refine add_str (s:={ B with toks:=B.toks+1 }) x' (by omega) λh' H b Y x2 D=>?_;have L:∀z,z∈H↔∃j,j<i+1/\val j=z:=λz=>by
   have e:z∈H↔z∈zs\/z=val i:=by
    by_cases y:val i∈zs
    .rw[bf y]at D;rw[D];exact⟨.inl,λh=>h.elim id λe=>e▸y⟩
    .rw[ck y]at D;rw[D.mem_iff,Vx,Vl]
   rw [e,mem];constructor
   .rintro (⟨j,h1,J⟩|h)
    .exact ⟨j,(by omega),J⟩
    .exact ⟨i,(by omega),h.symm⟩
   .rintro ⟨j,h1,J⟩;by_cases h:j<i
    .exact .inl ⟨j,h,J⟩
    .have:j=i:=by omega
     subst this;exact .inr J.symm
  have eO:H.length<=i+1:=by
   by_cases y:val i∈zs
   .rw[bf y]at D;rw[D];omega
   .rw[ck y]at D;rw[D.length_eq,VA,Wa];omega
  refine Vd ⟨wU wR _,ih (i+1) _ H (by omega) (by omega) (W.frame _ B _ _ bu (Wu _) λb hb o e=>?_) x2 L eO λbN O m2 x3 V=>?_⟩
  .exact (Y.2 b λh=>hS<|h▸hb).trans e
  .refine q bN O (Moved.trans W.gtrans ((m.mono sub).then_heap (Wu _) λb o hb e=>?_) m2) x3 V;exact(Y.2 b λh=>hb<|h▸VJ).trans e
end
section
variable {prog:UZ}{w:UU}{A:Vf}{E:af->US->Prop}{s:US}
def Adw (a:af)(h:Q₁ (.ref s.heap.objs.size) { s with heap:=s.heap.push { cls:=.type "set",dict:=none,data:=.set #[] 0 (.fresh 0 0<|!Et w) } }):
  Wf (U1 prog w) A (.call (.builtin "set.__new__") ⟨[.type "set",a],[]⟩) (wants Q₁ E) s:=by
 apply wV;show UY _ A.in1 (do wg "set.__new__" ⟨[.type "set",a],[]⟩;again (.builtin "set.__new__" ⟨[.type "set",a],[]⟩)) _ _ s;refine U2<|wpAny_of_eq (F.newCall_set_1 a) (Vd ⟨wU yN _,Ym F.entry_set_new ?_⟩);rw[Zd yN _];unfold Builtin.«set.__new__» Builtin.Frozenset.newClass;have sub:=sub_set_self;obtain⟨B,g,d,D,os⟩:=s;dsimp only;wp_walk
 refine wW<|Vd ?_;dsimp only;simp only[newObj];exact U2<|wA (Vd<|Vd h)
def Rr (e:h.get? a=some { cls:=.type "set",dict:=none,data:=.set #[] 0 (.fresh 0 0<|!Et w) }):Ec w h a [] :=
 ⟨_,#[],0,_,e,⟨rfl,rfl,rfl⟩,rfl,rfl,λe m=>by simp at m,WO,by decide,rfl,rfl,λz=>(z rfl).elim⟩
def Adx (hh:A.handled=none)(hl:s.heap.IsList l items)(Y:Yp items.toList zs)(aD:items.size+1<3000)(q:∀(h':Heap) (tk:Nat) (B:List aU),Ec w h' s.heap.objs.size B->(∀z,z∈B↔z∈zs)->(∀b o,b<s.heap.objs.size->s.heap.get? b=some o->h'.get? b=some o)->Q (.ref s.heap.objs.size) { s with heap:=h',toks:=tk }):
  UY (U1 prog w) A (call (.type "set") [.ref l]) Q E s:=by
 obtain⟨c,tl,adl⟩:=XU.mro;have made:=XU.made;have sub:=XU.sub;refine Zv<|wV ?_;show UY _ _ (callAny (.type "set") _) _ _ _;refine Vd ⟨xZ _<|(by decide +kernel),Ym F.entry_type_call ?_⟩;rw[Around.under_plain (weight_type_call_type "set" [.ref l] []) rfl];have c1:=XU.notType;have c2:=XU.canCreate;have c3:=F.typeCall_set_1<|.ref l;repeat (any_goals (first|assumption|wp_step))
 refine Yg (Adw (.ref l) (E:=E) (Q₁:=λobj s₁=>obj=.ref s.heap.objs.size/\s₁={ s with heap:=s.heap.push { cls:=.type "set",dict:=none,data:=.set #[] 0 (.fresh 0 0<|!Et w) } }) ⟨rfl,rfl⟩) λr s₁ H=>?_;cases r with
 |error e=>exact H
 |ok fl =>
  cases fl with
  |ret obj =>
   obtain⟨rfl,rfl⟩:=H;have atS:(s.heap.push { cls:=.type "set",dict:=none,data:=.set #[] 0 (.fresh 0 0<|!Et w) }).get? s.heap.objs.size=some { cls:=.type "set",dict:=none,data:=.set #[] 0 (.fresh 0 0<|!Et w) }:=VO _ rfl;have ty:Shared.TypeIs { s with heap:=s.heap.push { cls:=.type "set",dict:=none,data:=.set #[] 0 (.fresh 0 0<|!Et w) } } (.ref s.heap.objs.size) "set":=⟨_,atS,rfl⟩;have i1:=XU.init.lookup;have i2:=XU.init.bind<|.ref s.heap.objs.size;repeat (any_goals (first|assumption|wp_step))
   refine Yg (we (R:=wants (λr s₂=>r=.none/\∃h' tk B,s₂={ s with heap:=h',toks:=tk }/\Ec w h' s.heap.objs.size B/\(∀z,z∈B↔z∈zs) /\
     (∀b o,b<s.heap.objs.size->s.heap.get? b=some o->h'.get? b=some o)) E) XU.init.plain F.entry_set_init (check_set_init_1 ty ?_)) λr₂ s₂ I=>?_
   .obtain ⟨⟨adm,J,adn,L⟩,e1,e2,nl,e3⟩:=AG hl;simp only at e2 e3;subst e2 e3;have dI:(s.heap.push { cls:=.type "set",dict:=none,data:=.set #[] 0 (.fresh 0 0<|!Et w) }).get? l=some { cls:=.type "list",dict:=J,data:=.seq items nl,slots:=L }:=Vp _ e1;have s1:=F.sub_list_set;have s2:=F.sub_list_frozenset;have s3:(YQ "list" == YQ "dict")=false:=by decide
    have l1:(s.heap.push { cls:=.type "set",dict:=none,data:=.set #[] 0 (.fresh 0 0<|!Et w) }).IsList l items:=⟨_,dI,rfl,nl,rfl⟩;unfold Builtin.«set.__init__» noKeywords Builtin.Frozenset.updateFrom;generalize O:Yw=PI;wp_walk
    subst O;refine vG l1<|U2 (yO ?_);have lt:l<s.heap.objs.size:=Vk e1;have ns:l≠(s.heap.push { cls:=.type "set",dict:=none,data:=.set #[] 0 (.fresh 0 0<|!Et w) }).objs.size:=by rw[WA];exact Vv<|Zc lt
    have nf:s.heap.objs.size ∉ [(s.heap.push { cls:=.type "set",dict:=none,data:=.set #[] 0 (.fresh 0 0<|!Et w) }).objs.size,l]:=by rw[WA];simp only[Vc,VC,or_false,not_or];exact⟨Vv<|YA _,Xf lt⟩
    have ze:zs.length=items.size:=by have:=(Ho Y).length;rw[UW]at this;simpa using this
    have val:∀(i:Nat)(v:af),items[i]?=some v->∃t,v=VT (zs.getD i VD) t:=λi v hv=>by
     have gU:items.toList[i]?=some v:=by rwa[ZE]
     have il:i<zs.length:=by rw[ze];exact(Array.getElem?_eq_some_iff.mp hv).1
     obtain⟨u,g1,g2⟩:=Au<|(Ho Y).get (i:=i) (x:=.str zs[i]) (by rw[Va,Vi il];rfl);rw[gU]at g1;cases g1;obtain⟨t,rfl⟩:=g2;exact⟨t,by rw[Vt,Vi il];rfl⟩
    have nh:A.in1.in1.in1.handled=none:=by simp[hh]
    refine Adv ((Walks.list nh _ l ns items).toS) s.heap.objs.size nf (λi=>zs.getD i VD) val aD (items.size-0) 0 _ [] (by omega) (Wn _) ⟨⟨_,VO _ rfl,rfl,rfl⟩,l1.push _⟩ (Rr<|Vp _ atS) (λz=>⟨λh=>absurd h VC,λzz=>DV zz λj h _=>absurd h<|Nat.not_lt_zero _⟩) (Vb _) ?_;intro s' B m x mem;obtain⟨h',g',d',bI,mT⟩:=s';have eg:g'=s.gens:=m.gens;have ed:d'=s.drawn:=m.drawn;have eo:mT=s.os:=m.os;subst eg ed eo;show UY _ _ _ _ _ _;apply Vd;show UY _ _ (ret VU) _ _ _;refine Vd ⟨rfl,h',bI,B,rfl,x,λz=>?_,λb o hb e=>?_⟩
    .rw[mem];constructor
     .rintro ⟨j,h1,rfl⟩;have D:j<zs.length:=by omega
      rw [Vt,Vi D];exact Yq D
     .intro h;obtain⟨j,D,rfl⟩:=Xa h;exact⟨j,(by omega),by rw[Vt,Vi D];rfl⟩
    .have b2:b≠(s.heap.push { cls:=.type "set",dict:=none,data:=.set #[] 0 (.fresh 0 0<|!Et w) }).objs.size:=by rw[WA];exact Vv (Zc hb)
     exact m.heap b o (by simp only[Vc,VC,or_false,not_or];exact⟨Vv hb,b2⟩)<|Vp _ (Vp _ e)
   .cases r₂ with
    |error e=>exact I
    |ok V =>
     cases V with
     |ret r =>
      obtain⟨rfl,h',tk,B,rfl,x,mem,hk⟩:=I;repeat (any_goals (first|assumption|wp_step))
      exact q _ _ _ x mem hk
     |_=>exact I.elim
  |_=>exact H.elim
end
noncomputable def DO(w:UU)(a:ar)(zs:List aU):HO:=.ext λh=>∃aq,Ec w h a aq/\∀z,z∈aq↔z∈zs
def M9 (x:Ec w h a B)(m:∀z,z∈B↔z∈zs):Bv P w H h a (DO w a zs):=by refine⟨⟨B,x,m⟩,?_,λJ L ⟨y,D,I⟩ k=>⟨y,D.at k,I⟩⟩;obtain⟨o,_,_,_,e,_⟩:=DW x;exact⟨o,e⟩
theorem Na:∀{a b:List aU},a.Nodup->(∀z∈a,z∈b)->a.length<=b.length
 |[],b,_,_=>Wn _
 |x::a,b,nd,h=>by
  have B:=Vr.mp nd;have hx:=h x VJ;have ih:=Na (b:=b.erase x) B.2 λz D=>(wX (λe:z=x=>B.1 (e▸D))).mpr (h z (Vw _ D));rw[yP hx]at ih;have:0<b.length:=wY hx;rw[VX];omega
def Ady{a b:List aU}(I:a.Nodup)(m:∀z,z∈a↔z∈b):a.length=b.length↔b.Nodup:=by
 constructor
 .intro e;refine Za λh=>?_;have B:∀b:List aU,¬b.Nodup->∃c:List aU,c.length<b.length/\∀z,z∈c↔z∈b:=λb=>by
   induction b with
   |nil=>exact λh=>(h WO).elim
   |cons x b ih =>
    intro h;by_cases hx:x∈b
    .exact ⟨b,(by simp),λz=>⟨Vw _,λD=>(Vc.mp D).elim (λe=>e▸hx) id⟩⟩
    .obtain ⟨c,J,H⟩:=ih λq=>h<|Vr.mpr ⟨hx,q⟩;refine⟨x::c,by simpa using J,λz=>?_⟩;rw[Vc,Vc,H]
  obtain⟨c,J,H⟩:=Au<|B b h;have:=Na I λz D=>(H z).mpr<|(m z).mp D;omega
 .intro hb;exact((List.perm_ext_iff_of_nodup I hb).mpr m).length_eq
section
variable {X:Cx}
def Adz (hw:X.w=w)(hc:X.calm=true):BX X (.type "set") (λxs H Q=>∃(p:ar)(zs:List aU),xs=[.ref p]/\A2 X.K H p (zs.map V.str)/\zs.length<2000/\∀l,H l=none->Q (.ref l) (upd H l<|DO w l zs)):=by
 subst hw;show 2;replace h:=BB h;obtain⟨p,zs,rfl,hq,L,q⟩:=h
 obtain⟨u,rfl,D⟩:=Au<|DA r;cases D;obtain⟨its,B,pl,O⟩:=AG<|I.list hq;have e:=B.length;rw[UW]at e;refine Adx (items:=its.toArray) (zs:=zs) (I.ok.hd hc) pl.isList (by simpa using JF B) (by rw[Vs];omega) λY J aq x m k=>?_;exact⟨.ref s.heap.objs.size,_,I.laid (t':=J) (λb o e=>k b o (Vk e) e) (Vb _)<|M9 x m,rfl,q _ I.fresh⟩
def Rt (hw:X.w=w):BX X (.builtin "len") (λxs H Q=>∃(p:ar)(zs:List aU),xs=[.ref p]/\H p=some (DO w p zs)/\∀n:Nat,(n=zs.length↔zs.Nodup)->Q (.int n) H):=by
 subst hw;show 2;replace h:=BB h;obtain⟨p,zs,rfl,B,q⟩:=h
 obtain⟨u,rfl,D⟩:=Au<|DA r;cases D;obtain⟨⟨J,⟨o,es,ep,t,L,O,V,Y,e5,nd,aD,hf,_⟩,m⟩,_⟩:=(show Bv X.prog X.w H s.heap p (DO X.w p zs)from I.ah p _ B);have sz:J.length=es.size:=by rw[Y,UW,Wm]
 refine call_len_set L O V hf (by omega) ⟨.int es.size,H,I.tok _,⟨_,rfl⟩,q _ ?_⟩;rw[<-sz];exact Ady nd m
end
section
variable {prog:UZ}{w:UU}{A:Vf}{R:Yz->US->Prop}{E:af->US->Prop}{s:US}
def AdA (h:Q (.ref s.heap.objs.size) { s with heap:=s.heap.push { cls:=.type "set",dict:=none,data:=.set #[] 0 (.fresh 0 0<|!Et w) } }):UY (U1 prog w) A (newSet<|.type "set") Q E s:=by unfold newSet setsByText;refine U2<|U2 (wW<|Vd ?_);dsimp only;simp only[newObj];exact U2<|wA (Vd h)
def AdB(B I iter:UX)(D:List UX)(sc:Scope)(pos:Pos)(it H:af)(env:Env):compTurn (.SetComp B [⟨I,iter,D,0⟩] sc pos) 0 it H env=(do
  Wo iter.pos
  match <-WT it with
  |none=>pure (.done .next)
  |some v =>
   Yv I it v
   WS I env v
   let ok <-KQ D env
   if ok then(do let v <-U9 B env;Wo B.pos;let _ <-call (.builtin "set.add") [H,v])
   again (.compLoop (.SetComp B [⟨I,iter,D,0⟩] sc pos) 0 it H env)):=by rfl
def AdC (V:Wf (U1 prog w) A (.compLoop (.SetComp B [⟨J,iter,D,0⟩] sc pos) 0 it H env) R s)(h:UY (U1 prog w) A (Yw it) (λL I=>Wf (U1 prog w) A (.compLoop (.SetComp B [⟨J,iter,D,0⟩] sc pos) 0 L H env) R I) (notedBy (U1 prog w) A env λx I=>R (.error x) I) s):
  Wf (U1 prog w) A (.compStart (.SetComp B [⟨J,iter,D,0⟩] sc pos) 0 it H env) R s:=by
 apply wV;show UY _ _ ((compStart (.SetComp B [⟨J,iter,D,0⟩] sc pos) 0 it H env).onRaise λx=>do ZH x env;Wo theWindowsPlace) _ _ s;apply wpAny_notedAt;unfold compStart;show UY _ _ (ask >>= _) _ _ s;refine U2<|wW (wpAny_ite ?_);split
 .first|exact U2 (Vd<|Vd ⟨rfl,V⟩)|exact Vd ⟨rfl,V⟩
 .first|exact U2 (YJ<|U2 (X8<|U2 (Ws h (λL I O=>Vd ⟨rfl,O⟩) λ_ _ x=>x)))|exact YJ<|U2 (X8<|U2 (Ws h (λL I O=>Vd ⟨rfl,O⟩) λ_ _ x=>x))
def AdD (ty:s.TypeIs (.ref a) "set")(hS:Ec w s.heap a zs)(room:zs.length+1<3000)(q:∀h' B D,V8 a s.heap h'->Ec w h' a B->(if z∈zs then B=zs else B.Perm (zs++[z]))->Q .none { s with heap:=h',toks:=D }):UY (U1 prog w) A (call (.builtin "set.add") [.ref a,.str z tk]) Q E s:=by
 refine Yr F.slot_set_add ty F.entry_set_add ?_<|F.args_set_add_2 _ _;unfold Builtin.«set.add» Builtin.Frozenset.oneOther;simp only[List.isEmpty_nil,bind_assoc];unfold Builtin.Frozenset.addrOf setAdd;refine U2<|Vd ?_;try dsimp only
 refine U2<|Vd ?_;try dsimp only
 refine U2<|WJ (U2<|(BG prog w).pyHash (k:=VI z) (HW _ _ _ _) ?_);refine add_str (s:={ s with toks:=s.toks+1 }) hS room λh' B b H x I=>?_;show UY _ _ (ret VU) _ _ _;exact Vd ⟨_,rfl,q h' B _ H x I⟩
end
section
variable {X:Cx}{N':List aU}{sc:Scope}{aF:List (Option Nat)}{cl:List (aU×ar)}{C:ar}{fp:List ar}{π:List (ar×Obj)}{s₂:US}{H₂:Hp}{σ:St}
def AdE (I:Ac X π σ H s)(O:H D=some (DO X.w D zs))(aD:zs.length<2000)(q:∀h' J,Ac X π σ (upd H D<|DO X.w D (zs++[z])) { s with heap:=h',toks:=J }->Q .none { s with heap:=h',toks:=J }):UY (U1 X.prog X.w) X.A (call (.builtin "set.add") [.ref D,.str z tk]) Q E s:=by
 obtain⟨⟨V,x,m⟩,_⟩:=(show Bv X.prog X.w H s.heap D (DO X.w D zs)from I.ah D _ O);obtain⟨o,es,ep,t,Y,e2,r⟩:=DW<|id x;have ty:s.TypeIs (.ref D) "set":=⟨o,Y,e2.1⟩;have le:V.length<=zs.length:=by obtain⟨_,_,_,_,_,_,_,_,_,nd,_⟩:=HV<|id x;exact Na nd λz B=>(m z).mp B
 refine AdD ty x (by omega) λh' bV J sb x2 B=>?_;have m2:∀y,y∈bV↔y∈zs++[z]:=λy=>by
  rw [Vx,Vl,<-m];by_cases L:z∈V
  .rw[bf L]at B;rw[B];exact⟨.inl,λh=>h.elim id λe=>e▸L⟩
  .rw[ck L]at B;rw[B.mem_iff,Vx,Vl]
 refine q h' J<|I.write (t':=J) (x:=D) (e:=D) (by rw[O];trivial) (.inl rfl) (λb u hb e=>(sb.2 b hb).trans e) ?_ (M9 x2 m2);obtain⟨o2,_,_,_,g,_⟩:=DW x2;exact⟨o2,g⟩
abbrev Ru(w:UU)(te:TE)(D:ar):St->Hp->(Hp->Prop)->Prop:=λσ H N=>te σ H λv H5=>∃zs z,v=.str z/\H5 D=some (DO w D zs)/\zs.length<2000/\N (upd H5 D (DO w D (zs++[z])))
def AdF(w:UU)(aF:List (Option Nat))(wi:TI)(g:TG)(tt:TT)(te:TE):TE:=Ij (λD=>DO w D []) (Ru w te) aF wi g tt
def AdG{B L iter:UX}{J:List UX}{pos:Pos}{O:TI}{g:TG}{V:TT}{Y:TE}{w:UU}(hw:X.w=w)(hc:X.calm=true)(S:Bl sc X.env.scope N' X.N aF)(hi:PI X L iter O)(hg:∀cl C fp π s₂ H₂,PG (Bu X N' sc cl C fp π s₂ H₂) L g)(ht:∀cl C fp π s₂ H₂,F1 (Bu X N' sc cl C fp π s₂ H₂) J V)(he:∀cl C fp π s₂ H₂,PE (Bu X N' sc cl C fp π s₂ H₂) B Y)(hs:∀x,XC iter X.env x=pure x:=by intro _;rfl):PE X (.SetComp B [⟨L,iter,J,0⟩] sc pos) (AdF w aF O g V Y):=by subst hw;refine MI rfl hc S hi hg ht ⟨rfl,λ_ _ _ _=>⟨rfl,rfl⟩,λI q=>AdA<|q _ (I.laid (λb o q=>Vp _ q) (Vb _)<|M9 (Rr<|VO _ rfl) λz=>Iff.rfl),AdC,λcl C fp π s₂ H₂ it D=>⟨_,AdB ..,λ{bU s σ H N} I q=>?_⟩⟩ hs;refine U2<|As (he cl C fp π s₂ H₂ _ s σ H _ I q) λy s8 zz=>AF zz λv H8 I8 r8 zz=>?_;obtain⟨zs,z,e,hy,aD,n8⟩:=BB zz;subst e;obtain⟨tk,rfl⟩:=r8;exact U2<|X8 (U2<|AdE (X:=Bu X N' sc cl C fp π s₂ H₂) I8 hy aD λh9 tk9 I9=>Vd ⟨_,I9,n8⟩)
end
section
variable {prog:UZ}{w:UU}{A:Vf}{E:af->US->Prop}{s:US}
structure Sti(h:Heap)(I a:ar)(o:Obj)(first:af)(i n ep:Nat):Prop where
 it:h.get? I=some { cls:=.type "set_iterator",data:=.fields #[first,.int i 0,.ref a,.int n 0,.int ep 0] }
 st:h.get? a=some o
end
section
variable {prog:UZ}{w:UU}{A:Vf}{E:af->US->Prop}{s:US}
end
def AdH{ts:List aU}{i:Nat}{z:aU}(h:ts[i]?=some z):ts.getD i VD=z:=by rw[Vt,h];rfl
section
variable {prog:UZ}{w:UU}{A:Vf}{E:af->US->Prop}{s:US}
end
section
variable {prog:UZ}{w:UU}{A:Vf}{E:af->US->Prop}{s:US}
end
section
variable {X:Cx}
def Nb (r:Yp vs ts)(B:i<ts.length):∃tk,vs.getD i VU=VT ts[i] tk:=by obtain⟨u,e,tk,rfl⟩:=Au<|(Ho r).get (i:=i) (x:=.str ts[i]) (by rw[Va,Vi B];rfl);exact⟨tk,by rw[Vt,e];rfl⟩
def AdI (r:Yp vs ts)(H:ts.Nodup)(two:2<=vs.length):JG prog w A (λi=>(ts.getD i VD).cps.toList) vs s:=by
 have Y:ts.length=vs.length:=by have:=(Ho r).length;rwa [UW]at this
 have I:keyKind' vs.toArray=pure oneType':=by
  match vs,two,r with
  |v1::v2::rest,_,r=>exact keyKind_strs r
 unfold JG;rw[I];refine Vd ⟨rfl,⟨λi j J L ne e=>?_,λi j C J L hq=>?_⟩⟩
 .have B:i<ts.length:=by omega
  have D:j<ts.length:=(by omega)
  rw [Vt,Vt,Vi B,Vi D]at e;exact ne<|(YS H).mp (Rm e)
 .have B:i<ts.length:=by omega
  have D:j<ts.length:=(by omega)
  obtain⟨t1,O⟩:=Nb r B;obtain⟨t2,V⟩:=Nb r D;show UY _ A (keyLt' oneType' (vs.getD i VU)<|vs.getD j VU) C _ _;rw[O,V];rw[Vt,Vt,Vi B,Vi D]at hq;exact PySem.W.kas_lt_str hq
end
section
variable {K:UT}{D:ar}{z:aU}{g:TG}{tt:TT}{te:TE}{σ0:St}{H:Hp}{Q:Hp->Prop}
def AdJ(Pv:Nat->St->Hp->Prop)(I:Pv 0 σ0 (upd H D<|.lst []))(hs:∀i c σ B,z.cps.toList[i]?=some c->Pv i σ B->g (.str ⟨#[c]⟩) σ B (FI D tt te<|Pv (i+1)))(hd:∀σ B,Pv z.cps.toList.length σ B->Q B):CW (Ie z) g (FI D tt te) σ0 (upd H D<|.lst []) λ_=>Q :=
 QH Pv I hs hd
def AdK (Pv:Nat->St->Hp->Prop)(L:Pv 0 σ0 (upd H D<|DO w D []))(O:∀i σ H,i<=xs.length->Pv i σ H->A2 K H a xs)(hs:∀i x σ B,xs[i]?=some x->Pv i σ B->g x σ B λσ3 Y=>tt σ3 Y λb I=>if b=true then te σ3 I λv J=>∃zs z,v=.str z/\J D=some (DO w D zs)/\zs.length<2000/\Pv (i+1) σ3 (upd J D<|DO w D (zs++[z]))else Pv (i+1) σ3 I)(hd:∀σ B,Pv xs.length σ B->Q B):CW (HZ K a) g (MF tt<|Ru w te D) σ0 (upd H D<|DO w D []) λ_=>Q :=
 Mm Pv L O hs hd
end
section
variable {X:Cx}{CX:Cp}{k:Nat}{f C:ar}{fd:U7}{ps:List aU}{sp:Sp}{x:aU}{p pos:Pos}{e:UX}{es:List UX}{t:TA}{W:St->XK}
def Nc{D a b:UX}{B:TA}(g:Gm X.env.scope "range")(H:X.mg "range"=none)(I:PA X [a,b] B)(hs:U8 [a,b] X.env=[(false,U9 a X.env),(false,U9 b X.env)]:=by rfl)(J:U8 [b] X.env=[(false,U9 b X.env)]:=by rfl):PI X D (.Call (.Name "range" p) [a,b] [] pos) (Py B):=AaF g.gl H I hs J
def Ip (g:Gm X.env.scope x)(B:∃t,X.mg x=some (V3 i t)):PE X (.Name x pos) (tC<|.int i):=by obtain⟨t,h⟩:=B;exact Ea g h ⟨t,rfl⟩
def Iq (g:Gm X.env.scope x)(B:∃t,X.mg x=some (VT z t)):PE X (.Name x pos) (tC<|.str z):=by obtain⟨t,h⟩:=B;exact Ea g h ⟨t,rfl⟩
end
section
variable {X:Cx}
end
end L2
set_option maxHeartbeats 4000000
namespace L2
open PySem PySem.Spec PyProof.Rows Builtin Builtin.Str
theorem Rv:∀{vs:List af}{zs:List aU},Yp vs zs->∃l:List (aU×Tok),strValues l=vs/\l.map (·.1)=zs
 |_,_,.nil=>⟨[],rfl,rfl⟩
 |_,_,.cons x t h=>by
  obtain⟨l,B,D⟩:=Au (Rv h);exact⟨(x,t)::l,by rw[<-B];rfl,by rw[<-D];rfl⟩
section
variable {X:Cx}
def AdL:Qi X "str.join" (λx vs H Q=>∃(B:aU)(p:ar)(zs:List aU),x=.str B/\vs=[.ref p]/\A2 X.K H p (zs.map V.str)/\(zs.map (·.length)).sum+zs.length<=1000000/\B.length<=16/\Q (.str<|Str.join B zs) H):=by
 intro π s σ H x xs v us Q I D r h;replace h:=Gk h;obtain⟨B,p,zs,rfl,rfl,J,hz,hs,q⟩:=h
 obtain⟨t,rfl⟩:=D;obtain⟨u,rfl,L⟩:=Au<|AA.one r;cases(show u=Vo p from L);obtain⟨its,O,pl,_⟩:=AG<|I.list J;have Y:=JF O;obtain⟨l,hl,ht⟩:=Au<|Rv Y;refine SC.join (l:=l) (texts:=zs) (by rw[hl];exact pl.isList) ht (joinOk_of_weight (by omega) hs) λt' k=>?_;refine⟨.str<|Str.join B zs,H,I.tok _,⟨t',?_⟩,q⟩;rw[<-StrLaws.glued_eq_join];rfl
end
end L2
namespace L2
open PySem PySem.Spec PyProof.Rows
section
variable {K:UT}{a D:ar}{xs:List V}{g:TG}{tt:TT}{te:TE}{σ0:St}{H:Hp}{Q:Hp->Prop}
end
section
variable {prog:UZ}{w:UU}{A:Vf}{E:af->US->Prop}{s:US}
def AdM (H:s.heap.IsTupleIter j t i)(I:s.heap.IsTuple t its)(hx:its[i]?=some x)(q:∀g,g.IsTupleIter j t (i+1)->V8 j s.heap g->Q x { s with heap:=g }):UY (U1 prog w) A (ZS<|.ref j) Q E s:=by obtain⟨o,D,J,B⟩:=AG<|id H;obtain⟨u,f1,_,n,L⟩:=AG I;unfold ZS;refine U2<|ZT (name:=U3 "__next__") H.typeIs ZU (Yr ZU H.typeIs yQ ?_<|yR _);show UY _ _ (XW (.ref j) 0 >>= _) _ _ s;refine U2<|Xl D B (x:=.ref t) rfl ?_;show UY _ _ (if (Vo t == VU)=true then _ else _) _ _ s;rw[ck (show ¬((Vo t == VU)=true)from VG)];show UY _ _ (XW (.ref j) 1 >>= _) _ _ s;refine U2<|Xl D B (x:=.int i 0) rfl ?_;show UY _ _ (seqItems? (.ref t) >>= _) _ _ s;refine U2<|yS f1 L ?_;simp only[XI,hx];refine U2<|yT D B `B (Vd ⟨x,rfl,Vd<|q _ ⟨_,vW _ D<|Obj.isFreed_of_fields (yU B _),(Obj.cls_mapFields ..).trans J,?_⟩ (ZR ..)⟩);rw[yU B];simp[Yc]
def AdN (I:A.handled=none)(B:s.heap.IsTupleIter j t i)(J:s.heap.IsTuple t its)(hx:its[i]?=none)(q:∀g e,Heap.ExtBut j s.heap g->(∃o,g.get? e=some o/\o.cls=.type "StopIteration")->E (.ref e) { s with heap:=g }):UY (U1 prog w) A (ZS<|.ref j) Q E s:=by
 obtain⟨o,D,O,H⟩:=AG<|id B;obtain⟨u,f1,_,n,L⟩:=AG J;unfold ZS;refine U2<|ZT (name:=U3 "__next__") B.typeIs ZU (Yr ZU B.typeIs yQ ?_<|yR _);show UY _ _ (XW (.ref j) 0 >>= _) _ _ s;refine U2<|Xl D H (x:=.ref t) rfl ?_;show UY _ _ (if (Vo t == VU)=true then _ else _) _ _ s;rw[ck (show ¬((Vo t == VU)=true)from VG)];show UY _ _ (XW (.ref j) 1 >>= _) _ _ s;refine U2<|Xl D H (x:=.int i 0) rfl ?_;show UY _ _ (seqItems? (.ref t) >>= _) _ _ s;refine U2<|yS f1 L ?_;simp only[XI,hx];refine U2<|YJ (U2<|yT D H `B ?_);show UY _ _ (newExc (.type "StopIteration") [] >>= _) _ _ _;apply U2;simp only[newExc,newTuple];refine U2<|Y8 ?_ (by size_fits);refine U2 (m:=yV _ _)<|wpAny_of_eq (a:=VU) (by first|rfl|(simp only[yV];rfl)) ?_;refine Y8 ?_ (by size_fits);simp only[raiseNew];refine U2<|wpAny_handled ?_;first|rw[show A.in1.handled=none from I]|rw[I]
 refine U2<|Vd (wpAny_throw ?_);exact q _ _ (((ZR ..).extBut.push _).push _) ⟨_,VO _ rfl,rfl⟩
def AdO{e j t:ar}{i:Nat}{its:Array af}{x B:af}{Q:af->US->Prop}(he:WM s.heap e j i B)(hj:s.heap.IsTupleIter j t i)(ht:s.heap.IsTuple t its)(hx:its[i]?=some x)(ne:e≠j)(q:∀g,ZV g e j ((i:Int)+1) x s.heap.objs.size->g.IsTupleIter j t (i+1)->g.get? s.heap.objs.size=some { cls:=.type "tuple",data:=.seq #[.int i s.toks,x] }->g.objs.size=s.heap.objs.size+1 ->
   (∀b o,b≠e->b≠j->s.heap.get? b=some o->g.get? b=some o)->Q (.ref s.heap.objs.size) { s with heap:=g,toks:=s.toks+1 }) :
  UY (U1 prog w) A (Builtin.«enumerate.__next__» ⟨[.ref e],[]⟩) (λfin s'=>∃v,fin=.done (.ret v)/\Q v s') E s:=by
 obtain⟨H,I,J,D,os⟩:=s;show UY _ _ (XW (.ref e) 2 >>= _) _ _ _;refine U2<|Xl he rfl (x:=.ref j) rfl (U2<|AdM hj ht hx λL j1 Y=>?_);replace Y:V8 j H L:=Y
 have E1:WM L e j i B:=(Y.2 e ne).trans he;show UY _ _ (XW (.ref e) 3 >>= _) _ _ ⟨L,I,J,D,os⟩;refine U2<|Xl E1 rfl (x:=Yc i) rfl ?_;show UY _ _ (XW (.ref e) 4 >>= _) _ _ ⟨L,I,J,D,os⟩;refine U2<|Xl E1 rfl (x:=.none) rfl ?_;show UY _ _ (mkInt i >>= _) _ _ ⟨L,I,J,D,os⟩;refine U2<|wpAny_mkInt ?_;show UY _ _ (setField (.ref e) 3 (Yc<|(i:Int)+1) >>= _) _ _ ⟨L,I,J,D+1,os⟩;refine U2<|Ze E1 `B λa2 E2 s2=>?_;replace s2:V8 e L a2:=s2
 replace E2:WM a2 e j ((i:Int)+1) B:=E2
 show UY _ _ (setField (.ref e) 4 .none >>= _) _ _ ⟨a2,I,J,D+1,os⟩;refine U2<|Ze E2 `B λO E3 s3=>?_;replace s3:V8 e a2 O:=s3
 replace E3:WM O e j ((i:Int)+1) B:=E3
 show UY _ _ (newTuple [.int i D,x] >>= _) _ _ ⟨O,I,J,D+1,os⟩;refine U2<|yA ?_;have E4:WM (O.push { cls:=.type "tuple",data:=.seq #[.int i D,x] }) e j ((i:Int)+1) B:=Vp _ E3;generalize e4:O.push { cls:=.type "tuple",data:=.seq #[.int i D,x] }=a4 at E4;have z3:O.objs.size=H.objs.size:=by rw[s3.1,s2.1,Y.1]
 have le:e<H.objs.size:=Vk he;have T4:a4.get? H.objs.size=some { cls:=.type "tuple",data:=.seq #[.int i D,x] }:=by rw[<-e4,<-z3];exact VO _ rfl
 have z4:a4.objs.size=H.objs.size+1:=by rw[<-e4,WA,z3]
 have k4:∀b o,b≠e->b≠j->H.get? b=some o->a4.get? b=some o:=λb o V n2 hb=>by
  rw [<-e4];exact Vp _<|s3.extBut b o V (s2.extBut b o V<|Y.extBut b o n2 hb)
 have j4:a4.IsTupleIter j t (i+1):=by rw[<-e4];obtain⟨o,ho,r⟩:=Au<|(j1.extBut s2.extBut<|Vy ne).extBut s3.extBut (Vy ne);exact⟨o,Vp _ ho,r⟩
 show UY _ _ (yW (.ref e) >>= _) _ _ ⟨a4,I,J,D+1,os⟩;rw[z3];clear e4 E3 s3 E2 s2 E1 Y j1 z3 O a2 L
 apply U2;unfold yW;refine U2<|Xl E4 rfl (x:=.none) rfl (Vd ?_);simp only[if_true];refine U2<|YJ (U2<|Xl E4 rfl (x:=B) rfl (U2<|Ze E4 `B λa5 E5 s5=>?_));replace s5:V8 e a4 a5:=s5
 replace E5:WM a5 e j ((i:Int)+1) x:=E5
 show UY _ _ (yX (.ref e) (.ref H.objs.size) >>= _) _ _ ⟨a5,I,J,D+1,os⟩;apply U2;unfold yX;refine U2<|Ze E5 `B λa6 E6 s6=>?_;replace s6:V8 e a5 a6:=s6
 replace E6:ZV a6 e j ((i:Int)+1) x H.objs.size:=E6
 refine Ze E6 `B λa7 E7 s7=>?_;replace s7:V8 e a6 a7:=s7
 replace E7:ZV a7 e j ((i:Int)+1) x H.objs.size:=E7
 refine U2<|wpAny_letGo (Vd ⟨_,rfl,q a7 E7 ?_ ?_ ?_ ?_⟩)
 .exact ((j4.extBut s5.extBut<|Vy ne).extBut s6.extBut<|Vy ne).extBut s7.extBut (Vy ne)
 .exact s7.extBut _ _ (Xf le) (s6.extBut _ _ (Xf le)<|s5.extBut _ _ (Xf le) T4)
 .rw[s7.1,s6.1,s5.1,z4]
 .exact λb o V n2 hb=>s7.extBut b o V<|s6.extBut b o V (s5.extBut b o V<|k4 b o V n2 hb)
def AdP{e j t:ar}{i:Nat}{its:Array af}{x B:af}{Q:Option af->US->Prop}(D:WM s.heap e j i B)(H:s.heap.IsTupleIter j t i)(I:s.heap.IsTuple t its)(hx:its[i]?=some x)(ne:e≠j)(q:∀g,ZV g e j ((i:Int)+1) x s.heap.objs.size->g.IsTupleIter j t (i+1)->g.get? s.heap.objs.size=some { cls:=.type "tuple",data:=.seq #[.int i s.toks,x] }->g.objs.size=s.heap.objs.size+1 ->
   (∀b o,b≠e->b≠j->s.heap.get? b=some o->g.get? b=some o)->Q (some<|.ref s.heap.objs.size) { s with heap:=g,toks:=s.toks+1 }):UY (U1 prog w) A (WT<|.ref e) Q E s:=by
 have ty:s.TypeIs (.ref e) "enumerate":=⟨_,D,rfl⟩;unfold WT;exact U2<|wpAny_attempt (ZT (name:=U3 "__next__") ty ZW<|Yr ZW ty yY (AdO D H I hx ne λg a b c d k=>Vd<|q g a b c d k) (yZ _))
def AdQ{e j t:ar}{i:Nat}{its:Array af}{B:af}{Q:Option af->US->Prop}(H:A.handled=none)(D:WM s.heap e j i B)(I:s.heap.IsTupleIter j t i)(J:s.heap.IsTuple t its)(hx:its[i]?=none)(q:∀g,Heap.ExtBut j s.heap g->Q none { s with heap:=g }):UY (U1 prog w) A (WT<|.ref e) Q E s:=by have ty:s.TypeIs (.ref e) "enumerate":=⟨_,D,rfl⟩;unfold WT;refine U2<|wpAny_attempt (ZT (name:=U3 "__next__") ty ZW<|Yr ZW ty yY ?_ (yZ _));show UY _ _ (XW (.ref e) 2 >>= _) _ _ _;refine U2<|Xl D rfl (x:=.ref j) rfl (U2<|AdN H I J hx λg y L O=>DV O λo V hc=>?_);exact U2<|wpAny_isInstance (T:="StopIteration") (b:=true) ⟨o,V,hc⟩ isSubtype_stop (Vd<|q _ L)
end
def AdR(t:ar)(its:Array af)(o:Obj)(hc:o.cls=.type "tuple")(n:Nat)(hd:o.data=.seq its n) :
  Meets (Builtin.«enumerate.__new__» ⟨[.type "enumerate",.ref t],[]⟩) (λ_ R s=>s.heap.get? t=some o /\
   R (.ok<|.ret (.ref (s.heap.push { cls:=.type "tuple_iterator",data:=.fields #[.ref t,.int 0 0] }).objs.size))
    { s with heap:=(s.heap.push { cls:=.type "tuple_iterator",data:=.fields #[.ref t,.int 0 0] }).push { cls:=.type "enumerate",data:=.fields #[.none,.bool false,.ref s.heap.objs.size,Yc 0,.none,.none] } }) :=
 .of_wp λprog w A R s h=>by
  obtain⟨c,Y,H,sl⟩:=o;replace hc:c=.type "tuple":=hc
  replace hd:H=.seq its n:=hd
  subst hc hd;obtain⟨I,J,L,O,os⟩:=s;obtain⟨B,h⟩:=h;have V:=sub_enumerate;have D:Heap.IsTuple (Shared.heap ⟨I,J,L,O,os⟩) t its:=⟨_,B,rfl,n,rfl⟩;wp_walk using wZ B
  refine wpAny_stack_any λst=>Vd ?_;split
  .rename_i c _ _ _ _ _
   cases(c == YQ "enumerate")<;>(wp_walk using wZ B,vH D;exact⟨_,rfl,h⟩)
  .wp_walk using wZ B,vH D
   exact⟨_,rfl,h⟩
section
variable {prog:UZ}{w:UU}{A:Vf}{E:af->US->Prop}{s:US}
def AdS (H:s.heap.IsTuple t its)(h:∀g,WM g (s.heap.objs.size+1) s.heap.objs.size 0 .none->g.IsTupleIter s.heap.objs.size t 0->g.objs.size=s.heap.objs.size+2->(∀b o,s.heap.get? b=some o->g.get? b=some o)->Q (.ref<|s.heap.objs.size+1) { s with heap:=g }):
  UY (U1 prog w) A (call (.type "enumerate") [.ref t]) Q E s:=by
 obtain⟨o,I,hc,n,hd⟩:=AG H;refine callType_new F.called_enumerate `x (F.typeCall_enumerate_1 _) (F.newCall_enumerate_1 _) (λobj=>F.args_object_init_2 obj _) F.entry_enumerate_new (AdR t its o hc n hd) ⟨I,?_⟩;have B:(s.heap.push { cls:=.type "tuple_iterator",data:=.fields #[.ref t,.int 0 0] }).objs.size=s.heap.objs.size+1:=WA ..;show _/\_;rw[B];have D:WM ((s.heap.push { cls:=.type "tuple_iterator",data:=.fields #[.ref t,.int 0 0] }).push { cls:=.type "enumerate",data:=.fields #[.none,.bool false,.ref s.heap.objs.size,Yc 0,.none,.none] }) (s.heap.objs.size+1) s.heap.objs.size 0 .none:=by have:=VO (s.heap.push { cls:=.type "tuple_iterator",data:=.fields #[.ref t,.int 0 0] }) (o:={ cls:=.type "enumerate",data:=.fields #[.none,.bool false,.ref s.heap.objs.size,Yc 0,.none,.none] }) rfl;rwa[B]at this
 exact⟨⟨_,D,rfl⟩,h _ D ⟨_,Vp _<|VO _ rfl,rfl,rfl⟩ (by rw[WA,B]) λb o x=>Vp _<|Vp _ x⟩
end
section
variable {X:Cx}{π:List (ar×Obj)}{σ:St}{H:Hp}{s:US}{h':Heap}
noncomputable def Nd(K:UT)(a:ar):It :=
 ⟨λi H=>∃xs x,Bn K H a xs/\xs[i]?=some x,λi H x H'=>∃t y,x=.ref t/\H t=none/\H'=upd H t (.tup [.int i,y])/\∀xs,Bn K H a xs->xs[i]?=some y,λi H=>∃xs,Bn K H a xs/\xs.length<=i⟩
theorem AdT{P:UZ}{w:UU}{K:UT}{L:List UX}{kk:Nat}{pos:Pos}(a e it:ar)(jn:e≠it):Gu P w K (.Tuple L kk pos) (Nd K a) [e,it] e (λi h=>(∃B,WM h e it i B)/\h.IsTupleIter it a i) where
 mem:=by simp
 obj:=λi h st b hb=>by
  obtain⟨⟨B,D⟩,⟨o,V,c,d⟩⟩:=st;rcases Vc.mp hb with z|z
  .subst z;exact⟨_,D,λv z=>by cases z⟩
  .have z:b=it:=by simpa using z
   subst z;exact⟨o,V,λv z=>by rw[d]at z;cases z⟩
 keep:=λi h h' st k=>by
  obtain⟨⟨B,D⟩,hi⟩:=st;exact⟨⟨B,k e (by simp) _ D⟩,hi.at λo q=>k it (by simp) o q⟩
 item:=by
  intro X Y hw hK hc i π s σ H E I O st hg;subst Y hw hK;obtain⟨xs,x,hq,hx⟩:=Bz hg;obtain⟨its,rv,p,hz⟩:=AG (I.tuple hq);obtain⟨u,hu,ru⟩:=Au (rv.get hx);obtain⟨⟨B,D⟩,J⟩:=st;refine AdP D J p (x:=u) (by simpa using hu) jn λh' V nC hT hsz hk=>⟨_,rfl,?_⟩;have I1:Ac X π σ (upd H s.heap.objs.size (.tup [.int i,x])) { s with heap:=h',toks:=s.toks+1 } :=
   I.nB (ch:=[e,it]) (us:=[.int i s.toks,u]) O (λb o hb q=>hk b o (λz=>hb (by simp[z])) (λz=>hb (by simp[z])) q) (Vb _)
    (λb hb=>by
     rcases Vc.mp hb with z|z
     .subst z;exact⟨_,D⟩
     .have z:b=it:=by simpa using z
      subst z;obtain⟨o,q,_⟩:=Au J;exact⟨o,q⟩) hT (.cons ⟨_,rfl⟩ (.cons ru .nil)) Am
  have fr:∀b∈[e,it],(upd H s.heap.objs.size (.tup [.int i,x])) b=none:=λb hb=>by
   have aP:b<s.heap.objs.size:=by
    rcases Vc.mp hb with z|z
    .subst z;exact Vk D
    .have z:b=it:=by simpa using z
     subst z;obtain⟨o,q,_⟩:=Au J;exact Vk q
   rw [Aw (Vv aP)];exact(O b hb).1
  refine yk V λh2 nE bE=>?_;obtain⟨f0,f1,f2,f3,f4,f5⟩:=AU (O e (by simp));have I2:Ac X π σ (upd H s.heap.objs.size (.tup [.int i,x])) { s with heap:=h2,toks:=s.toks+1 }:=I1.turned (t':=s.toks+1) (λb o hb q=>(bE.2 b hb).trans q) (fr e (by simp)) f1 f3 f4 f5;refine⟨.ref s.heap.objs.size,_,I2,rfl,⟨_,x,rfl,I.fresh,rfl,λys hy=>by rw[I.rj hy hq];exact hx⟩,⟨⟨u,nE⟩,?_⟩,fr⟩;exact nC.at λo q=>(bE.2 it jn.symm).trans q
 done:=by intro X Y hw hK hc i π s σ H E I O st hg;subst Y hw hK;obtain⟨xs,hq,hx⟩:=Au hg;obtain⟨its,rv,p,hz⟩:=AG (I.tuple hq);obtain⟨⟨B,D⟩,J⟩:=st;obtain⟨f0,f1,f2,f3,f4,f5⟩:=AU (O it (by simp));have hl:=rv.length;exact AdQ (I.ok.hd hc) D J p (by simp;omega) λh' eb=>⟨rfl,I.turned (t':=s.toks) (λb o hb q=>eb b o hb q) f0 f1 f3 f4 f5⟩
 self:=λ_ _ _ _ _ st h=>by
  obtain⟨⟨B,D⟩,_⟩:=st;exact ZM D h
def AdU(K:UT)(ta:TA):TI:=λσ H R=>ta σ H λvs H1=>∃a xs,vs=[.ref a]/\Bn K H1 a xs/\R (Nd K a) H1
def AdV (g:Gm X.env.scope "enumerate")(hm:X.mg "enumerate"=none)(ha:PA X [x] O)(hs:U8 [x] X.env=[(false,U9 x X.env)]:=by rfl):
  PI X (.Tuple J kk tp) (.Call (.Name "enumerate" p) [x] [] pos) (AdU X.K O):=by
 intro π s σ H R I h;refine Call_<|Gn I g.gl hm QS (Yx (As (ha pos π s σ H _ I h) λus B zz=>AF zz λvs V D r1 q1=>?_) hs rfl);obtain⟨a,xs,e,hq,q⟩:=BB q1;subst e;cases r1 with
 |cons r rr =>
  cases rr;cases r;obtain⟨its,rv,pl,hz⟩:=AG<|D.tuple hq;refine AdS pl λh' Y L hsz hk=>?_;apply ZM Y;have nH:V (B.heap.objs.size+1)=none:=D.ah.fresh<|Wu _;refine⟨B.heap.objs.size+1,[B.heap.objs.size+1,B.heap.objs.size],_,_,V,rfl,D.kept (t':=B.toks) hk,AdT a _ _<|wB _,⟨⟨_,Y⟩,L⟩,λb hb=>?_,q⟩;rcases Vc.mp hb with z|z
  .subst z;exact D.eF (Wu _) nH
  .have z:b=B.heap.objs.size:=by simpa using z
   subst z;exact D.eF (Vb _) D.fresh
end
section
variable {K:UT}{a D:ar}{xs:List V}{g:TG}{tt:TT}{tk tv:TE}{σ0:St}{H:Hp}{Q:Hp->Prop}
def AdW(Pv:Nat->St->Hp->Prop)(L:Pv 0 σ0 (upd H D<|.dK []))(I:∀i σ H,i<=xs.length->Pv i σ H->Bn K H a xs)(hs:∀i x t σ B,xs[i]?=some x->Pv i σ B->B t=none->g (.ref t) σ (upd B t<|.tup [.int i,x]) (K7 D tt tk tv<|Pv (i+1)))(hd:∀σ B,Pv xs.length σ B->Q B):CW (Nd K a) g (K7 D tt tk tv) σ0 (upd H D<|.dK []) λ_=>Q :=
 G2 xs.length Pv L (λi σ H J p=>have q:=I i σ H (XA J) p;⟨⟨xs,xs[i],q,by simp[J]⟩,λx B O=>FV O λt y e Y e2 hy=>by subst e e2;exact hs i y t σ H (hy xs q) p Y⟩) λσ H p=>⟨⟨xs,I _ σ H (Vb _) p,Vb _⟩,hd σ H p⟩
def AdX(Pv:Nat->St->Hp->Prop)(I:Pv 0 σ0 (upd H D<|.dK []))(J:∀i σ H,i<=xs.length->Pv i σ H->Bn K H a xs)(hs:∀i x σ B,xs[i]?=some x->Pv i σ B->g x σ B (K7 D tt tk tv<|Pv (i+1)))(hd:∀σ B,Pv xs.length σ B->Q B):CW (Jf K a) g (K7 D tt tk tv) σ0 (upd H D<|.dK []) λ_=>Q :=
 Pz Pv I J hs hd
end
def Rw(cs:List ar)(m:aU)(sp:Sp)(E:XK)(ta:TE)(t:TA):TE:=λσ H Q=>ta σ H λx H1=>∃a C dx fs,x=.ref a/\C∈cs/\H1 a=some (.ins C dx fs)/\fs.lookup m=none/\t σ H1 λvs H2=>sp (x::vs) H2 Q E
section
variable {X:Cx}{CX:Cp}{k:Nat}{cs:List ar}{ps:List aU}{sp:Sp}{E:XK}{m:aU}{pos apos:Pos}{e o:UX}{es:List UX}{ta:TE}{t:TA}
def Nf{pl:Sem Bool}(D:∀C∈cs,AR X.prog X.w X.K X.mg X.base CX k C m ps sp)(c:∀C∈cs,CU X.K C)(Y:PE X o ta)(hr:BE k X.A)(hx:DB CX X E)(ha:PA X (e::es) t)(aG:U8 (e::es) X.env=(false,U9 e X.env)::U8 es X.env:=by rfl)(aN:(Vu pos<|U8 es X.env).any (·.1)=false:=by rfl)(ht:U9 (.Call (.Attribute o m apos) (e::es) [] pos) X.env=(U9 o X.env >>= λJ=>Wo apos.atName >>= λ_=>Wl [J] (Xg J m pl) >>= λff=>XE pos ff.1 ff.2 (Vu pos<|U8 (e::es) X.env)<|WV pos (WW [] X.env)):=by rfl) :
  PE X (.Call (.Attribute o m apos) (e::es) [] pos) (Rw cs m sp E ta t):=by
 show 0;refine YC (pl:=pl) (As (Y π s σ H _ I h) λu s1 B=>AF B λx H1 L rx zz=>?_) ht;obtain⟨a,C,dx,fs,ex,mc,ea,l,q⟩:=DW zz;subst ex;cases rx;obtain⟨f,fd,O,hb,F⟩:=BB<|D C mc;refine Jm L ea (c C mc) O l<|YB (first:=[.ref a]) (h₀:=X.base) I.ok.mod.d7 O.kp (As (ha pos π s1 σ H1 _ L q) λus s2 B=>AF B λvs H2 V r q2=>⟨V.aH,?_⟩) aG aN;exact Ia (us:=.ref a::us) (vs:=.ref a::vs) (dvs:=[]) F hr hb .nil hx V (.cons rfl r)<|by simpa using q2
def Ng (D:∀C∈cs,AR X.prog X.w X.K X.mg X.base CX k C m ps sp)(c:∀C∈cs,CU X.K C)(O:PE X o ta)(V:BE k X.A)(hx:DB CX X E)(Y:U9 (.Call (.Attribute o m apos) [] [] pos) X.env=(U9 o X.env >>= λJ=>Wo apos.atName >>= λ_=>Wl [J] (Xg J m pl) >>= λff=>XE pos ff.1 ff.2 (Vu pos<|U8 [] X.env)<|WV pos (WW [] X.env)):=by rfl):
  PE X (.Call (.Attribute o m apos) [] [] pos) (Rw cs m sp E ta BA):=by
 show 0;refine YC (pl:=pl) (As (O π s σ H _ I h) λu s1 zz=>AF zz λx H1 B rx zz=>?_) Y;obtain⟨a,C,dx,fs,ex,mc,ea,l,q⟩:=DW zz;subst ex;cases rx;obtain⟨f,fd,L,hb,F⟩:=BB<|D C mc;exact Jm B ea (c C mc) L l<|xJ (first:=[.ref a]) B.aH L.kp (Ia (us:=[.ref a]) (vs:=[.ref a]) (dvs:=[]) F V hb .nil hx B (.cons rfl .nil) q)
end
def Lb(P:Y1):List Y3->List (aU×V)->Prop
 |[],[]=>True
 |e::r,p::kvs=>(∃t,e.key=.str p.1 t)/\e.hash=PyData.keyHash P p.1/\AH p.2 e.val/\Lb P r kvs
 |_,_=>False
theorem Rx:∀{es:List Y3}{kvs:List (aU×V)},Lb w.params es kvs->∃vs:List (Ay×af),KV (kvs.map λp=>(VI p.1,p.2)) vs/\Pairs (BG P w) es vs/\∀e∈es,∃k,(BG P w).is k e.key=true/\e.hash=(BG P w).hash k
 |[],[],_=>⟨[],.nil,.nil,λe m=>absurd m (by simp)⟩
 |[],_::_,h=>h.elim
 |_::_,[],h=>h.elim
 |e::es,p::kvs,h=>by
  obtain⟨⟨t,D⟩,H,I,J⟩:=AU h;obtain⟨vs,r,q,m⟩:=AG (Rx (P:=P) J);have B:(BG P w).is (.inr p.1) e.key=true:=by rw[D];exact HW P w p.1 t
  refine⟨(.inr p.1,e.val)::vs,.cons ⟨rfl,I⟩ r,.cons B rfl q,λx hx=>?_⟩;rcases Vc.mp hx with z|z
  .exact ⟨.inr p.1,by rw[z];exact B,by rw[z];exact H⟩
  .exact m x z
def AdY{P:UZ}{w:UU}{K:UT}{a:ar}{es:Array Y3}{n:Nat}{kvs:List (aU×V)}(lo:(a == Wj)=false)(l:K.lookup a=some ⟨.type "dict",none,.dict es n,#[]⟩)(h:Lb w.params es.toList kvs)(B:(kvs.map (·.1)).Nodup)(sz:kvs.length<=1000) :
  K5 P w K a (kvs.map λp=>(VI p.1,p.2)):=by
 obtain⟨vs,r,q,m⟩:=AG<|Rx (P:=P) h;refine⟨lo,by rw[UW,U0];omega,_,vs,n,l,r,λI D=>⟨_,es,D,⟨rfl,rfl,rfl⟩,rfl,λe H=>m e<|xw.mpr H,q,?_⟩⟩;rw[<-r.keys,Vn];have:(kvs.map ((·.1)∘λp:aU×V=>((VI p.1:Ay),p.2)))=(kvs.map (·.1)).map (VI:aU->Ay):=by rw[Vn];rfl
 rw [this];exact ZP.mpr<|B.imp λh z=>h<|Xn z
theorem Nh:∀{xs:List V}{us:List af},us.length=xs.length->(∀(j:Nat)(v:af)(x:V),us[j]?=some v->xs[j]?=some x->AH x v)->AA xs us
 |[],[],_,_=>.nil
 |[],_::_,h,_=>by simp at h
 |_::_,[],h,_=>by simp at h
 |x::xs,u::us,h,f=>.cons (f 0 u x rfl rfl) (Nh (by simpa using h) λj v y hv hy=>f (j+1) v y (by simpa using hv) (by simpa using hy))
section
variable {X:Cx}
def AdZ(hc:X.calm=true):BX X (.type "list") (λxs H Q=>∃p kvs,xs=[.ref p]/\Dq X.prog X.w X.K H p kvs/\∀l,H l=none->Q (.ref l) (upd H l<|.lst (kvs.map λkv=>kV kv.1))):=by
 show 2;replace h:=BB h;obtain⟨p,kvs,rfl,O,q⟩:=h
 obtain⟨u,rfl,V⟩:=Au<|DA r;cases V;obtain⟨Y,lo,vs,B,dd⟩:=AU<|K6 I O;obtain⟨o,es,D,r⟩:=dd;have da:s.heap.DictAt (BG X.prog X.w) p vs D:=⟨o,es,r⟩;have hl:=B.length;refine PySem.W.kdl_call (za (kvs:=vs) (ep:=D) lo) (I.ok.hd hc) da (by omega) λh' tk J c hk hs ha=>?_;refine⟨.ref s.heap.objs.size,_,I.laid (t':=tk) hk (Vb _) (show Bv X.prog X.w _ h' _ (.lst<|kvs.map λkv=>kV kv.1) from⟨?_,J.toList,c,?_,by simpa using hs⟩),rfl,q _ I.fresh⟩
 .rwa[UW]
 .obtain ⟨a1,a2⟩:=ha;refine Nh (by rw[Wm,UW,a1,hl]) λj v x hv hx=>?_;obtain⟨k,y,e,hk⟩:=Bz<|a2 j v (by simpa using hv);rw[Va]at hx;obtain⟨kv,e2,rfl⟩:=Au<|VH.mp hx;have ke:=B.keys;have L:(kvs.map (·.1))[j]?=(vs.map (·.1))[j]?:=by rw[ke]
  rw [Va,Va,e,e2]at L;have e4:kv.1=k:=Vq L;show AH (kV kv.1) v;rw[e4];exact Q8 hk
end
section
variable {X:Cx}
def Ad0:V->List V->Hp->VK->Prop:=λx vs H Q=>∃p xs y j,x=.ref p/\vs=[y]/\H p=some (.lst xs)/\D1 y=true/\xs.all D1=true /\
 (∃z,xs[j]?=some z/\D3 z y=true)/\(∀m z,m<j->xs[m]?=some z->D3 z y=false)/\Q (.int (j:Nat)) H
def Ad1:Jo X "list.index" Ad0:=by
 intro π s σ H x vs v us Q I rx rv h;replace h:=HV h;obtain⟨p,xs,y,j,rfl,rfl,hq,fy,fs,⟨z,V,ez⟩,mY,q⟩:=h
 cases rx;obtain⟨u,rfl,ru⟩:=Au rv.one;obtain⟨hsz,its,n,r,hl,e⟩:=I.dH hq;obtain⟨w,hw,aY⟩:=Au<|r.get V;obtain⟨Y,B⟩:=Vz.mp hw;have hs:sizeLine=16777216:=U0;refine XN F.slot_list_index ⟨_,e,rfl⟩ F.entry_list_index (F.args_list_index_2 _ _) (SeqAt.list_indexAt p its.toArray n none #[] u (DK y) j (by simpa using Y) (by omega) ?_ ?_) ⟨e,λa D=>Ib ru fy r fs a<|by simpa using D,?_⟩
 .have fz:D1 z=true:=WL.mp fs z<|Vh V;rwa[show its.toArray[j]'(by simpa using Y)=w by simpa using B,KD aY fz]
 .intro m hm J;have cF:m<its.length:=by simpa using hm
  have L:m<xs.length:=by rwa[r.length]
  obtain⟨a,D,ra⟩:=Au<|r.get (Vi L);have fa:D1 xs[m]=true:=WL.mp fs _<|Yq L;obtain⟨_,O⟩:=Vz.mp D;rw[show its.toArray[m]'hm=a by simpa using O,KD ra fa];exact mY m _ J<|Vi L
 .exact ⟨.int _,H,I.tok _,(⟨_,rfl⟩),q⟩
def Ad2(K:UT)(ta tb:TE):TE:=λσ H Q=>ta σ H λx H1=>∃c,Mq K x H1 c/\if c=true then Q x H1 else tb σ H1 Q
def Ad3 (ha:PE X a J)(hb:PE X (.BoolOp .Or (b::rest) pos) L):PE X (.BoolOp .Or (a::b::rest) pos) (Ad2 X.K J L):=by
 show 0;refine BoolOp_or<|As (ha π s σ H _ I h) λv s1 zz=>AF zz λx O I1 V B=>?_;replace B:=Au B;obtain⟨c,hc,B⟩:=B
 refine As (PX π s1 σ O x v (λk D=>k=c/\D=O) I1 V ⟨c,hc,rfl,rfl⟩) λk s2 e=>?_;replace e:=AG e;obtain⟨D,Y,rfl,rfl⟩:=e
 cases k with
 |false=>exact hb π s2 σ D Q Y B
 |true=>exact⟨x,D,Y,V,B⟩
end
def Ad4:Kw X .Add (λx y H Q=>∃i j,x=.str i/\y=.str j/\i.length+j.length<=sizeLine/\Q (.str<|i++j) H):=by rintro π s σ H x y u v Q I D J ⟨i,j,rfl,rfl,L,q⟩;obtain⟨t,rfl⟩:=(show ∃t,u=VT i t from D);obtain⟨B,rfl⟩:=(show ∃B,v=VT j B from J);exact PyProof.Rows.iadd_str (λB O=>⟨.str<|i++j,H,I.tok _,(⟨_,rfl⟩),q⟩) L
section
variable {prog:UZ}{w:UU}{A:Vf}{E:af->US->Prop}{s:US}
def Ad5 (H:A.handled=none)(lo:(a == Wj)=false)(x:s.heap.DictAt (BG prog w) a kvs ep)(I:kvs.length<=sizeLine)(q:∀h' tk vs,(∀b o,s.heap.get? b=some o->h'.get? b=some o)->s.heap.objs.size<h'.objs.size->vs.length=kvs.length->(∀(j:Nat) (v:af),vs[j]?=some v->∃k x,kvs[j]?=some (k,x)/\(BG prog w).is k v=true)->Q vs { s with heap:=h',toks:=tk }):UY (U1 prog w) A (collect<|.ref a) Q E s:=by have lt:a<s.heap.objs.size:=x.lt_size;unfold collect;refine U2<|yO (Ym F.entry_proto_collect ?_);rw[Zd F.plain_proto_collect _];show UY _ A.in1 (newList [] >>= λl=>again<|.builtin "list.__iadd__" ⟨[l,.ref a],[]⟩) _ _ s;refine U2<|Y8 (Vd ⟨wU zb _,Ym F.entry_list_iadd ?_⟩);rw[Zd zb _];show UY _ A.in1 (Builtin.List.listExtendWith (.ref s.heap.objs.size) (.ref a)<|.ref s.heap.objs.size) _ _ _;have atS:(s.heap.push { cls:=.type "list",data:=.seq ([]:List af).toArray }).get? s.heap.objs.size=some { cls:=.type "list",data:=.seq #[] }:=VO _ rfl;refine PySem.W.kdl_extend (R:=λr D=>match r with|.ok (.ret v)=>UY (U1 prog w) A (match v with|.ref a=>(do let o <-load a;(match o.data with|.seq xs _=>pure xs.toList|_=>unsupported "internal:collect"))|_=>unsupported "internal:collect") Q E D|.ok _=>False|.error e=>E e D) (A:=A) (s:={ s with heap:=s.heap.push { cls:=.type "list",data:=.seq ([]:List af).toArray } }) (za (kvs:=kvs) (ep:=ep) lo) H (x.push _) s.heap.objs.size (Xf lt) (Xf lt) _ _ atS (λh' tk B c hk hS J=>?_) I;show UY _ A (load s.heap.objs.size >>= _) _ _ _;refine U2<|wpAny_load hS (Vd ?_);obtain⟨L,O⟩:=J;exact q h' tk B.toList (λb o e=>hk b o (Vv<|Vk e)<|Vp _ e) (Vk hS) (by rwa[Wm]) λj v e=>O j v<|by rwa[<-ZE]
end
section
variable {X:Cx}
def Ad6(hc:X.calm=true):BX X (.builtin "sorted") (λxs H Q=>∃(p:ar)(kvs:List (Ay×V))(zs:List aU),xs=[.ref p]/\Dq X.prog X.w X.K H p kvs/\kvs.map (·.1)=zs.map VI/\zs.Nodup/\zs.length<64/\∀(l:ar)(ts:List aU),H l=none->ts.Perm zs->ts.Pairwise C6->Q (.ref l) (upd H l<|.lst (ts.map V.str))):=by
 show 2;replace h:=Gk h;obtain⟨p,kvs,zs,rfl,hp,ek,nd,aD,q⟩:=h
 obtain⟨u,rfl,rx⟩:=Au<|DA r;cases rx;obtain⟨hz,lo,kv,J,o,es,ep,dd⟩:=AU<|K6 I hp;have Y:=J.length;have rY:kvs.length=zs.length:=by have:=congrArg Yi ek;rwa [UW,UW]at this
 apply yD kind_sorted plain_sorted entry_sorted (args_sorted1 _);unfold Builtin.«sorted»;refine U2 (m:=checkCount "sorted" 1 1 _)<|Vd (U2<|Ad5 (kvs:=kv) (ep:=ep) (by simpa using I.ok.hd hc) lo ⟨o,es,dd⟩ (by omega) λD tk vs k hsz lv iv=>?_);have rv:AA (zs.map V.str) vs:=by
  refine Nh (by rw[UW,lv];omega) λj v y hv hy=>?_;obtain⟨kk,x,e,hk⟩:=Bz<|iv j v hv;rw[Va]at hy;obtain⟨z,e2,rfl⟩:=Au<|VH.mp hy;have e3:(kvs.map (·.1))[j]?=(kv.map (·.1))[j]?:=by rw[J.keys]
  rw [ek,Va,Va,e,e2]at e3;have e4:(VI z:Ay)=kk:=Vq e3;have:=Q8 hk;rwa[<-e4]at this
 have r:=JF rv;have el:zs.length=vs.length:=(by omega)
 refine U2<|wM ?_ (by rw[U0];omega);have g9:(D.push<|VQ "list" vs.toArray 0).get? D.objs.size=some (VQ "list" vs.toArray 0):=VO _ rfl;refine U2<|WJ (Yr yE ⟨_,g9,rfl⟩ yF (Rl (key:=λi=>(zs.getD i VD).cps.toList) g9 (by omega) (λtwo h' L=>AdI r nd two) λB O up=>⟨_,rfl,?_⟩)<|yG _);refine Vd ⟨_,rfl,?_⟩;have I1:Ac X π σ H { s with heap:=D,toks:=tk }:=I.kept (t':=tk) k;obtain⟨c,ho⟩:=sortedHeap_at (out:=EI B vs) g9;have fr:H D.objs.size=none:=I1.fresh;have sz:B.size=zs.length:=by rw[O.size,el]
 have nK:∀i∈B.toList,i<zs.length:=λi hm=>by have:=We.mp<|O.pm.mem_iff.mp hm;omega
 have sa:∀l:List Nat,(∀i∈l,i<zs.length)->Yp (l.map λi=>vs.getD i VU) (l.map λi=>zs.getD i VD):=λl Y=>by
  induction l with
  |nil=>exact .nil
  |cons i l ih =>
   have hi:=Y i VJ;obtain⟨t1,e1⟩:=Nb r hi;have e2:zs.getD i VD=zs[i]:=AdH<|Vi hi;rw[VP,VP,e1,e2];exact .cons _ _<|ih λj hm=>Y j<|Vw _ hm
 have perm:(B.toList.map λi=>zs.getD i VD).Perm zs:=by have b7:=O.pm;rw[<-el]at b7;refine(b7.map λi=>zs.getD i VD).trans (yH ?_);refine wJ `B λi g1 g2=>?_;simp[Vt,Vi g2]
 have L:∀b o,D.get? b=some o->(sortedHeap (D.push<|VQ "list" vs.toArray 0) D.objs.size vs<|EI B vs).get? b=some o:=λb o e=>by
  have bl:=Vk e;rw[sortedHeap_old (Vv bl)<|by rw[WA];exact Zc bl];exact Vp _ e
 refine⟨.ref D.objs.size,_,I1.laid (t':=tk) L (Vb _) (show Bv X.prog X.w _ _ _ (.lst<|(B.toList.map λi=>zs.getD i VD).map V.str) from⟨?_,(B.toList.map λi=>vs.getD i VU),c,Ho<|sa _ nK,ho⟩),rfl,q _ _ fr perm ?_⟩
 .rw[UW,UW,Wm,sz,U0];omega
 .rw[ZP,yI];intro i j g1 g2 nM;have k1:i<B.size:=by simpa using g1
  have k2:j<B.size:=by simpa using g2
  have u:=up i j nM (by rwa[<-O.size]);rw[Eb,Eb,XO k1,XO k2]at u;have u':(zs.getD B.toList[i] VD).cps.toList<(zs.getD B.toList[j] VD).cps.toList:=by simpa using u
  exact List.le_of_lt u'
end
section
variable {X:Cx}
def Ac.aaO{π:List (ar×Obj)}{σ:St}{H:Hp}{s:US}{h':Heap}{t':Nat}{ch:List ar}(I:Ac X π σ H s)(B:∀b∈ch,ED X π H b)(k:∀b o,b ∉ ch->s.heap.get? b=some o->h'.get? b=some o):Ac X π σ H { s with heap:=h',toks:=t' }:=by
 have D:∀b u,H b=some u->b ∉ ch:=λb u e z=>by rw[(B b z).1]at e;cases e
 refine I.step (g':=s.gens) (d':=s.drawn) (ch:=ch) (λb hb=>⟨(B b hb).2.2.2.1,(B b hb).2.1,(B b hb).2.2.2.2.1,(B b hb).2.2.2.2.2⟩) (λb o _ _ hc e _=>k b o hc e) (λb o _ _ hc e _=>⟨o.slots,k b o hc e⟩) (λ_ _ _ _ n=>n) (λb o hc e=>⟨o,k b o hc e⟩) (λ_ _ e=>e) (λ_ _ _ e=>e) (λb V e=>⟨#[],by rw[e];simp⟩) (λm J=>?_) (λb u e=>?_) I.bare
 .obtain ⟨o,es,L,O,r⟩:=Dg J;exact⟨o,es,L,k _ o (λz=>(B _ z).2.1 rfl) O,r⟩
 .refine (I.ah b u e).dB (λc v hc q=>k c v ?_ q) (λc q=>q) λc ys q=>q;rcases hc with z|z
  .rw[z];exact D b u e
  .exact D c _ z
def Ad7:VS "zip"=some (.type "zip"):=(by decide +kernel)
noncomputable def Ni(K:UT)(a b:ar):It :=
 ⟨λi H=>∃xs ys x y,A2 K H a xs/\A2 K H b ys/\xs[i]?=some x/\ys[i]?=some y,λi H x H'=>∃t u v,x=.ref t/\H t=none/\H'=upd H t (.tup [u,v])/\∀xs ys,A2 K H a xs->A2 K H b ys->xs[i]?=some u/\ys[i]?=some v,λi H=>∃xs ys,A2 K H a xs/\A2 K H b ys/\(xs.length<=i\/ys.length<=i)⟩
def DP{h:Heap}{a b:ar}{o u:Obj}(e:h.get? a=some o)(f:h.get? b=some u)(n:o.cls≠u.cls):a≠b:=λc=>by
 subst c;rw[e]at f;cases f;exact n rfl
def Ry (n1:J≠L)(n2:i≠j)(B:IsZip h z J L f0)(Y:IsPair h J (.ref i) (.ref j))(D:IsPair h L c d)(h3:h.IsListIter i l k)(h4:h.IsListIter j m k')(h5:h.IsList l xs)(h6:h.IsList m ys):ZipApart z J L i j l m:=by obtain⟨o3,H,b3,_⟩:=AG h3;obtain⟨o4,I,b4,_⟩:=AG h4;obtain⟨o5,O,b5,_⟩:=AG h5;obtain⟨o6,V,b6,_⟩:=AG h6;refine⟨DP Y B ?_,DP D B ?_,DP H B ?_,DP I B ?_,n1,DP Y H ?_,DP Y I ?_,DP D H ?_,DP D I ?_,n2,DP O B ?_,DP O D ?_,DP O H ?_,DP O I ?_,DP V B ?_,DP V D ?_,DP V H ?_,DP V I ?_⟩<;>simp[*]
theorem Ad8{P:UZ}{w:UU}{K:UT}{elts:List UX}{kk:Nat}{pos:Pos}(a b z Y to i j:ar)(n1:Y≠to)(n2:i≠j):Gu P w K (.Tuple elts kk pos) (Ni K a b) [z,Y,to,i,j] z (λn h=>IsZip h z Y to .none/\IsPair h Y (.ref i) (.ref j)/\(∃c d,IsPair h to c d)/\h.IsListIter i a n/\h.IsListIter j b n) where
 mem:=by simp
 obj:=λn h st b hb=>by
  obtain⟨J,B,⟨c,d,L⟩,⟨o,O,_,f4⟩,⟨u,V,_,f5⟩⟩:=AU st;simp only[Vc,VC,or_false]at hb;rcases hb with rfl|rfl|rfl|rfl|rfl
  .exact ⟨_,J,λv z=>by cases z⟩
  .exact ⟨_,B,λv z=>by cases z⟩
  .exact ⟨_,L,λv z=>by cases z⟩
  .exact ⟨_,O,λv z=>by rw[f4]at z;cases z⟩
  .exact ⟨_,V,λv z=>by rw[f5]at z;cases z⟩
 keep:=λn h h' st k=>by
  obtain⟨J,B,⟨c,d,L⟩,O,V⟩:=AU st;exact⟨k z (by simp) _ J,k Y (by simp) _ B,⟨c,d,k to (by simp) _ L⟩,O.at λo q=>k i (by simp) o q,V.at λo q=>k j (by simp) o q⟩
 item:=by
  intro X hP hw hK hc n π s σ H E I hf st hg;subst hP hw hK;obtain⟨xs,ys,x,y,hq,hr,hx,hy⟩:=DW hg;obtain⟨its,rv,p,hz⟩:=AG (I.list hq);obtain⟨rZ,kH,p',nI⟩:=AG (I.list hr);obtain⟨u,hu,ru⟩:=Au (rv.get hx);obtain⟨v,hv,rv'⟩:=Au (kH.get hy);obtain⟨J,B,⟨c,d,L⟩,O,V⟩:=AU st;have D:=Ry n1 n2 J B L O V p.isList p'.isList;have lt:∀b∈[z,Y,to,i,j],∃o,s.heap.get? b=some o:=λb hb=>by
   obtain⟨o4,a4,_⟩:=Au O;obtain⟨o5,a5,_⟩:=Au V;simp only[Vc,VC,or_false]at hb;rcases hb with rfl|rfl|rfl|rfl|rfl
   .exact ⟨_,J⟩
   .exact ⟨_,B⟩
   .exact ⟨_,L⟩
   .exact ⟨_,a4⟩
   .exact ⟨_,a5⟩
  refine wpAny_pyNext_zip_item D J B L O V p.isList p'.isList (x:=u) (y:=v) (by simpa using hu) (by simpa using hv) λh' z1 to1 i1 j1 hT hsz hk=>⟨_,rfl,?_⟩;have I1:Ac X π σ (upd H s.heap.objs.size (.tup [x,y])) { s with heap:=h' } :=
   I.nB (t':=s.toks) (ch:=[z,Y,to,i,j]) (us:=[u,v]) hf (λb o hb q=>hk b o (λe=>hb (by simp[e])) (λe=>hb (by simp[e])) (λe=>hb (by simp[e])) (λe=>hb (by simp[e])) q) (Vb _) lt hT (.cons ru (.cons rv' .nil)) Am
  have fr:∀b∈[z,Y,to,i,j],(upd H s.heap.objs.size (.tup [x,y])) b=none:=λb hb=>by
   obtain⟨o,e⟩:=lt b hb;rw[Aw (Vv (Vk e))];exact(hf b hb).1
  refine wpAny_letOwnedTupleGo_zip z1 λh2' z2 bE=>?_;obtain⟨f0,f1,f2,f3,f4,f5⟩:=AU (hf z (by simp));have I2:Ac X π σ (upd H s.heap.objs.size (.tup [x,y])) { s with heap:=h2' }:=I1.turned (t':=s.toks) (λb o hb q=>(bE.2 b hb).trans q) (fr z (by simp)) f1 f3 f4 f5;have ti1:=hk _ _ D.TIz D.TITO D.TIi1 D.TIi2 B;exact⟨.ref s.heap.objs.size,_,I2,rfl,⟨_,x,y,rfl,I.fresh,rfl,λxs' ys' e1 e2=>by rw[I.kn e1 hq,I.kn e2 hr];exact⟨hx,hy⟩⟩,⟨z2,(bE.2 _ D.TIz).trans ti1,⟨_,_,(bE.2 _ D.TOz).trans to1⟩,i1.at λo q=>(bE.2 _ D.i1z).trans q,j1.at λo q=>(bE.2 _ D.i2z).trans q⟩,fr⟩
 done:=by intro X hP hw hK hc n π s σ H E I hf st hg;subst hP hw hK;obtain⟨xs,ys,hq,hr,hx⟩:=BB hg;obtain⟨its,rv,p,hz⟩:=AG (I.list hq);obtain⟨rZ,kH,p',nI⟩:=AG (I.list hr);obtain⟨J,B,⟨c,d,L⟩,O,V⟩:=AU st;have hl:=rv.length;have hl':=kH.length;refine wpAny_pyNext_zip_end (I.ok.hd hc) (Ry n1 n2 J B L O V p.isList p'.isList) J B L O V p.isList p'.isList (by rcases hx with hx|hx;exact .inl (by simp;omega);exact .inr (by simp;omega)) λh' hk=>⟨rfl,?_⟩;have hn:=I.ah;exact I.aaO (t':=s.toks) (ch:=[z,Y,to,i,j]) hf λb o hb e=>hk b o (λy=>hb (by simp[y])) (λy=>hb (by simp[y])) (λy=>hb (by simp[y])) (λy=>hb (by simp[y])) e
 self:=λ_ _ _ _ _ st h=>zc st.1 h
def Ad9(K:UT)(ta:TA):TI:=λσ H R=>ta σ H λvs H1=>∃a b xs ys,vs=[.ref a,.ref b]/\A2 K H1 a xs/\A2 K H1 b ys/\R (Ni K a b) H1
def Aea{x y:UX}{O:TA}{p pos tp:Pos}{D:List UX}{kk:Nat}(g:Gm X.env.scope "zip")(hm:X.mg "zip"=none)(ha:PA X [x,y] O)(hs:U8 [x,y] X.env=(false,U9 x X.env)::U8 [y] X.env:=by rfl)(aN:(Vu pos<|U8 [y] X.env).any (·.1)=false:=by rfl) :
  PI X (.Tuple D kk tp) (.Call (.Name "zip" p) [x,y] [] pos) (Ad9 X.K O):=by
 intro π s σ H R I h;refine Call_<|Gn I g.gl hm Ad7 (Yx (As (ha pos π s σ H _ I h) λus B zz=>AF zz λvs H1 J r1 q1=>?_) hs aN);obtain⟨a,b,xs,ys,e,ht,hl,q⟩:=DW q1;subst e;cases r1 with
 |cons r L =>
  cases L with
  |cons r' L =>
   cases L;cases r;cases r';obtain⟨its,rv,pt,_⟩:=AG<|J.list ht;obtain⟨rZ,kH,pl,_⟩:=AG<|J.list hl;refine call_zip_2 pt.isList pl.isList λg V k2 k3 k4 k5 k6 k7=>?_;apply zc V;have n1:B.heap.objs.size+2≠B.heap.objs.size+3:=(by omega)
   have n2:B.heap.objs.size≠B.heap.objs.size+1:=(by omega)
   refine⟨B.heap.objs.size+4,[B.heap.objs.size+4,B.heap.objs.size+2,B.heap.objs.size+3,B.heap.objs.size,B.heap.objs.size+1],_,_,H1,rfl,J.kept (t':=B.toks) k7,Ad8 a b _ _ _ _ _ n1 n2,⟨V,k2,⟨_,_,k3⟩,k4,k5⟩,λb hb=>?_,q⟩;have Y:B.heap.objs.size<=b:=by simp only[Vc,VC,or_false]at hb;rcases hb with rfl|rfl|rfl|rfl|rfl<;>omega
   exact J.eF Y<|J.ah.fresh Y
end
section
variable {K:UT}{a b D:ar}{xs ys:List V}{g:TG}{tt:TT}{te:TE}{σ0:St}{H:Hp}{Q:Hp->Prop}
def Aeb(Pv:Nat->St->Hp->Prop)(hn:xs.length<=ys.length)(L:Pv 0 σ0 (upd H D<|.lst []))(I:∀i σ H,i<=xs.length->Pv i σ H->A2 K H a xs/\A2 K H b ys)(hs:∀i x y t σ B,xs[i]?=some x->ys[i]?=some y->Pv i σ B->B t=none->g (.ref t) σ (upd B t<|.tup [x,y]) (FI D tt te<|Pv (i+1)))(hd:∀σ B,Pv xs.length σ B->Q B):CW (Ni K a b) g (FI D tt te) σ0 (upd H D<|.lst []) λ_=>Q :=
 G2 xs.length Pv L (λi σ H J p=>have ⟨q,r⟩:=I i σ H (XA J) p;⟨⟨xs,ys,xs[i],ys[i]'(by omega),q,r,Vi J,Vi _⟩,λx B y=>by obtain⟨t,u,v,e,O,Y,hy⟩:=Dg y;subst e Y;exact hs i u v t σ H (hy xs ys q r).1 (hy xs ys q r).2 p O⟩) λσ H p=>have ⟨q,r⟩:=I _ σ H (Vb _) p;⟨⟨xs,ys,q,r,.inl<|Vb _⟩,hd σ H p⟩
end
section
variable {X:Cx}{e st:UX}{te:TE}{ts:TO}{pos p2:Pos}
end
section
variable {prog:UZ}{w:UU}{A:Vf}{E:af->US->Prop}{s:US}
end
section
variable {prog:UZ}{w:UU}{A:Vf}{I:ar}{fp wr:List ar}{G:Array X6->Array X6->Prop}{n:Nat}{P:Nat->af->Prop}{St:Nat->US->Prop}
end
section
variable {prog:UZ}{w:UU}{A:Vf}{E:af->US->Prop}{s:US}
end
section
variable {prog:UZ}{w:UU}{A:Vf}{E:af->US->Prop}{s:US}
end
section
variable {prog:UZ}{w:UU}{A:Vf}{E:af->US->Prop}{s:US}
end
section
variable {X:Cx}
end
def Dw.comp (n:Dw sc x):Dw (Wr sc env) x:=⟨KP n.loc rfl,n.db,n.cd⟩
def Rz (h:sc.names.lookup x=some .cell\/sc.names.lookup x=some .free):(Wr sc env).names.lookup x=some .cell\/(Wr sc env).names.lookup x=some .free:=h.elim (λz=>.inl<|KP z rfl) MB
def Bl.comp (S:Bl sc B D N H ko):Bl sc (Wr B env) D N H ko :=
 ⟨S.kind,S.own,S.push,S.cells,S.kc,S.one,λy hy I=>Rz<|S.frees y hy I,S.nd,S.len,λi j e=>let ⟨x,a,b,c,d⟩:=S.out i j e;⟨x,a,b,c,Rz d⟩⟩
section
variable {X:Cx}(K:UT)(h:X.K=K)
include h
end
end L2
set_option maxHeartbeats 4000000
namespace Lw
open PySem L2
local macro_rules | `(tactic| walk_at"")=>`(tactic| repeat (first
 | with_reducible refine Qy λ_ _=>?_
 | with_reducible refine Lk.asg ‹_› ?_
 | refine Lk.use ‹_› ?_
 | refine w1 rfl ?_
 | refine w2 rfl rfl ?_
 | refine w3 rfl ?_
 | refine U6 (w2 rfl rfl ?_)
 | refine U6 ⟨rfl,?_⟩
 | refine ⟨rfl,?_⟩
 | refine U6 ⟨_,_,_,_,rfl,rfl,.of ‹_›,rfl,?_⟩
 | (refine ZX (show Ji _ _ from ?_) ?_;(first | exact U4 ⟨by omega,by omega⟩ | exact U6 ⟨by omega,by omega⟩))
 | (refine ZX (show PD _ _ from ?_) ?_;exact ⟨by omega,by omega⟩)
 | (refine ZX (show (0:Int)<_ from ?_) ?_;first | decide | omega)))
local macro_rules|`(tactic|show $_:num)=>Lean.Macro.throwUnsupported|`(tactic|show $t)=>`(tactic|(walk_at"";refine $t))
local macro_rules|`(tactic|ext)=>`(tactic|walk_at"")
local macro_rules|`(tactic|left)=>`(tactic|walk_at "w")
local macro_rules|`(tactic|symm)=>`(tactic|walk_at "g")
local macro_rules | `(tactic| walk_at "m")=>`(tactic| exact ⟨rfl,rfl,rfl,by decide +kernel,rfl,by decide +kernel,by decide +kernel⟩)
local macro_rules | `(tactic| walk_at "k")=>`(tactic| exact ⟨by decide +kernel,by decide +kernel,by decide +kernel⟩)
def top(i:Nat):Stmt:=PySem.Challenge.pw_stephall_k10_talks_end_at_either_end.main.body.getD i (.Pass ⟨0,0,0,0⟩)
structure An where
 (r6 fL cf fM hJ jt nQ nR Plan bh hV aT Line ak gq ju:ar)
noncomputable def An.bw(a:An):List ar:=[a.bh,a.aT]
structure Txt(K:UT)(mg:aU->Option af)(a:An):Prop where
 aR:mg "len"=none
 gu:mg "isinstance"=none
 aaP:mg "bool"=none
 nS:mg "int"=none
 cQ:mg "range"=none
noncomputable def Fe(ns:List Int)(k:Int):Int :=
 if k<ns.length then ns.getD k.toNat 0 else if ns.length=0 then 7919*k+101 else ns.getD (k%ns.length).toNat 0%1000003+7919*k
def RA(K:UT):Sp:=λvs H Q _=>∃(p:ar)(ns:List Int)(k:Int),vs=[.ref p,.int k]/\A2 K H p (ns.map V.int)/\0<=k/\k<1000/\ns.length<=63/\Q (.int (Fe ns k)) H
section
variable {P:UZ}{w:UU}{K:UT}{mg:aU->Option af}{base:Heap}{a:An}{f:ar}{fd:U7}
def EJ:AM ["script","k"] ["script","k"] (Ab<|top 41):=.of
def Nj:Gm (Ab<|top 41) "len":=.of
def Aec(F:AE K "_law_cell" "_law_cell" (top 41) f fd)(T:Txt K mg a):Az P w K mg base Av 1 f fd ["script","k"] (RA K):=by
 refine F.ok EJ.fs λV A outer s H vs Q E I h=>?_
 .obtain ⟨p,B,k,rfl,hS,J,hk,Y,q⟩:=h;have hu:=I.units;have nd:=EJ.fs.nd;refine⟨_,(@Ad _ _ _ _ _ (AV (A1 Jj (Aa 1 EJ)<|Bo B8 Nj T.aR B0 (Ag<|Aa 0 EJ))<|Ai (AB<|AN AO (Aa 0 EJ) (Aa 1 EJ) (λ_ _=>rfl)))<|Ad (AV (A1 (B5 hu) (Bo B8 Nj T.aR B0<|Ag (Aa 0 EJ)) Aj)<|Ai (AB<|Ar BL (Ar Ce Aj<|Aa 1 EJ) Aj)) (Ai<|AB (Ar BL (Ar BC (AN AO (Aa 0 EJ) (Ar BC (Aa 1 EJ)<|Bo B8 Nj T.aR B0 (Ag<|Aa 0 EJ)) λ_ _=>rfl) Aj)<|Ar Ce Aj (Aa 1 EJ)))),?_⟩;try dsimp only[av,aw]
  show U4 (Bb _ _ rfl (.inl hS) ?_);ext;rw[UW];refine GA (λh=>?_) λh=>?_
  .have h:=of_decide_eq_true h;show U6 (Cq hS (Ih J h) ?_);have e:Fe B k=B.getD k.toNat 0:=by unfold Fe;rw[bf h]
   rwa[e]at q
  .have h:¬k<B.length:=by simpa using h
   show U4 (Bb _ _ rfl (.inl hS) ?_);ext;rw[UW];refine GA (λD=>?_) λD=>?_
   .have D:B.length=0:=by simpa using D
    ext;have e:Fe B k=7919*k+101:=by unfold Fe;rw[ck h,bf D]
    rwa[e]at q
   .have D:¬B.length=0:=by simpa using D
    show U4 (Bb _ _ rfl (.inl hS) ?_);rw[UW];have hp:0<(B.length:Int):=(by omega)
    ext;have L:0<=k%(B.length:Int):=Xw _ (by omega);have O:k%(B.length:Int)<B.length:=Xx _ (by omega);refine U6<|Cq hS (Ih L O) ?_;ext;have e:Fe B k=B.getD (k%B.length).toNat 0%1000003+7919*k:=by unfold Fe;rw[ck h,ck D]
    rwa[e]at q
def Nk(K:UT):Sp:=λvs H Q _=>∃(p:ar)(ns:List Int)(k many base:Int),vs=[.ref p,.int k,.int many,.int base]/\A2 K H p (ns.map V.int)/\0<=k/\k<1000/\ns.length<=63/\0<=many/\many<=100/\0<base/\base<2000000000 /\
 ∀(r:ar)(row:List Int)(H':Hp),Ah H H'->H r=none->H' r=some (.lst (row.map V.int))->row.length=many.toNat->(∀v∈row,0<=v/\v<base)->Q (.ref r) H'
def Aed:upd H r (.lst<|B.map V.int++[.int v]) r=some (.lst<|(B++[v]).map V.int):=by rw[Ao,Vg];rfl
def Aee{B:List Int}{v b:Int}(h:∀u∈B,0<=u/\u<b)(hv:0<=v/\v<b):∀u∈B++[v],0<=u/\u<b:=by
 intro u hu;rcases Vx.mp hu with z|z
 .exact h u z
 .rwa[Vl.mp z]
noncomputable def JI:List Int:=[2147483647,2147483629,2147483587,2147483579,2147483563,2147483549,2147483543,2147483497]
def Nl (D:0<=i)(H:i<8):∃p:Int,Cd (JI.map V.int) i=some (.int p)/\0<p/\p<2147483648:=by
 refine⟨_,Ih D H,?_⟩;have B:∀m:Nat,m<8->0<JI.getD m 0/\JI.getD m 0<2147483648:=(by decide)
 exact B _<|(by omega)
def Bm:AM ["script","k","many","base","primes","cell","rest","row","j","mash"] ["script","k","many","base"] (Ab<|top 42):=.of
def Aef:Gm (Ab<|top 42) "range":=.of
def Aeg:Gm (Ab<|top 42) "_law_cell":=.of
def Aeh(F:AE K "_law_draws" "_law_draws" (top 42) f fd)(T:Txt K mg a)(nT:Bt P w K mg base Av 1 "_law_cell" ["script","k"] (RA K)) :
  Az P w K mg base Av 2 f fd ["script","k","many","base"] (Nk K):=by
 refine F.ok Bm.fs λai A outer s H vs Q E I h=>?_
 .obtain ⟨p,O,k,J,bs,rfl,hS,k0,k1,hl,m0,m1,b0,b1,q⟩:=h;have hu:=I.units;have nd:=Bm.fs.nd;refine⟨_,(@Ad _ _ _ _ _ (A8 4 Bm<|Fx (Ii rfl))<|Ad (A8 5 Bm<|A9 nT Aeg I.d AK (AJ (Aa 0 Bm)<|Aa 1 Bm)) (Ad (A8 6 Bm Aj)<|Ad (AV (A1 AaQ (Aa 5 Bm)<|Ar AaN Aj Aj)<|Ai (A8 6 Bm<|Aa 5 Bm)) (Ad (A8 7 Bm<|CV B3)<|Ad (CM VZ rfl (Hk Aef T.cQ<|Ag (Aa 2 Bm)) (B9 8 Bm)<|Ad (A8 9 Bm<|Ar Ce (Ar BC (Aa 5 Bm)<|AN AO (Aa 4 Bm) (Ar BC (Aa 8 Bm) Aj) (λ_ _=>rfl)) (Ar BL Aj<|Ar Ce (Ar Ce Aj<|Aa 8 Bm) (Aa 8 Bm))) (Ad (A8 9 Bm<|Ar BL (Ar BL (Aa 9 Bm)<|Ar Ce (Ar Ce Aj<|Ar BL (Aa 8 Bm) Aj) (Ar BL (Aa 8 Bm) Aj)) (Ar Ce Aj<|Aa 1 Bm))<|Ad (A8 9 Bm<|Ar BC (Aa 9 Bm) (AN AO (Aa 4 Bm) (Ar BC (Ar BL (Ar Ce Aj<|Aa 8 Bm)<|Aa 1 Bm) Aj) λ_ _=>rfl)) (Ad (A8 9 Bm<|Ar BC (Ar Ce (Ar Ce (Aa 9 Bm)<|Aa 9 Bm)<|Aa 9 Bm) (AN AO (Aa 4 Bm) (Ar BC (Ar BL (Aa 8 Bm) Aj) Aj) λ_ _=>rfl))<|Ad (AV (A1 Jl (Aa 6 Bm) Aj)<|Ai (A8 9 Bm<|Aa 6 Bm)) (Ad (A4<|Ci VR Wb Wc Dl (Aa 7 Bm) (Ag<|Ar BC (Aa 9 Bm) (Aa 3 Bm)))<|Ai (A8 6 Bm<|Ar EW (Aa 6 Bm) (Aa 3 Bm)))))) (Ai<|AB (Aa 7 Bm))))),?_⟩;try dsimp only[av,aw]
  refine⟨(by decide),λpr hpr=>?_⟩;have s1:Ah H (upd H pr<|.tup (JI.map V.int)):=(Ah.refl H).upd hpr;show BO p O k rfl ⟨s1.seq hS,k0,k1,hl,?_⟩;show⟨⟨by decide,by decide,by decide⟩,?_⟩;show GA (λ_=>?_) (λ_=>?_) <;>
  .show⟨by decide,λr I=>?_⟩;have nU:r≠pr:=λe=>by rw[e,Ao]at I;cases I
   have sf:H r=none:=by rwa[Aw nU]at I
   show⟨by omega,by omega,Jh (n:=J.toNat) (λi σ L=>∃(B:List Int)(z:Int)(x y:Option V),σ=[some<|.ref p,some<|.int k,some<|.int J,some<|.int bs,some<|.ref pr,some<|.int (Fe O k),some<|.int z,some<|.ref r,x,y] /\
    Ah H L/\L pr=some (.tup<|JI.map V.int)/\L r=some (.lst<|B.map V.int)/\B.length=i/\∀v∈B,0<=v/\v<bs) ?_ ?_ ?_⟩
   .exact ⟨[],_,none,none,rfl,s1.upd I,(by rw[Aw nU.symm,Ao];rfl),Ao,rfl,λv hv=>absurd hv<|(by simp)⟩
   .intro i σ L hi zq;replace zq:=HV zq;obtain⟨B,z,x,y,rfl,sm,Y,hR,D,nV⟩:=zq;have eM:(i:Int)<100:=by omega
    simp only[YK];ext;obtain⟨p1,e1,a1,sg⟩:=AG<|Nl (i:=(i:Int)%8) (by omega) (by omega);refine U4<|U6 (Cq (.of Y) e1 ?_);ext;have c1:=Xw (Fe O k) (show p1≠0 by omega);have c2:=Xx (Fe O k) a1;generalize Fe O k%p1=m1 at c1 c2 ⊢;ext;obtain⟨p2,e2,a2,b2'⟩:=AG<|Nl (i:=(3*(i:Int)+k)%8) (by omega) (by omega);refine U4<|U6 (Cq (.of Y) e2 ?_);ext;generalize sh:(m1*(48271+2*(i:Int)*(i:Int))+7919*((i:Int)+1)*((i:Int)+1)+104729*k)%p2=m2;have c3:0<=m2:=by rw[<-sh];exact Xw _<|(by omega)
    have c4:m2<p2:=by rw[<-sh];exact Xx _ a2
    ext;obtain⟨p3,e3,a3,b3'⟩:=AG<|Nl (i:=((i:Int)+5)%8) (by omega) (by omega);refine U4<|U6 (Cq (.of Y) e3 ?_);show GA (λ_=>?_) (λ_=>?_) <;>
    .show⟨.inl ⟨rfl,_,.of hR⟩,?_⟩;show CZ r _ _ rfl rfl hR ?_ ?_
     .rw[UW,D,U0];omega
     ext;exact⟨B++[_],_,_,_,rfl,sm.bq sf,(by rwa[Aw nU.symm]),Aed,(by rw[VA,D];rfl),Aee nV ⟨Xw _<|(by omega),Xx _ b0⟩⟩
   .intro σ L zq;replace zq:=HV zq;obtain⟨B,z,x,y,rfl,sm,Y,hR,D,nV⟩:=zq;ext;exact q r B L sm sf hR D nV
def Aei(K:UT):WB K (.type "int") (.type "bool")=some false:=by rfl
def B6(z:aU):Prop:=∀c∈z.cps.toList,c<128
def Cg(z:aU):Prop:=∀c∈z.cps.toList,48<=c/\c<=57
def Cg.asc (h:Cg z):B6 z:=λc hc=>by have:=h c hc;omega
def JJ(x y:aU):(x++y).cps.toList=x.cps.toList++y.cps.toList:=by change(x.cps++y.cps).toList=_;simp
def F4(x:aU):x.length=x.cps.toList.length:=by simp[XJ]
def Ir:Sp:=λvs H Q _=>∃n lo hi,vs=[.int n,.int lo,.int hi]/\Q (.bl (decide (lo<=n) && decide (n<=hi))) H
def RB:Sp:=λvs H Q _=>∃d l:Int,vs=[.int d,.int l]/\-100<=l/\l<=100/\∀z:aU,z.length=l.toNat->Cg z->Q (.str z) H
def Iu:AM ["number","least","most"] ["number","least","most"] (Ab<|top 11):=.of
def Aej:Gm (Ab<|top 11) "isinstance":=.of
def Aek:Gm (Ab<|top 11) "bool":=.of
def Ael(F:AE K "within" "within" (top 11) f fd)(T:Txt K mg a):Az P w K mg base Av 1 f fd ["number","least","most"] Ir:=by
 refine F.ok Iu.fs λI A outer s H vs Q E D h=>?_
 .obtain ⟨n,lo,J,rfl,q⟩:=h;have hu:=D.units;have L:=Iu.fs.nd;refine⟨_,(@Ai _ _ _<|AB (Pf (Mi<|Bo Hi Aej T.gu Hj (AJ (Aa 0 Iu)<|Mz (v:=.ty "bool") Aek T.aaP Ack rfl))<|Mh (AaS Jk Jk (Aa 1 Iu) (Aa 0 Iu)<|Aa 2 Iu))),?_⟩;try dsimp only[av,aw]
  show U6 (Dv _ _ _ _ _ rfl ⟨.of<|.int n,rfl,Aei K,?_⟩);ext;by_cases B:lo<=n
  .refine DL (cx B) ?_;ext;rwa[cx B]at q
  .refine D4 (cN B) ?_;rwa[cN B]at q
structure F5(K:UT)(a:An)(C:ar):Prop where
 mem:C∈a.bw
 cls:CU K C
 h:BZ K C "held_by"
 j:BZ K C "jammed"
 t:BZ K C "taken"
structure Fs(fs:List (aU×V))(ra rb rc:ar):Prop where
 h:fs.lookup ("held_by":aU)=some (V.ref ra)
 j:fs.lookup ("jammed":aU)=some (V.ref rb)
 t:fs.lookup ("taken":aU)=some (V.ref rc)
 m:∀x∈(["first_free","hold","free","stick","mend","check","holders","stuck","shares","take","paper"]:List aU),fs.lookup x=none
structure C8(K:UT)(a:An)(H:Hp)(p C:ar)(ra rb rc:ar)(hs:List V)(js:List Bool)(ts:List Int):Prop where
 ins:∃dx fs,H p=some (.ins C dx fs)/\Fs fs ra rb rc
 c:F5 K a C
 ha:H ra=some (.lst hs)
 hb:H rb=some (.lst (js.map V.bl))
 hc:H rc=some (.lst (ts.map V.int))
 ab:ra≠rb
 ac:ra≠rc
 bc:rb≠rc
 lj:js.length=hs.length
 lt:ts.length=hs.length
 z:hs.length<=1000
def C8.same (r:C8 K a H p C D I J hs js ts)(s:Ah H B):C8 K a B p C D I J hs js ts:=by obtain⟨dx,fs,e,f⟩:=Bz r.ins;exact⟨⟨dx,fs,s _ _ e,f⟩,r.c,s _ _ r.ha,s _ _ r.hb,s _ _ r.hc,r.ab,r.ac,r.bc,r.lj,r.lt,r.z⟩
noncomputable def inR(k:Int)(hs:List V):Bool:=decide (0<=k) && decide (k<=(hs.length:Int)-1)
def F6:inR k hs=true↔0<=k/\k<hs.length:=by unfold inR;rw[WC,decide_eq_true_eq,decide_eq_true_eq];omega
def Hq{n:Nat}{k:Int}(B:0<=k)(h:k<n):CY n k=some k.toNat:=by unfold CY;rw[bf B,bf h]
def Nn(K:UT)(a:An):Sp:=λvs H Q _=>∃p C ra rb rc hs js ts,vs=[.ref p]/\C8 K a H p C ra rb rc hs js ts/\∀l,H l=none->Q (.ref l) (upd H l (.lst hs))
def RC(K:UT)(a:An):Sp:=λvs H Q _=>∃p C ra rb rc hs js ts,vs=[.ref p]/\C8 K a H p C ra rb rc hs js ts/\∀l,H l=none->Q (.ref l) (upd H l (.lst (ts.map V.int)))
def Ld(K:UT)(a:An):Sp:=λvs H Q E=>∃p k C ra rb rc hs js ts,vs=[.ref p,.int k]/\C8 K a H p C ra rb rc hs js ts/\if inR k hs=true then Q .aa H else E (.ref a.cf) none H
def Np(K:UT)(a:An):Sp:=λvs H Q _=>∃p k bP C ra rb rc hs js ts,vs=[.ref p,.int k,bP]/\C8 K a H p C ra rb rc hs js ts/\0<=k/\k<hs.length /\
 Q .aa (upd (upd H ra (.lst (hs.set k.toNat bP))) rc (.lst ((ts.set k.toNat (ts.getD k.toNat 0+1)).map V.int)))
def RD(K:UT)(a:An):Sp:=λvs H Q E=>∃p k C ra rb rc hs js ts,vs=[.ref p,.int k]/\C8 K a H p C ra rb rc hs js ts /\
 if inR k hs=true/\hs.getD k.toNat .aa≠.aa then Q .aa (upd H ra (.lst (hs.set k.toNat .aa)))else E (.ref a.cf) none H
def Le(K:UT)(a:An)(b:Bool):Sp:=λvs H Q E=>∃p k C ra rb rc hs js ts,vs=[.ref p,.int k]/\C8 K a H p C ra rb rc hs js ts /\
 if inR k hs=true then Q .aa (upd H rb (.lst ((js.set k.toNat b).map V.bl)))else E (.ref a.cf) none H
structure TxtS(K:UT)(mg:aU->Option af)(a:An):Prop extends Txt K mg a where
 cR:mg "list"=none
 kI:mg "enumerate"=none
 jv:mg "tuple"=none
 kJ:mg "NoSwitch"=some (.ref a.cf)
 nW:Xt K a.cf [.type "ValueError",.type "Exception",.type "BaseException",.type "object"] "ValueError.__new__"=true
def RE:AM ["self"] ["self"] (Ab<|Al (top 17) 7):=.of
def Aem:Gm (Ab<|Al (top 17) 7) "list":=.of
def Aen(F:AE K "holders" "Switches.holders" (Al (top 17) 7) f fd)(T:TxtS K mg a):Az P w K mg base Av 1 f fd ["self"] (Nn K a):=by
 refine F.ok RE.fs λJ A outer s H vs Q E L h=>?_
 .obtain ⟨p,C,O,V,Y,hs,js,ts,rfl,R,q⟩:=h;obtain⟨dx,fs,B,D⟩:=Bz R.ins;refine⟨_,(@Ai _ _ _<|AB (CO (FH rfl) Aem T.cR E9<|Ag (AD (Aa 0 RE) rfl))),?_⟩;try dsimp only[av,aw]
  show D9 B R.c.cls R.c.h D.h ?_;show U6 (Bb _ _ rfl (.inl<|.of R.ha) λl I=>?_);exact q l I
def RF:AM ["self"] ["self"] (Ab<|Al (top 17) 9):=.of
def Aeo:Gm (Ab<|Al (top 17) 9) "list":=.of
def Aep(F:AE K "shares" "Switches.shares" (Al (top 17) 9) f fd)(T:TxtS K mg a):Az P w K mg base Av 1 f fd ["self"] (RC K a):=by
 refine F.ok RF.fs λJ A outer s H vs Q E L h=>?_
 .obtain ⟨p,C,O,V,Y,hs,js,ts,rfl,R,q⟩:=h;obtain⟨dx,fs,B,D⟩:=Bz R.ins;refine⟨_,(@Ai _ _ _<|AB (CO (FH rfl) Aeo T.cR E9<|Ag (AD (Aa 0 RF) rfl))),?_⟩;try dsimp only[av,aw]
  show D9 B R.c.cls R.c.t D.t ?_;show U6 (Bb _ _ rfl (.inl<|.of R.hc) λl I=>?_);exact q l I
def Iv:AM ["self","k","who"] ["self","k","who"] (Ab<|Al (top 17) 2):=.of
def Aeq(F:AE K "hold" "Switches.hold" (Al (top 17) 2) f fd)(T:TxtS K mg a):Az P w K mg base Av 1 f fd ["self","k","who"] (Np K a):=by
 refine F.ok Iv.fs λai A outer s H vs Q E hr h=>?_
 .obtain ⟨p,k,I,C,J,rb,Y,hs,js,ts,rfl,R,B,h1,q⟩:=h;obtain⟨dx,fs,D,L⟩:=Bz R.ins;have aP:=R.lt;refine⟨_,(@Ad _ _ _ _ _ (El (Aa 2 Iv)<|Fw (AD (Aa 0 Iv) rfl) (Aa 1 Iv) D0)<|Ai (Jd (AD (Aa 0 Iv) rfl) (Aa 1 Iv) JA Aj Je D0)),?_⟩;try dsimp only[av,aw]
  show D9 D R.c.cls R.c.h L.h ?_;show Cq R.ha (Hq B h1) ?_;ext;have dJ:(upd H J<|.lst (hs.set k.toNat I)) p=some (.ins C dx fs):=by rw[Aw<|Kl D R.ha (by intro z;cases z)];exact D
  have O:(upd H J<|.lst (hs.set k.toNat I)) Y=some (.lst<|ts.map V.int):=by rw[Aw<|Vy R.ac];exact R.hc
  apply D9 dJ R.c.cls R.c.t L.t;show Be _ _ _ _ rfl rfl B (.of O) (Ih B<|(by omega)) ?_;show Cq O (Hq B<|by rw[UW];omega) ?_;rwa[V0]at q
def Bh(x y:aU):(x++y).length=x.length+y.length:=by rw[F4,F4,F4,JJ,VA]
def Lf:AM ["self","k"] ["self","k"] (Ab<|Al (top 17) 6):=.of
def Aer:Gm (Ab<|Al (top 17) 6) "within":=.of
def RG:Gm (Ab<|Al (top 17) 6) "len":=.of
def Aes:Gm (Ab<|Al (top 17) 6) "NoSwitch":=.of
def Aet(F:AE K "check" "Switches.check" (Al (top 17) 6) f fd)(T:TxtS K mg a)(L:Bt P w K mg base Av 1 "within" ["number","least","most"] Ir):Az P w K mg base (AI P w) 2 f fd ["self","k"] (Ld K a):=by
 refine F.aS Lf.fs λY A outer s H vs Q E O h=>?_
 .obtain ⟨p,k,C,ra,rb,rc,hs,js,ts,rfl,R,q⟩:=h;obtain⟨dx,fs,D,I⟩:=Bz R.ins;have V:=R.z;refine⟨_,(@Ai _ _ _<|AV (DY<|Dj (A9 L Aer O.d AK<|A0 (Aa 1 Lf) Aj (Ar DZ (Bo B8 RG T.aR B0<|Ag (AD (Aa 0 Lf) rfl)) Aj))) (Ai<|DN DM Aes rfl T.nW T.kJ (Ag<|Hg (C3 Ae<|C3 (JB<|Bo B8 RG T.aR B0 (Ag<|AD (Aa 0 Lf) rfl)) (C3 Ae G9))))),?_⟩;try dsimp only[av,aw]
  show D9 D R.c.cls R.c.h I.h ?_;show U4 (Bb _ _ rfl (.inl<|.of R.ha) ?_);show BO k 0 ((hs.length:Int)-1) rfl ?_;ext;by_cases hk:inR k hs=true
  .rw[bf hk]at q;have e:(decide (0<=k) && decide (k<=(hs.length:Int)-1))=true:=hk;rw[e];apply BQ;exact q
  .rw[ck hk]at q;have e:(decide (0<=k) && decide (k<=(hs.length:Int)-1))=false:=Yn.mpr hk;rw[e];apply B4;ext;have B:(VD++U3 "there are ").length=10:=by decide +kernel
   have J:(U3 " switches, numbered from 0").length=26:=(by decide +kernel)
   refine⟨(by rw[B,U0];decide),?_⟩;show D9 D R.c.cls R.c.h I.h ?_;show U4 (Bb _ _ rfl (.inl<|.of R.ha) ?_);refine U6<|C5 _ rfl ⟨by omega,by omega,λz V=>?_⟩;show⟨(by rw[Bh,B,U0];omega),?_⟩;show⟨(by rw[Bh,Bh,B,J,U0];omega),?_⟩;show⟨(by rw[Bh,Bh,B,J,U0];omega),?_⟩;exact⟨Am,q⟩
def JK:AM ["self","k"] ["self","k"] (Ab<|Al (top 17) 4):=.of
def Aeu(F:AE K "stick" "Switches.stick" (Al (top 17) 4) f fd)(T:TxtS K mg a)(I:∀C∈a.bw,AR P w K mg base (AI P w) 2 C "check" ["self","k"]<|Ld K a):Az P w K mg base (AI P w) 3 f fd ["self","k"] (Le K a true):=by
 refine F.aS JK.fs λai A outer s H vs Q E J h=>?_
 .obtain ⟨p,k,C,L,O,V,hs,js,ts,rfl,R,q⟩:=h;obtain⟨dx,fs,B,D⟩:=Bz R.ins;have Y:=I C R.c.mem;have cls:=R.c.cls;have hj:=R.lj;refine⟨_,(@Ad _ _ _ _ _ (A4<|A6 Y cls (Aa 0 JK) J.d BH (Ag<|Aa 1 JK))<|Ai (El DX<|Fw (AD (Aa 0 JK) rfl) (Aa 1 JK) D0)),?_⟩;try dsimp only[av,aw]
  show EF B (D.m _<|(by decide)) ?_;show GB p k C L O V hs js ts rfl ⟨R,?_⟩;by_cases hk:inR k hs=true
  .rw[bf hk]at q ⊢;obtain⟨h0,h1⟩:=F6.mp hk;show D9 B R.c.cls R.c.j D.j ?_;show Cq R.hb (Hq h0<|by rw[UW];omega) ?_;rwa[V0]at q
  .rw[ck hk]at q ⊢;exact q
def JL:AM ["self","k"] ["self","k"] (Ab<|Al (top 17) 5):=.of
def Aev(F:AE K "mend" "Switches.mend" (Al (top 17) 5) f fd)(T:TxtS K mg a)(I:∀C∈a.bw,AR P w K mg base (AI P w) 2 C "check" ["self","k"]<|Ld K a):Az P w K mg base (AI P w) 3 f fd ["self","k"] (Le K a false):=by
 refine F.aS JL.fs λai A outer s H vs Q E J h=>?_
 .obtain ⟨p,k,C,L,O,V,hs,js,ts,rfl,R,q⟩:=h;obtain⟨dx,fs,B,D⟩:=Bz R.ins;have Y:=I C R.c.mem;have cls:=R.c.cls;have hj:=R.lj;refine⟨_,(@Ad _ _ _ _ _ (A4<|A6 Y cls (Aa 0 JL) J.d BH (Ag<|Aa 1 JL))<|Ai (El DX<|Fw (AD (Aa 0 JL) rfl) (Aa 1 JL) D0)),?_⟩;try dsimp only[av,aw]
  show EF B (D.m _<|(by decide)) ?_;show GB p k C L O V hs js ts rfl ⟨R,?_⟩;by_cases hk:inR k hs=true
  .rw[bf hk]at q ⊢;obtain⟨h0,h1⟩:=F6.mp hk;show D9 B R.c.cls R.c.j D.j ?_;show Cq R.hb (Hq h0<|by rw[UW];omega) ?_;rwa[V0]at q
  .rw[ck hk]at q ⊢;exact q
def GP:AM ["self","k"] ["self","k"] (Ab<|Al (top 17) 3):=.of
def Aew:Gm (Ab<|Al (top 17) 3) "NoSwitch":=.of
def Aex(F:AE K "free" "Switches.free" (Al (top 17) 3) f fd)(T:TxtS K mg a)(O:∀C∈a.bw,AR P w K mg base (AI P w) 2 C "check" ["self","k"]<|Ld K a):Az P w K mg base (AI P w) 3 f fd ["self","k"] (RD K a):=by
 refine F.aS GP.fs λai A outer s H vs Q E V h=>?_
 .obtain ⟨p,k,C,Y,rb,rc,hs,js,ts,rfl,R,q⟩:=h;obtain⟨dx,fs,D,I⟩:=Bz R.ins;have jw:=O C R.c.mem;have cls:=R.c.cls;have hz:=R.z;refine⟨_,(@Ad _ _ _ _ _ (A4<|A6 jw cls (Aa 0 GP) V.d BH (Ag<|Aa 1 GP))<|Ad (AV (A1 Gw (AN AO (AD (Aa 0 GP) rfl) (Aa 1 GP) λ_ _=>rfl) Cv)<|Ai (DN DM Aew rfl T.nW T.kJ<|Ag (Hg<|C3 Ae (C3 (JB<|Aa 1 GP) G9)))) (Ai<|El Cv (Fw (AD (Aa 0 GP) rfl) (Aa 1 GP) D0))),?_⟩;try dsimp only[av,aw]
  show EF D (I.m _<|(by decide)) ?_;show GB p k C Y rb rc hs js ts rfl ⟨R,?_⟩;by_cases hk:inR k hs=true
  .rw[bf hk];obtain⟨J,L⟩:=F6.mp hk;show D9 D R.c.cls R.c.h I.h ?_;ext;obtain⟨v,B,e2⟩:=Au<|GF (xs:=hs) J L;have e3:hs.getD k.toNat .aa=v:=by rw[Vt,e2];rfl
   rw [e3]at q;refine U6<|Cq (.of R.ha) B ?_;ext;by_cases hv:v=.aa
   .rw[ck λz=>z.2 hv]at q;apply DL (cx hv);ext;have B:(VD++U3 "nobody holds switch ").length=20:=by decide +kernel
    refine⟨(by rw[B,U0];decide),?_⟩;show U6 (C5 _ rfl ⟨(by omega),(by omega),λz hz=>?_⟩);show⟨(by rw[Bh,B,U0];omega),?_⟩;refine⟨(by rw[Bh,B,U0];omega),?_⟩;exact⟨Am,q⟩
   .rw[bf ⟨hk,hv⟩]at q;apply D4 (cN hv);show D9 D R.c.cls R.c.h I.h ?_;show Cq R.ha (Hq J L) ?_;exact q
  .rw[ck hk];rwa[ck λz=>hk z.1]at q
def CD(ws:List ar)(H H':Hp):Prop:=∀b o,b ∉ ws->H b=some o->H' b=some o
noncomputable def Hs(ra rb rc:ar):List (aU×V):=[("held_by",.ref ra),("jammed",.ref rb),("taken",.ref rc)]
def Lg(K:UT)(a:An):Sp:=λvs H Q _=>∃(p:ar)(many:Int)(C dx:ar),vs=[.ref p,.int many]/\H p=some (.ins C dx [])/\F5 K a C/\0<=many/\many<=1000 /\
 ∀H' ra rb rc,CD [p] H H'->H' p=some (.ins C dx (Hs ra rb rc))->H ra=none->H rb=none->H rc=none->H' ra=some (.lst (U5 many.toNat .aa))->H' rb=some (.lst ((U5 many.toNat false).map V.bl))->H' rc=some (.lst ((U5 many.toNat (0:Int)).map V.int)) ->
  ra≠rb->ra≠rc->rb≠rc->Q .aa H'
theorem FJ{α:Type}(x:α):∀n:Nat,(U5 n [x]).flatten=U5 n x
 |0=>rfl
 |n+1=>by rw[XM,YF,FJ x n];rfl
noncomputable def BY(hs:List V)(js:List Bool)(k:Int):Bool:=decide (hs.getD k.toNat .aa=.aa) && !(js.getD k.toNat false)
noncomputable def Cw(hs:List V)(js:List Bool)(start:Int):Option Int:=(BR start hs.length++BR 0 start).find? (BY hs js)
noncomputable def RH:Option Int->V
 |some k=>.int k
 |none=>.aa
def Nq(K:UT)(a:An):Sp:=λvs H Q _=>∃(p:ar)(start:Int)(C ra rb rc:ar)(hs:List V)(js:List Bool)(ts:List Int),vs=[.ref p,.int start]/\C8 K a H p C ra rb rc hs js ts/\0<=start/\start<=hs.length/\∀H',Ah H H'->Q (RH (Cw hs js start)) H'
def Ht:AM ["self","many"] ["self","many"] (Ab<|Al (top 17) 0):=.of
def RI(F:AE K "__init__" "Switches.__init__" (Al (top 17) 0) f fd)(T:TxtS K mg a):Az P w K mg base Av 1 f fd ["self","many"] (Lg K a):=by
 refine F.ok Ht.fs λai A outer s H vs Q E hr h=>?_
 .obtain ⟨p,B,C,dx,rfl,hp,c,h0,h1,q⟩:=h;refine⟨_,(@Ad _ _ _ _ _ (BM (Aa 0 Ht) (Ar Ce (CV<|Ag Cv)<|Aa 1 Ht) rfl)<|Ad (BM (Aa 0 Ht) (Ar Ce (CV<|Ag DX)<|Aa 1 Ht) rfl) (Ai<|BM (Aa 0 Ht) (Ar Ce (CV<|Ag Aj)<|Aa 1 Ht) rfl)),?_⟩;try dsimp only[av,aw]
  show⟨Am,λl1 jx=>?_⟩;show U4 (U4<|BO l1 B [.aa] rfl ⟨rfl,Ao,by omega,by omega,(by rw[Wa,U0];omega),λD cg=>?_⟩);generalize nY:upd H l1 (.lst [.aa])=jy at cg ⊢;have jz:Ah H jy:=nY▸(Ah.refl H).upd jx;generalize jA:upd jy D (.lst (U5 B.toNat [.aa]).flatten)=gv;have jB:Ah H gv:=jA▸jz.upd cg;have e1:gv D=some (.lst (U5 B.toNat [.aa]).flatten):=jA▸Ao;have f1:H D=none:=jz.free cg;show Be p C dx [] rfl (jB _ _ hp) c.cls c.h (by change 0<1000;decide) ?_;generalize dO:upd gv p (.ins C dx<|A7 "held_by" (.ref D) [])=L;have p1:L p=some (.ins C dx [("held_by",.ref D)]):=dO▸Ao;have x1:CD [p] H L:=λb o hb e=>by rw[<-dO,Aw<|(by simpa using hb)];exact jB b o e
  have eQ:D≠p:=λz=>by rw[z,hp]at f1;cases f1
  have c1:L D=some (.lst (U5 B.toNat [.aa]).flatten):=by rwa[<-dO,Aw eQ]
  show⟨Am,λl3 gw=>?_⟩;show U4 (U4<|BO l3 B [.bl false] rfl ⟨rfl,Ao,by omega,by omega,(by rw[Wa,U0];omega),λI eR=>?_⟩);generalize nZ:upd L l3 (.lst [.bl false])=jC at eR ⊢;have jD:Ah L jC:=nZ▸(Ah.refl L).upd gw;generalize jE:upd jC I (.lst (U5 B.toNat [.bl false]).flatten)=gx;have jF:Ah L gx:=jE▸jD.upd eR;have e2:gx I=some (.lst (U5 B.toNat [.bl false]).flatten):=jE▸Ao;have f2:L I=none:=jD.free eR;show Be p C dx [("held_by",.ref D)] rfl (jF _ _ p1) c.cls c.j (by change 1<1000;decide) ?_;generalize dP:upd gx p (.ins C dx<|A7 "jammed" (.ref I) [("held_by",.ref D)])=O;have p2:O p=some (.ins C dx [("held_by",.ref D),("jammed",.ref I)]):=dP▸Ao;have x2:CD [p] L O:=λb o hb e=>by rw[<-dP,Aw<|(by simpa using hb)];exact jF b o e
  have eT:I≠p:=λz=>by rw[z,p1]at f2;cases f2
  have c2:O I=some (.lst (U5 B.toNat [.bl false]).flatten):=by rwa[<-dP,Aw eT]
  show⟨Am,λl5 og=>?_⟩;show U4 (U4<|BO l5 B [.int 0] rfl ⟨rfl,Ao,by omega,by omega,(by rw[Wa,U0];omega),λJ oi=>?_⟩);generalize hA3:upd O l5 (.lst [.int 0])=sj at oi ⊢;have sr:Ah O sj:=hA3▸(Ah.refl O).upd og;generalize sv:upd sj J (.lst (U5 B.toNat [.int 0]).flatten)=om;have sy:Ah O om:=sv▸sr.upd oi;have e3:om J=some (.lst (U5 B.toNat [.int 0]).flatten):=sv▸Ao;have V:O J=none:=sr.free oi;show Be p C dx [("held_by",.ref D),("jammed",.ref I)] rfl (sy _ _ p2) c.cls c.t (by change 2<1000;decide) ?_;generalize oo:upd om p (.ins C dx<|A7 "taken" (.ref J) [("held_by",.ref D),("jammed",.ref I)])=Y;have p3:Y p=some (.ins C dx<|Hs D I J):=oo▸Ao;have x3:CD [p] O Y:=λb o hb e=>by rw[<-oo,Aw<|(by simpa using hb)];exact sy b o e
  have oq:J≠p:=λz=>by rw[z,p2]at V;cases V
  have c3:Y J=some (.lst (U5 B.toNat [.int 0]).flatten):=by rwa[<-oo,Aw oq]
  have one:∀{b:ar},b≠p->b ∉ [p]:=λh z=>h (by simpa using z);have sD:=x2 _ _ (one eQ) c1;have sE:=x3 _ _ (one eQ) sD;have sH:=x3 _ _ (one eT) c2;have g4:H I=none:=by
   cases z:H I with
   |none=>rfl
   |some o=>have:=x1 _ _ (one eT) z;rw[this]at f2;cases f2
  have g6:H J=none:=by
   cases z:H J with
   |none=>rfl
   |some o=>have:=x2 _ _ (one oq)<|x1 _ _ (one oq) z;rw[this]at V;cases V
  rw [FJ]at sE sH c3;refine q Y D I J (λb o hb e=>x3 _ _ hb<|x2 _ _ hb (x1 _ _ hb e)) p3 f1 g4 g6 sE (by rwa[Y6]) (by rwa[Y6]) ?_ ?_ ?_
  .exact λz=>by rw[<-z,c1]at f2;cases f2
  .exact λz=>by rw[<-z,sD]at V;cases V
  .exact λz=>by rw[<-z,c2]at V;cases V
def Ff:AM ["self","start","k"] ["self","start"] (Ab<|Al (top 17) 1):=.of
def RJ:Gm (Ab<|Al (top 17) 1) "list":=.of
def RK:Gm (Ab<|Al (top 17) 1) "range":=.of
def Aey:Gm (Ab<|Al (top 17) 1) "len":=.of
def Aez(F:AE K "first_free" "Switches.first_free" (Al (top 17) 1) f fd)(T:TxtS K mg a):Az P w K mg base Av 1 f fd ["self","start"] (Nq K a):=by
 refine F.ok Ff.fs λai A outer s H vs Q E hr h=>?_
 .obtain ⟨p,start,C,ra,rb,rc,hs,js,ts,rfl,R,h0,h1,q⟩:=h;obtain⟨dx,fs,hp,F3⟩:=Bz R.ins;have nd:=Ff.fs.nd;have hz:=R.z;refine⟨_,(@Ad _ _ _ _ _ (CM VZ rfl (Dk<|Ar BL (CO (FH rfl) RJ T.cR E9<|Ag (CO QU RK T.cQ QV<|AJ (Aa 1 Ff) (Bo B8 Aey T.aR B0<|Ag (AD (Aa 0 Ff) rfl)))) (CO (FH rfl) RJ T.cR E9<|Ag (CO QU RK T.cQ QV<|Ag (Aa 1 Ff)))) (B9 2 Ff)<|Ai (AV (PW.pt<|Fv (A1 Gw (AN AO (AD (Aa 0 Ff) rfl) (Aa 2 Ff) λ_ _=>rfl) Cv) (Gp<|DY (Dj<|AN AO (AD (Aa 0 Ff) rfl) (Aa 2 Ff) (λ_ _=>rfl))))<|Ai (AB<|Aa 2 Ff)))<|Ai (AB Cv)),?_⟩;try dsimp only[av,aw]
  show D9 hp R.c.cls R.c.h F3.h ?_;show U4 (Bb _ _ rfl (.inl<|.of R.ha) ?_);ext;have O:Sm start:=⟨(by omega),(by omega)⟩;have cG:Sm (hs.length:Int):=⟨(by omega),(by omega)⟩;have sm0:Sm 0:=⟨(by decide),(by decide)⟩;refine U4<|CN start hs.length rfl O cG (λr1 n1=>?_);refine U4<|BO r1 start hs.length rfl ⟨Ao,O,cG,(by rw[U0];omega),λl1 m1=>?_⟩;have s1:=(Ah.refl H).upd (o:=.cy start hs.length) n1;have s2:=s1.upd (o:=.lst<|(BR start hs.length).map V.int) m1;show U6 (D5 start rfl O λr2 n2=>?_);have s3:=s2.upd (o:=.cy 0 start) n2;have k1:=((Ah.refl _).upd (o:=.cy 0 start) n2) l1 _ Ao;refine U4<|BO r2 0 start rfl ⟨Ao,sm0,O,(by rw[U0];omega),λl2 m2=>?_⟩;have s4:=s3.upd (o:=.lst<|(BR 0 start).map V.int) m2;have k2:=((Ah.refl _).upd (o:=.lst<|(BR 0 start).map V.int) m2) l1 _ k1;refine U4<|U4 (Be l1 l2 _ _ rfl rfl k2 Ao (by rw[UW,UW,MM,MM,U0];omega) λl3 n3=>?_);rw[<-Vg];have s5:=s4.upd (o:=.lst<|(BR start hs.length++BR 0 start).map V.int) n3;generalize hU:upd _ l3 (.lst<|(BR start hs.length++BR 0 start).map V.int)=Y at s5 ⊢;have e3:Y l3=some (.lst<|(BR start hs.length++BR 0 start).map V.int):=hU▸Ao;have q':∀r,r=Cw hs js start->Q (RH r) Y:=λr e=>by rw[e];exact q Y s5
  have RU:=R.same s5;clear hU
  have mem:∀k∈BR start hs.length++BR 0 start,0<=k/\k<hs.length:=λk hk=>by
   rcases Vx.mp hk with h|h<;>obtain⟨n,hn,rfl⟩:=Au<|Ve.mp h<;>have:=We.mp hn<;>constructor<;>omega
  unfold Cw at q';generalize BR start hs.length++BR 0 start=ord at e3 q' mem ⊢;obtain⟨dx',fA,b7,kM⟩:=Bz RU.ins;show⟨⟨_,.of e3⟩,D8 (K:=K) (a:=l3) (xs:=ord.map V.int) (λi σ H2=>∃x,σ=[some<|.ref p,some<|.int start,x]/\H2=Y/\(ord.take i).find? (BY hs js)=none) ⟨none,rfl,rfl,rfl⟩ (λi σ H2 _ ⟨_,_,e,_⟩=>e▸.of e3) ?_ ?_⟩
  .intro i y σ H2 I zq;replace zq:=AG zq;obtain⟨x,rfl,rfl,hf⟩:=zq;rw[Va]at I;cases hk:ord[i]? with
   |none=>rw[hk]at I;cases I
   |some k =>
    rw [hk]at I;cases I;obtain⟨k0,k1⟩:=mem k<|Vh hk;obtain⟨v,e1,e2⟩:=Au<|GF (xs:=hs) k0 k1;have lj:=RU.lj;obtain⟨u,e4,J⟩:=Au<|GF (xs:=js.map V.bl) k0 (by rw[UW];omega);obtain⟨B,e6,rfl⟩:∃B,js[k.toNat]?=some B/\u=.bl B:=by
     rw [Va]at J;cases z:js[k.toNat]? with
     |none=>rw[z]at J;cases J
     |some B=>rw[z]at J;cases J;exact⟨B,rfl,rfl⟩
    have L:BY hs js k=(decide (v=.aa) && !B):=by unfold BY;rw[Vt,e2,Vt,e6];rfl
    have tk:(ord.take<|i+1).find? (BY hs js)=if BY hs js k=true then some k else none:=by rw[WE,hk,zf,hf];change none.or (List.find? (BY hs js) [k])=_;rw[Xb];cases BY hs js k<;>rfl
    show D9 b7 R.c.cls R.c.h kM.h ?_;show U6 (Cq (.of RU.ha) e1 ?_);ext;have D:BY hs js k=true->some k=ord.find? (BY hs js):=λh=>by
     rw [bf h]at tk;conv=>rhs;rw[<-zg (i+1) ord]
     rw [zf,tk];rfl
    have next:BY hs js k=false->(ord.take<|i+1).find? (BY hs js)=none:=λh=>by rw[tk,h];rfl
    by_cases hv:v=.aa
    .rw[cx hv];rw[cx hv]at L;apply B4;show D9 b7 R.c.cls R.c.j kM.j ?_;show U6 (Cq (.of RU.hb) e4 ?_);ext;cases B with
     |false =>
      apply B4;ext;exact q' (some k)<|D L
     |true =>
      apply BQ;exact⟨_,rfl,rfl,next L⟩
    .rw[cN hv];rw[cN hv]at L;apply BQ;apply BQ;exact⟨_,rfl,rfl,next L⟩
  .intro σ H2 zq;replace zq:=AG zq;obtain⟨x,rfl,rfl,hf⟩:=zq;ext;rw[UW,Wi]at hf;exact q' none hf.symm
noncomputable def Fg(js:List Bool)(n:Nat):List Int:=((VN n).filter λk=>js.getD k false).map λ(k:Nat)=>(k:Int)
def RL(js:List Bool)(n:Nat):Fg js (n+1)=Fg js n++if js.getD n false=true then[(n:Int)] else[]:=by
 unfold Fg;rw[Zf,ZY,Vg];congr 1
 rw [ZZ,Z0];by_cases h:js.getD n false=true
 .rw[bf h,bf h];rfl
 .rw[ck h,ck h];rfl
def AeA(js:List Bool)(n:Nat):(Fg js n).length<=n:=by unfold Fg;rw[UW];have:=Zg (λk=>js.getD k false)<|VN n;rwa [Xu]at this
def Nr(K:UT)(a:An):Sp:=λvs H Q _=>∃(p C ra rb rc:ar)(hs:List V)(js:List Bool)(ts:List Int),vs=[.ref p]/\C8 K a H p C ra rb rc hs js ts /\
 ∀H' r,Ah H H'->H r=none->H' r=some (.lst ((Fg js js.length).map V.int))->Q (.ref r) H'
noncomputable def Cy(hs:List V)(st:Nat->Bool)(n:Nat):List V:=(VN n).map λk=>if hs.getD k .aa=.aa then(if st k=true then V.str "stuck" else V.str "free")else hs.getD k .aa
def AeB(i:Int)(ks:List Int):FE (.int i) (ks.map V.int)=decide (i∈ks):=by
 unfold FE;rw[List.any_map,XD,zh,decide_eq_true_eq];constructor
 .intro B;obtain⟨k,hk,e⟩:=Au B;have D:(k == i)=true:=e;rwa[<-beq_iff_eq.mp D]
 .exact λh=>⟨i,h,(beq_self_eq_true i:(i == i)=true)⟩
def AeC(ks:List Int):(ks.map V.int).all D1=true:=by rw[w5,WL];exact λ_ _=>rfl
def Nt(hs:List V)(st:Nat->Bool)(n:Nat):Cy hs st (n+1)=Cy hs st n++[if hs.getD n .aa=.aa then(if st n=true then V.str "stuck" else V.str "free")else hs.getD n .aa]:=by unfold Cy;rw[Zf,Vg];rfl
def Lh(K:UT):Sp:=λvs H Q _=>∃(h s:ar)(hs:List V)(ks:List Int),vs=[.ref h,.ref s]/\H h=some (.lst hs)/\H s=some (.lst (ks.map V.int))/\hs.length<=1000 /\
 ∀H' t,Ah H H'->H t=none->H' t=some (.tup (Cy hs (λk=>decide ((k:Int)∈ks)) hs.length))->Q (.ref t) H'
def RM:AM ["self"] ["self"] (Ab<|Al (top 17) 8):=.of
def AeD:Gm (Ab<|Al (top 17) 8) "enumerate":=.of
noncomputable def Nu:Scope:={ kind:=.function,names:=[(".0",.local),("k",.local),("jammed",.local)],isGenerator:=false,isCoroutine:=false,more:=[] }
def Nv:Bl Nu (Ab<|Al (top 17) 8) ["k","jammed"] ["self"] [none,none]:=(Bl.mk' rfl `o `o `o `o rfl<|(by decide +kernel))
def RN:Nm Nu "k":=.of
def RO:Nm Nu "jammed":=.of
def AeE(F:AE K "stuck" "Switches.stuck" (Al (top 17) 8) f fd)(T:TxtS K mg a):Az P w K mg base Av 1 f fd ["self"] (Nr K a):=by
 refine F.ok RM.fs λai A outer s H vs Q E hr h=>?_
 .obtain ⟨p,C,ra,rb,rc,hs,js,ts,rfl,R,q⟩:=h;obtain⟨dx,fs,hp,F3⟩:=Bz R.ins;have hz:=R.z;have hj:=R.lj;refine⟨_,(@Ai _ _ _<|AB (Ik rfl Nv (MK AeD T.kI<|Ag (AD (Aa 0 RM) rfl)) (λcl C Y π s₂ H₂=>(Im (X:=Bu _ _ _ cl C Y π s₂ H₂) K rfl 2 rfl (BW (Cf 0 Nv.nd RN.comp)<|BW (Cf 1 Nv.nd RO.comp) D7) rfl rfl)) (λcl C Y π s₂ H₂=>(GI<|Dj (Ap 1 RO.comp))) λcl C Y π s₂ H₂=>(Ap 0 RN.comp))),?_⟩;try dsimp only[av,aw]
  show D9 hp R.c.cls R.c.j F3.j ?_;refine Bb _ _ rfl (.of R.hb) λD hD=>?_;refine QZ (K:=K) (a:=rb) (xs:=js.map V.bl) (λi σ B=>∃x y,σ=[x,y]/\Ah H B/\B D=some (.lst<|(Fg js i).map V.int)) ⟨none,none,rfl,(Ah.refl H).upd hD,Ao⟩ (λi σ B _ ⟨_,_,_,I,_⟩=>.of<|I _ _ R.hb) ?_ ?_
  .rintro i x t σ B J ⟨x0,x1,rfl,I,L⟩ ht;rw[Va]at J;cases hk:js[i]? with
   |none=>rw[hk]at J;cases J
   |some O =>
    rw [hk]at J;cases J;have eg:js.getD i false=O:=by rw[Vt,hk];rfl
    have kN:i<js.length:=(Vz.mp hk).1;refine CN t _ rfl (.of Ao) rfl ?_;ext;have bJ:=((Ah.refl B).upd (o:=.tup [.int i,.bl O]) ht) D _ L;have cG:=I.upd (o:=.tup [.int i,.bl O]) ht;cases O with
    |true =>
     refine B4 ?_;show⟨_,bJ,?_,_,_,rfl,cG.bq hD,?_⟩
     .rw[UW,U0];have:=AeA js i;omega
     .rw[Ao,RL,eg,bf rfl,Vg];rfl
    |false =>
     refine BQ ?_;refine Bb _ _ rfl cG ?_;rw[bJ,RL,eg,ck<|(by decide),V5]
  .intro σ B zq;replace zq:=BB zq;obtain⟨x0,x1,rfl,I,L⟩:=zq;rw[UW]at L;exact q B D I hD L
def RP (h:k<n):decide ((k:Int)∈Fg js n)=js.getD k false:=by
 unfold Fg;rw[XD,decide_eq_true_eq,Ve];constructor
 .intro B;obtain⟨m,D,e⟩:=Au B;have:m=k:=by omega
  subst this;exact(X5.mp D).2
 .exact λe=>⟨k,X5.mpr ⟨We.mpr h,e⟩,rfl⟩
def RQ{n:Nat}{start k:Int}(D:0<=start)(H:start<=n)(h:k∈BR start n++BR 0 start):0<=k/\k<n:=by rcases Vx.mp h with h|h<;>obtain⟨m,B,rfl⟩:=Au<|Ve.mp h<;>have:=We.mp B<;>constructor<;>omega
def GQ{hs:List V}{js:List Bool}{start k:Int}(B:0<=start)(D:start<=hs.length)(h:Cw hs js start=some k):(0<=k/\k<hs.length)/\BY hs js k=true:=⟨RQ B D<|zi h,zj h⟩
structure GR(K:UT)(a:An)(C:ar):Prop where
 c:F5 K a C
 p:BZ K C "places"
 s:BZ K C "stands"
 w:BZ K C "went"
 m:BZ K C "mark_at"
noncomputable def Hu(ra rb rc:ar)(places:Int)(rs rw:ar)(mark:Int):List (aU×V):=[("held_by",.ref ra),("jammed",.ref rb),("taken",.ref rc),("places",.int places),("stands",.ref rs),("went",.ref rw),("mark_at",.int mark)]
def Li(D H I:ar)(B:Int)(J rw:ar)(mark:Int):Fs (Hu D H I B J rw mark) D H I:=by refine⟨rfl,rfl,rfl,λx hx=>?_⟩;simp only[Vc,VC,or_false]at hx;rcases hx with rfl|rfl|rfl|rfl|rfl|rfl|rfl|rfl|rfl|rfl|rfl<;>rfl
structure Fh(K:UT)(a:An)(H:Hp)(p C ra rb rc rs rw:ar)(hs:List V)(js:List Bool)(ts:List Int)(places mark:Int)(st wt:List Int):Prop where
 ins:∃dx,H p=some (.ins C dx (Hu ra rb rc places rs rw mark))
 cs:GR K a C
 ha:H ra=some (.lst hs)
 hb:H rb=some (.lst (js.map V.bl))
 hc:H rc=some (.lst (ts.map V.int))
 gA:H rs=some (.lst (st.map V.int))
 hw:H rw=some (.lst (wt.map V.int))
 ap:[ra,rb,rc,rs,rw].Nodup
 lj:js.length=hs.length
 lt:ts.length=hs.length
 ls:st.length=hs.length
 lw:wt.length=hs.length
 z:hs.length<=1000
def Fh.r (k:Fh K a H p C D I J O rw hs js ts B mark st wt):C8 K a H p C D I J hs js ts:=by obtain⟨dx,e⟩:=k.ins;have L:=k.ap;simp only[Vr,Vc,VC,or_false,not_or,not_false_eq_true,WO,and_true]at L;obtain⟨⟨Y,a2,a3,a4⟩,⟨b1,b2,b3⟩,⟨c1,c2⟩,d1⟩:=AU L;exact⟨⟨dx,_,e,Li ..⟩,k.cs.c,k.ha,k.hb,k.hc,Y,a2,b1,k.lj,k.lt,k.z⟩
def Fh.same (k:Fh K a H p C I J L O rw hs js ts B mark st wt)(s:Ah H D):Fh K a D p C I J L O rw hs js ts B mark st wt:=by obtain⟨dx,e⟩:=k.ins;exact⟨⟨dx,s _ _ e⟩,k.cs,s _ _ k.ha,s _ _ k.hb,s _ _ k.hc,s _ _ k.gA,s _ _ k.hw,k.ap,k.lj,k.lt,k.ls,k.lw,k.z⟩
def RR(K:UT)(a:An):Sp:=λvs H Q _=>∃(p:ar)(many places:Int)(C dx:ar),vs=[.ref p,.int many,.int places]/\H p=some (.ins C dx [])/\GR K a C/\0<=many/\many<=1000 /\
 ∀H' ra rb rc rs rw,CD [p] H H'->Fh K a H' p C ra rb rc rs rw (U5 many.toNat .aa) (U5 many.toNat false) (U5 many.toNat 0) places 0 (U5 many.toNat 0) (U5 many.toNat 0)->H ra=none->H rb=none->H rc=none->H rs=none->H rw=none->Q .aa H'
def RS(K:UT)(a:An):Sp:=λvs H Q _=>∃(p C ra rb rc rs rw:ar)(hs:List V)(js:List Bool)(ts:List Int)(places mark:Int)(st wt:List Int),vs=[.ref p]/\Fh K a H p C ra rb rc rs rw hs js ts places mark st wt/\∀l,H l=none->Q (.ref l) (upd H l (.lst (wt.map V.int)))
def RT(K:UT)(a:An):Sp:=λvs H Q _=>∃(p C ra rb rc rs rw:ar)(hs:List V)(js:List Bool)(ts:List Int)(places mark:Int)(st wt:List Int)(place:Int),vs=[.ref p,.int place]/\Fh K a H p C ra rb rc rs rw hs js ts places mark st wt/\0<=mark/\mark<=hs.length/\0<places /\
 match Cw hs js mark with
 |none=>∀H',Ah H H'->Q .aa H'
 |some k=>∀H' t,CD [p,ra,rc,rs,rw] H H'->H t=none->H' t=some (.tup [.int k,.int ((place-st.getD k.toNat 0)%places)]) ->
   Fh K a H' p C ra rb rc rs rw (hs.set k.toNat (.int place)) js (ts.set k.toNat (ts.getD k.toNat 0+1)) places ((k+1)%hs.length) (st.set k.toNat place) (wt.set k.toNat (wt.getD k.toNat 0+(place-st.getD k.toNat 0)%places))->Q (.ref t) H'
structure TxtK(K:UT)(mg:aU->Option af)(a:An):Prop extends TxtS K mg a where
 aaQ:mg "Switches"=some (.ref a.hV)
def RV:AM ["self"] ["self"] (Ab<|Al (top 24) 3):=.of
def AeF:Gm (Ab<|Al (top 24) 3) "list":=.of
def AeG(F:AE K "steps" "Seekers.steps" (Al (top 24) 3) f fd)(T:TxtK K mg a):Az P w K mg base Av 1 f fd ["self"] (RS K a):=by
 refine F.ok RV.fs λI A outer s H vs Q E J h=>?_
 .obtain ⟨p,C,L,O,V,Y,rw,hs,js,ts,B,mark,st,wt,rfl,k,q⟩:=h;obtain⟨dx,e⟩:=k.ins;refine⟨_,(@Ai _ _ _<|AB (CO (FH rfl) AeF T.cR E9<|Ag (AD (Aa 0 RV) rfl))),?_⟩;try dsimp only[av,aw]
  show AL p C dx _ _ rfl e k.cs.c.cls k.cs.w rfl ?_;ext;exact U6<|Bb _ _ rfl (.inl<|.of k.hw) (λl D=>q l D)
def FK:AM ["self","many","places"] ["self","many","places"] (Ab<|Al (top 24) 0):=.of
def AeH:Gm (Ab<|Al (top 24) 0) "Switches":=.of
def AeI (F:AE K "__init__" "Seekers.__init__" (Al (top 24) 0) f fd)(T:TxtK K mg a)(aaR:Rb K a.hV fi "__init__")(aaS:Az P w K mg base Av 1 fi ot ["self","many"] (Lg K a))(aaT:DI K ot ["self","many"] []):
  Az P w K mg base Av 2 f fd ["self","many","places"] (RR K a):=by
 refine F.ok FK.fs λai A outer s H vs Q E hr h=>?_
 .obtain ⟨p,D,B,C,dx,rfl,hp,cs,h0,h1,q⟩:=h;refine⟨_,(@Ad _ _ _ _ _ (A4<|Ada aaR AeH T.aaQ aaS aaT hr.d AK (AJ (Aa 0 FK)<|Aa 1 FK))<|Ad (BM (Aa 0 FK) (Aa 2 FK) rfl) (Ad (BM (Aa 0 FK) (Ar Ce (CV<|Ag Aj)<|Aa 1 FK) rfl)<|Ad (BM (Aa 0 FK) (Ar Ce (CV<|Ag Aj)<|Aa 1 FK) rfl) (Ai<|BM (Aa 0 FK) Aj rfl))),?_⟩;try dsimp only[av,aw]
  show Be p D C dx rfl hp cs.c h0 (by omega) (λH1 J L O x0 hZ fa fb fc ha hb hc ab ac bc=>?_);show Be p C dx _ rfl hZ cs.c.cls cs.p (by change 3<1000;decide) ?_;generalize hP:upd H1 p (.ins C dx<|A7 "places" (.int B) (Hs J L O))=Y;have p0:Y p=some (.ins C dx<|[("held_by",.ref J),("jammed",.ref L),("taken",.ref O),("places",.int B)]):=hP▸Ao;have ou:CD [p] H1 Y:=λb o hb e=>by rwa[<-hP,Aw<|(by simpa using hb)]
  show⟨Am,λl1 jx=>?_⟩;show U4 (U4<|BO l1 D [.int 0] rfl ⟨rfl,Ao,by omega,by omega,(by rw[Wa,U0];omega),λI cg=>?_⟩);rw[FJ];generalize nY:upd Y l1 (.lst [.int 0])=jy at cg ⊢;have jz:Ah Y jy:=nY▸(Ah.refl Y).upd jx;generalize jA:upd jy I (.lst<|U5 D.toNat (V.int 0))=gv;have jB:Ah Y gv:=jA▸jz.upd cg;have e1:gv I=some (.lst<|U5 D.toNat (V.int 0)):=jA▸Ao;have f1:Y I=none:=jz.free cg;show Be p C dx ([("held_by",.ref J),("jammed",.ref L),("taken",.ref O),("places",.int B)]) rfl (jB _ _ p0) cs.c.cls cs.s (by change 4<1000;decide) ?_;generalize dO:upd gv p (.ins C dx<|A7 "stands" (.ref I) ([("held_by",.ref J),("jammed",.ref L),("taken",.ref O),("places",.int B)]))=bC;have p1:bC p=some (.ins C dx<|[("held_by",.ref J),("jammed",.ref L),("taken",.ref O),("places",.int B),("stands",.ref I)]):=dO▸Ao;have x1:CD [p] Y bC:=λb o hb e=>by rw[<-dO,Aw<|(by simpa using hb)];exact jB b o e
  have eQ:I≠p:=λz=>by rw[z,p0]at f1;cases f1
  have c1:bC I=some (.lst<|U5 D.toNat (V.int 0)):=by rwa[<-dO,Aw eQ]
  show⟨Am,λl3 gw=>?_⟩;show U4 (U4<|BO l3 D [.int 0] rfl ⟨rfl,Ao,by omega,by omega,(by rw[Wa,U0];omega),λl4 eR=>?_⟩);rw[FJ];generalize nZ:upd bC l3 (.lst [.int 0])=jC at eR ⊢;have jD:Ah bC jC:=nZ▸(Ah.refl bC).upd gw;generalize jE:upd jC l4 (.lst<|U5 D.toNat (V.int 0))=gx;have jF:Ah bC gx:=jE▸jD.upd eR;have e2:gx l4=some (.lst<|U5 D.toNat (V.int 0)):=jE▸Ao;have f2:bC l4=none:=jD.free eR;show Be p C dx ([("held_by",.ref J),("jammed",.ref L),("taken",.ref O),("places",.int B),("stands",.ref I)]) rfl (jF _ _ p1) cs.c.cls cs.w (by change 5<1000;decide) ?_;generalize dP:upd gx p (.ins C dx<|A7 "went" (.ref l4) ([("held_by",.ref J),("jammed",.ref L),("taken",.ref O),("places",.int B),("stands",.ref I)]))=bW;have p2:bW p=some (.ins C dx<|[("held_by",.ref J),("jammed",.ref L),("taken",.ref O),("places",.int B),("stands",.ref I),("went",.ref l4)]):=dP▸Ao;have x2:CD [p] bC bW:=λb o hb e=>by rw[<-dP,Aw<|(by simpa using hb)];exact jF b o e
  have eT:l4≠p:=λz=>by rw[z,p1]at f2;cases f2
  have c2:bW l4=some (.lst<|U5 D.toNat (V.int 0)):=by rwa[<-dP,Aw eT]
  show Be p C dx _ rfl p2 cs.c.cls cs.m (by change 6<1000;decide) ?_;have one:∀{b:ar},b≠p->b ∉ [p]:=λh z=>h (by simpa using z);have npa:J≠p:=λz=>by rw[z,hp]at fa;cases fa
  have npb:L≠p:=λz=>by rw[z,hp]at fb;cases fb
  have npc:O≠p:=λz=>by rw[z,hp]at fc;cases fc
  have up:CD [p] bW (upd bW p<|.ins C dx (A7 "mark_at" (.int 0)<|[("held_by",.ref J),("jammed",.ref L),("taken",.ref O),("places",.int B),("stands",.ref I),("went",.ref l4)])):=λb o hb e=>by rwa[Aw<|(by simpa using hb)]
  have t1:∀{b o},b≠p->H1 b=some o->(upd bW p<|.ins C dx (A7 "mark_at" (.int 0)<|[("held_by",.ref J),("jammed",.ref L),("taken",.ref O),("places",.int B),("stands",.ref I),("went",.ref l4)])) b=some o:=λh e=>up _ _ (one h)<|x2 _ _ (one h) (x1 _ _ (one h)<|ou _ _ (one h) e);have back:∀{b},b≠p->Y b=none->H1 b=none:=λ{b} h e=>by
   cases z:H1 b with
   |none=>rfl
   |some o=>rw[ou _ _ (one h) z]at e;cases e
  have sI:∀{b},b≠p->H1 b=none->H b=none:=λ{b} h e=>by
   cases z:H b with
   |none=>rfl
   |some o=>rw[x0 _ _ (one h) z]at e;cases e
  have aaU:∀{b},b≠p->bC b=none->Y b=none:=λ{b} h e=>by
   cases z:Y b with
   |none=>rfl
   |some o=>rw[x1 _ _ (one h) z]at e;cases e
  have g2:=back eQ f1;have g4:=back eT<|aaU eT f2;have z2:∀{b o},H1 b=some o->b≠I:=λe=>Cn e g2;have z4:∀{b o},H1 b=some o->b≠l4:=λe=>Cn e g4;refine q _ J L O I l4 (λb o hb e=>up _ _ hb<|x2 _ _ hb (x1 _ _ hb<|ou _ _ hb (x0 _ _ hb e))) ⟨⟨dx,Ao⟩,cs,t1 npa ha,t1 npb hb,t1 npc hc,?_,?_,?_,by rw[VY,VY],by rw[VY,VY],by rw[VY,VY],by rw[VY,VY],by rw[VY];omega⟩ fa fb fc (sI eQ g2)<|sI eT g4
  .rw[Y6];exact up _ _ (one eQ)<|x2 _ _ (one eQ) c1
  .rw[Y6];exact up _ _ (one eT) c2
  .simp only[Vr,Vc,VC,or_false,not_or,not_false_eq_true,WO,and_true];exact⟨⟨ab,ac,z2 ha,z4 ha⟩,⟨bc,z2 hb,z4 hb⟩,⟨z2 hc,z4 hc⟩,Cn c1 f2⟩
def Lj{H:Hp}{a b:ar}{o:HO}(h:H b≠none):upd H a o b≠none:=by
 by_cases e:b=a
 .subst e;rw[Ao];simp
 .rwa[Aw e]
def Cr:AM ["self","place","k","steps"] ["self","place"] (Ab<|Al (top 24) 1):=.of
def AeJ:Gm (Ab<|Al (top 24) 1) "len":=.of
def AeK(F:AE K "take" "Seekers.take" (Al (top 24) 1) f fd)(T:TxtK K mg a)(ox:∀C∈a.bw,AR P w K mg base Av 1 C "first_free" ["self","start"]<|Nq K a)(h8:∀C∈a.bw,AR P w K mg base Av 1 C "hold" ["self","k","who"]<|Np K a) :
  Az P w K mg base Av 2 f fd ["self","place"] (RT K a):=by
 refine F.ok Cr.fs λai A outer s H vs Q E hr h=>?_
 .obtain ⟨p,C,I,rb,J,O,rw,hs,js,ts,B,mark,st,wt,place,rfl,k,h0,h1,aN,q⟩:=h;obtain⟨dx,hp⟩:=k.ins;have nd:=Cr.fs.nd;have oy:=ox C k.cs.c.mem;have oA:=h8 C k.cs.c.mem;have cls:=k.cs.c.cls;have hz:=k.z;have ls:=k.ls;have lw:=k.lw;have lt:=k.lt;have F3:=Li I rb J B O rw mark;refine⟨_,(@Ad _ _ _ _ _ (A8 2 Cr<|A6 oy cls (Aa 0 Cr) hr.d AK (Ag<|AD (Aa 0 Cr) rfl))<|Ad (AV (A1 Gw (Aa 2 Cr) Cv)<|Ai (AB Cv)) (Ad (A8 3 Cr<|Ar BC (Ar DZ (Aa 1 Cr)<|AN AO (AD (Aa 0 Cr) rfl) (Aa 2 Cr) (λ_ _=>rfl)) (AD (Aa 0 Cr) rfl))<|Ad (El (Aa 1 Cr)<|Fw (AD (Aa 0 Cr) rfl) (Aa 2 Cr) D0) (Ad (Jd (AD (Aa 0 Cr) rfl) (Aa 2 Cr) JA (Aa 3 Cr) Je D0)<|Ad (A4<|A6 oA cls (Aa 0 Cr) hr.d AK (AJ (Aa 2 Cr)<|Aa 1 Cr)) (Ad (BM (Aa 0 Cr) (Ar BC (Ar BL (Aa 2 Cr) Aj)<|Bo B8 AeJ T.aR B0 (Ag<|AD (Aa 0 Cr) rfl)) rfl)<|Ai (AB<|Fx (AJ (Aa 2 Cr)<|Aa 3 Cr)))))),?_⟩;try dsimp only[av,aw]
  show EF hp (F3.m _<|(by decide)) ?_;show AL p C dx _ _ rfl hp cls k.cs.m rfl ?_;show GB p mark C I rb J hs js ts rfl ⟨k.r,h0,h1,λH1 s1=>?_⟩;cases hf:Cw hs js mark with
  |none =>
   rw [hf]at q;ext;exact q H1 s1
  |some D =>
   rw [hf]at q;obtain⟨⟨k0,k1⟩,_⟩:=GQ h0 h1 hf;have Y:=k.same s1;have hZ:=s1 _ _ hp;have ap:=k.ap;simp only[Vr,Vc,VC,or_false,not_or,not_false_eq_true,WO,and_true]at ap;obtain⟨⟨a1,a2,a3,a4⟩,⟨b1,b2,b3⟩,⟨c1,c2⟩,d1⟩:=AU ap;have L:∀{b xs},H b=some (.lst xs)->p≠b:=λh=>Kl hp h (by intro z;cases z);show AL p C dx _ _ rfl hZ cls k.cs.s rfl ?_;show U6 (Cq (.of Y.gA) (Ih k0<|(by omega)) ?_);show AL p C dx _ _ rfl hZ cls k.cs.p rfl ?_;show AL p C dx _ _ rfl hZ cls k.cs.s rfl ?_;show Cq Y.gA (Hq k0<|by rw[UW];omega) ?_;rw[show(st.map V.int).set D.toNat (.int place)=(st.set D.toNat place).map V.int from(V0 ..).symm];generalize oB:upd H1 O (.lst<|(st.set D.toNat place).map V.int)=H2;have x2:∀{b o},b≠O->H1 b=some o->H2 b=some o:=λh e=>by rw[<-oB,Aw h];exact e
   have e2:H2 O=some (.lst<|(st.set D.toNat place).map V.int):=oB▸Ao;have dJ:=x2 (L k.gA) hZ;show AL p C dx _ _ rfl dJ cls k.cs.w rfl ?_;show Be rw _ D _ rfl rfl k0 (.of<|x2 (Vy d1) Y.hw) (Ih k0<|(by omega)) ?_;show Cq (x2 (Vy d1) Y.hw) (Hq k0<|by rw[UW];omega) ?_;rw[show(wt.map V.int).set D.toNat (.int<|wt.getD D.toNat 0+(place-st.getD D.toNat 0)%B)=(wt.set D.toNat<|wt.getD D.toNat 0+(place-st.getD D.toNat 0)%B).map V.int from(V0 ..).symm];generalize jG:upd H2 rw (.lst<|(wt.set D.toNat<|wt.getD D.toNat 0+(place-st.getD D.toNat 0)%B).map V.int)=H3;have x3:∀{b o},b≠rw->H2 b=some o->H3 b=some o:=λh e=>by rw[<-jG,Aw h];exact e
   have e3:H3 rw=some (.lst<|(wt.set D.toNat<|wt.getD D.toNat 0+(place-st.getD D.toNat 0)%B).map V.int):=jG▸Ao;have oC:=x3 (L k.hw) dJ;have y3:∀{b o},b≠O->b≠rw->H1 b=some o->H3 b=some o:=λh h' e=>x3 h'<|x2 h e;have R3:C8 K a H3 p C I rb J hs js ts:=⟨⟨dx,_,oC,F3⟩,k.cs.c,y3 a3 a4 Y.ha,y3 b2 b3 Y.hb,y3 c1 c2 Y.hc,a1,a2,b1,k.lj,k.lt,k.z⟩;show EF oC (F3.m _<|(by decide)) ?_;show⟨p,D,.int place,C,I,rb,J,hs,js,ts,rfl,R3,k0,k1,?_⟩;generalize kO:upd (upd H3 I<|.lst (hs.set D.toNat<|.int place)) J (.lst<|(ts.set D.toNat<|ts.getD D.toNat 0+1).map V.int)=H4;have x4:∀{b o},b≠I->b≠J->H3 b=some o->H4 b=some o:=λh h' e=>by rw[<-kO,Aw h',Aw h];exact e
   have e4a:H4 I=some (.lst<|hs.set D.toNat (.int place)):=by rw[<-kO,Aw a2,Ao]
   have e4c:H4 J=some (.lst<|(ts.set D.toNat<|ts.getD D.toNat 0+1).map V.int):=kO▸Ao;have sJ:=x4 (L k.ha) (L k.hc) oC;have sM:=x4 (Vy a3) (Vy c1)<|x3 d1 e2;have e4w:=x4 (Vy a4) (Vy c2) e3;show AL p C dx _ _ rfl sJ cls k.cs.s rfl ?_;show U4 (Bb _ _ rfl (.inl<|.of sM) ?_);rw[UW,Vm,ls];show Be p C dx _ rfl sJ cls k.cs.m (by change 7<1000;decide) ?_;show⟨Am,λt nt=>?_⟩;have v5:∀{b o},b≠p->H4 b=some o->(upd (upd H4 p<|.ins C dx (Hu I rb J B O rw ((D+1)%hs.length))) t<|.tup [.int D,.int<|(place-st.getD D.toNat 0)%B]) b=some o:=λ{b o} h e=>by
    have e':(upd H4 p<|.ins C dx (Hu I rb J B O rw ((D+1)%hs.length))) b=some o:=by rw[Aw h];exact e
    rw [Aw<|Cn e' nt];exact e'
   have kP:p≠t:=Cn (show(upd H4 p<|.ins C dx (Hu I rb J B O rw ((D+1)%hs.length))) p=some _ from Ao) nt;refine q _ t (λb o hb e=>?_) ?_ Ao ⟨⟨dx,by rw[Aw kP];exact Ao⟩,k.cs,v5 (L k.ha).symm e4a,v5 (L k.hb).symm<|x4 (Vy a1) b1 (y3 b2 b3 Y.hb),v5 (L k.hc).symm e4c,v5 (L k.gA).symm sM,v5 (L k.hw).symm e4w,k.ap,
    by rw[Vm];exact k.lj,by rw[Vm,Vm];exact k.lt,by rw[Vm,Vm];exact k.ls,by rw[Vm,Vm];exact k.lw,by rw[Vm];exact k.z⟩
   .simp only[Vc,VC,or_false,not_or]at hb;obtain⟨n1,n2,n3,n4,n5⟩:=AU hb;exact v5 n1<|x4 n2 n3 (y3 n4 n5<|s1 _ _ e)
   .cases z:H t with
    |none=>rfl
    |some o =>
     have e1:=s1 _ _ z;exfalso
     have e4':H4 t≠none:=kO▸Lj (Lj<|jG▸Lj (oB▸Lj (by rw[e1];simp)));rw[Aw kP.symm]at nt;exact e4' nt
abbrev Ax:=List (ar×HO)
structure At(H:Hp)(C:Ax):Prop where
 at_:∀c∈C,H c.1=some c.2
 nd:(C.map (·.1)).Nodup
noncomputable def JM:HO->Bool
 |.tup _=>true
 |.bT _ _=>true
 |_=>false
structure Af(H H':Hp):Prop where
 f:∀b o,JM o=true->H b=some o->H' b=some o
section
variable {H H' ia:Hp}{C C' P M M' R:Ax}{a b:ar}{o o' u:HO}{ws:List ar}{α:Type}{l:List α}{f:α->Ax}{i:Nat}{x y:α}
def Af.of(s:Ah H H'):Af H H':=⟨λb o _ e=>s _ _ e⟩
def Af.refl:Af H H:=⟨λ_ _ _ e=>e⟩
def Af.trans(s:Af H H')(t:Af H' ia):Af H ia:=⟨λb o i e=>t.f _ _ i<|s.f _ _ i e⟩
def Af.t (s:Af H H')(e:H b=some (.tup ys)):H' b=some (.tup ys):=s.f _ _ rfl e
def Af.sq (s:Af H H')(h:Bn K H a xs):Bn K H' a xs:=by
 rcases h with (h|⟨o,h⟩)|h
 .exact .inl (.inl<|s.f _ _ rfl h)
 .exact .inl (.inr ⟨o,s.f _ _ rfl h⟩)
 .exact .inr h
mutual
noncomputable def Cs:PyData->Bool
 |.list _=>false
 |.dict _=>false
 |.tuple ds=>bK ds
 |_=>true
noncomputable def bK:List PyData->Bool
 |[]=>true
 |d::ds=>Cs d && bK ds
end
mutual
theorem Is.aj{K:UT}:∀(d:PyData){x:V},Cs d=true->Is K H x d->Af H H'->Is K H' x d
 |.none,_,_,r,_=>by cases r;exact .aa
 |.bool _,_,_,r,_=>by cases r;exact .bl _
 |.int _,_,_,r,_=>by cases r;exact .int _
 |.str _,_,_,r,_=>by cases r;exact .str _
 |.list ds,_,n,r,e=>by cases n
 |.tuple ds,_,n,r,e=>by cases r with|tup B D=>exact .tup (e.sq B) (aQ.aj ds n D e)
 |.dict _,_,_,r,_=>nomatch r
theorem aQ.aj{K:UT}:∀(ds:List PyData){xs:List V},bK ds=true->aQ K H xs ds->Af H H'->aQ K H' xs ds
 |[],_,_,r,_=>by cases r;exact .nil
 |d::ds,_,n,r,e=>by
  have n:(Cs d && bK ds)=true:=n;rw[WC]at n;cases r with|cons B D=>exact .cons (Is.aj d n.1 B e) (aQ.aj ds n.2 D e)
end
def At.same(t:At H C)(s:Ah H H'):At H' C:=⟨λc m=>s _ _<|t.at_ c m,t.nd⟩
def At.perm(t:At H C)(p:C'.Perm C):At H C':=⟨λc m=>t.at_ c<|p.mem_iff.mp m,(p.map _).nodup_iff.mpr t.nd⟩
def At.swap(t:At H (P++(M++R))):At H (M++(P++R)):=t.perm<|by rw[<-Vj,<-Vj];exact zm R List.perm_append_comm
def At.get(t:At H C)(m:(a,o)∈C):H a=some o:=t.at_ _ m
def At.hd(t:At H ((a,o)::C)):H a=some o:=t.at_ _ VJ
def At.tl(t:At H ((a,o)::C)):At H C:=⟨λc m=>t.at_ c<|Vw _ m,(Vr.mp t.nd).2⟩
def At.right(t:At H (P++R)):At H R:=⟨λc m=>t.at_ c<|V2 _ m,by have:=t.nd;rw[Vg]at this;exact(WN.mp this).2.1⟩
def At.left(t:At H (P++R)):At H P:=⟨λc m=>t.at_ c<|Yt _ m,by have:=t.nd;rw[Vg]at this;exact(WN.mp this).1⟩
def At.free(t:At H C)(n:H b=none):b ∉ C.map (·.1):=λm=>by
 obtain⟨c,mc,rfl⟩:=Au<|Ve.mp m;rw[t.at_ c mc]at n;cases n
def At.new(t:At H C)(n:H b=none):At (upd H b u) ((b,u)::C):=by
 refine⟨λc m=>?_,Vr.mpr ⟨t.free n,t.nd⟩⟩;rcases Vc.mp m with rfl|m
 .exact Ao
 .rw[Aw λz=>t.free n<|Ve.mpr ⟨c,m,z⟩];exact t.at_ c m
def At.kQ(t:At H ((a,o)::R)):At (upd H a o') ((a,o')::R):=by
 have B:=Vr.mp t.nd;refine⟨λc m=>?_,t.nd⟩;rcases Vc.mp m with rfl|m
 .exact Ao
 .rw[Aw λz=>B.1<|Ve.mpr ⟨c,m,z⟩];exact t.at_ c<|Vw _ m
def At.front(t:At H (P++(a,o)::R)):At H ((a,o)::(P++R)):=t.perm<|Z1.symm
def At.back(t:At H ((a,o)::(P++R))):At H (P++(a,o)::R):=t.perm Z1
def At.set(t:At H (P++(a,o)::R)):At (upd H a o') (P++(a,o')::R):=t.front.kQ.back
def At.part(t:At H (M++R))(s:CD ws H H')(sub:∀w∈ws,w∈M.map (·.1))(e:M'.map (·.1)=M.map (·.1))(h:∀c∈M',H' c.1=some c.2):At H' (M'++R):=by
 have B:=t.nd;rw[Vg]at B;obtain⟨I,J,D⟩:=AU<|WN.mp B;refine⟨λc m=>?_,by rwa[Vg,e]⟩;rcases Vx.mp m with m|m
 .exact h c m
 .exact s _ _ (λz=>D _ (sub _ z) _ (Ve.mpr ⟨c,m,rfl⟩) rfl) (t.at_ c<|V2 _ m)
def At.aj(t:At H C)(s:CD ws H H')(sub:∀w∈ws,w∈C.map (·.1))(k:∀c∈C,JM c.2=false):Af H H':=⟨λb o i e=>s _ _ (λm=>by
 obtain⟨c,mc,B⟩:=Au<|Ve.mp (sub b m);have h:=t.at_ c mc;rw[B,e]at h;have:=k c mc;rw[<-Vq h,i]at this;cases this) e⟩
def Af.chg(t:H a=some o)(k:JM o=false):Af H (upd H a u):=⟨λb v i e=>by
 rw [Aw λz=>by rw[z,t]at e;rw[<-Vq e,k]at i;cases i];exact e⟩
def Af.new(n:H a=none):Af H (upd H a u):=.of<|(Ah.refl H).upd n
def RW(h:l[i]?=some x):l.flatMap f=(l.take i).flatMap f++(f x++(l.drop<|i+1).flatMap f):=by
 obtain⟨B,ex⟩:=Vz.mp h;conv=>lhs;rw[<-zg i l,List.drop_eq_getElem_cons B,ex]
 rw [w6,List.flatMap_cons]
def AeL(h:i<l.length):(l.set i y).flatMap f=(l.take i).flatMap f++(f y++(l.drop<|i+1).flatMap f):=by rw[RW (l:=l.set i y) (x:=y)<|by rw[X7 h],List.take_set_of_le<|Vb i,List.drop_set_of_lt<|YA i]
def At.pick(t:At H (P++(l.flatMap f++R)))(h:l[i]?=some x):At H (f x++(P++((l.take i).flatMap f++((l.drop<|i+1).flatMap f++R)))):=by rw[RW h,Vj,Vj,<-Vj P]at t;have:=t.swap;rwa[Vj]at this
def At.put(t:At H (f y++(P++((l.take i).flatMap f++((l.drop<|i+1).flatMap f++R)))))(h:i<l.length):At H (P++((l.set i y).flatMap f++R)):=by rw[AeL h,Vj,Vj,<-Vj P];rw[<-Vj P]at t;exact t.swap
end
structure TxtP(K:UT)(mg:aU->Option af)(a:An):Prop extends Txt K mg a where
 aaV:mg "all"=none
 cR:mg "list"=none
 jv:mg "tuple"=none
 kR:mg "sorted"=none
 aaW:mg "set"=none
 aaX:mg "min"=none
 aaY:∃t,mg "SIGNS"=some (VT "0123456789" t)
 aaZ:∃t,mg "LEAST_LONG"=some (V3 2 t)
 aa0:∃t,mg "MOST_LONG"=some (V3 4 t)
 aa1:∃t,mg "MOST_LINES"=some (V3 60 t)
 aa2:∃t,mg "MOST_SEEKERS"=some (V3 60 t)
 aa3:∃t,mg "MOST_GROUPS"=some (V3 40 t)
 aa4:∃t,mg "MOST_SWITCHES"=some (V3 10 t)
 dQ:mg "BadPlan"=some (.ref a.fL)
 eU:Xt K a.fL [.type "ValueError",.type "Exception",.type "BaseException",.type "object"] "ValueError.__new__"=true
noncomputable def JN(c:Nat):Bool:=decide (48<=c) && decide (c<=57)
def RY:JN c=true↔48<=c/\c<=57:=by unfold JN;rw[WC,decide_eq_true_eq,decide_eq_true_eq]
def AeM:∀c:Nat,c<128->Hh ⟨#[c]⟩ "0123456789"=JN c:=(by decide +kernel)
def RZ (h:B6 z):z.cps.all (·<128)=true:=by rw[<-zo,WL];intro c hc;exact cx<|h c hc
def Nw:Sp:=λvs H Q _=>∃z:aU,vs=[.str z]/\B6 z/\z.length<=1000/\∀b H',(b=true↔Cg z)->Ah H H'->Q (.bl b) H'
def R0(a:An):Sp:=λvs H Q E=>∃long bj:Int,vs=[.int long,.int bj]/\(2<=long/\long<=4/\1<=bj/\bj<=60->Q .aa H)/\(¬(2<=long/\long<=4/\1<=bj/\bj<=60)->E (.ref a.fL) none H)
def Nx:AM ["text"] ["text"] (Ab<|top 12):=.of
def AeN:Gm (Ab<|top 12) "all":=.of
noncomputable def Ny:Scope:={ kind:=.function,names:=[(".0",.local),("sign",.local),("SIGNS",.globalImplicit)],isGenerator:=false,isCoroutine:=false,more:=[] }
def R4:Bl Ny (Ab<|top 12) ["sign"] ["text"] [none]:=(Bl.mk' rfl `o `o `o `o rfl<|(by decide +kernel))
def R5:Nm Ny "sign":=.of
def AeO:Gm Ny "SIGNS":=.of
def AeP(F:AE K "are_figures" "are_figures" (top 12) f fd)(T:TxtP K mg a):Az P w K mg base Av 1 f fd ["text"] Nw:=by
 refine F.ok Nx.fs λai A outer s H vs Q E hr h=>?_
 .obtain ⟨z,rfl,O,hl,q⟩:=h;have nd:=Nx.fs.nd;refine⟨_,(@Ai _ _ _<|AB (Bo (Adg rfl) AeN T.aaV Aco<|Ag (Ik rfl R4 (QG<|Aa 0 Nx) (λcl C Y π s₂ H₂=>(Cf 0 R4.nd R5.comp)) (λcl C Y π s₂ H₂=>GH) λcl C Y π s₂ H₂=>(PR (AcN K rfl) (Ap 0 R5.comp) (Iq AeO.comp T.aaY)<|by with_unfolding_all rfl)))),?_⟩;try dsimp only[av,aw]
  show⟨RZ O,λD hD=>?_⟩;have ll:z.cps.toList.length<=1000:=by rwa[<-F4]
  refine AdJ (z:=z) (λi σ B=>∃x,σ=[x]/\Ah H B/\B D=some (.lst<|((z.cps.toList.take i).map JN).map V.bl)) ⟨none,rfl,(Ah.refl H).upd hD,Ao⟩ ?_ ?_
  .intro i c σ B hc J;replace J:=AG J;obtain⟨x,rfl,L,I⟩:=J;have cl:c<128:=O c<|Vh hc;show⟨_,I,?_,_,rfl,L.bq hD,?_⟩
   .rw[UW,UW,Wg,U0];omega
   .have e:V.bl (Hh ⟨#[c]⟩ "0123456789")=V.bl (JN c):=by rw[AeM c cl]
    rw [Ao,WE,hc,Vg,Vg];change some (HO.lst<|_++[V.bl<|Hh ⟨#[c]⟩ "0123456789"])=_;rw[e];rfl
  .intro σ B J;replace J:=AG J;obtain⟨x,rfl,L,I⟩:=J;rw[Wi]at I;refine EG D _ rfl ⟨.of I,q _ B ?_ L⟩;rw[w5,WL];exact⟨λh c hc=>RY.mp<|h c hc,λh c hc=>RY.mpr<|h c hc⟩
def Nz:AM ["long","seekers"] ["long","seekers"] (Ab<|top 37):=.of
def R6:Gm (Ab<|top 37) "within":=.of
def AeQ:Gm (Ab<|top 37) "MOST_SEEKERS":=.of
def R7:Gm (Ab<|top 37) "BadPlan":=.of
def AeR:Gm (Ab<|top 37) "LEAST_LONG":=.of
def AeS:Gm (Ab<|top 37) "MOST_LONG":=.of
def AeT(F:AE K "check_counts" "check_counts" (top 37) f fd)(T:TxtP K mg a)(I:Bt P w K mg base Av 1 "within" ["number","least","most"] Ir):Az P w K mg base (AI P w) 2 f fd ["long","seekers"] (R0 a):=by
 refine F.aS Nz.fs λV A outer s H vs Q E J h=>?_
 .obtain ⟨l,k,rfl,O,L⟩:=h;refine⟨_,(@Ad _ _ _ _ _ (AV (DY<|Dj (A9 I R6 J.d AK<|A0 (Aa 0 Nz) (Ip AeR T.aaZ) (Ip AeS T.aa0)))<|Ai (DN DM R7 rfl T.eU T.dQ<|Ag Ae))<|Ai (AV (DY<|Dj (A9 I R6 J.d AK<|A0 (Aa 1 Nz) Aj (Ip AeQ T.aa2)))<|Ai (DN DM R7 rfl T.eU T.dQ<|Ag Ae))),?_⟩;try dsimp only[av,aw]
  show BO l 2 4 rfl ?_;ext;by_cases B:2<=l/\l<=4
  .rw[cx B.1,cx B.2];apply BQ;show BO k 1 60 rfl ?_;ext;by_cases D:1<=k/\k<=60
   .rw[cx D.1,cx D.2];apply BQ;exact O ⟨B.1,B.2,D.1,D.2⟩
   .have e:(decide (1<=k) && decide (k<=60))=false:=Yn.mpr λz=>D (by simpa using z);rw[e];apply B4;ext;exact⟨Am,L λz=>D z.2.2⟩
  .have e:(decide (2<=l) && decide (l<=4))=false:=Yn.mpr λz=>B (by simpa using z);rw[e];apply B4;ext;exact⟨Am,L λz=>B ⟨z.1,z.2.1⟩⟩
def Ok(z:aU):Prop:=B6 z/\z.length<=20
def NA(long:Int)(zs:List aU):Prop:=(1<=zs.length/\zs.length<=60)/\(∀z∈zs,(z.length:Int)=long/\Cg z)/\zs.Nodup
def R8(a:An)(K:UT):Sp:=λvs H Q E=>∃(long:Int)(p:ar)(zs:List aU),vs=[.int long,.ref p]/\0<=long/\long<=1000/\H p=some (.lst (zs.map V.str))/\(∀z∈zs,Ok z)/\zs.length<2000/\(NA long zs->∀H',Ah H H'->Q .aa H')/\(¬NA long zs->∀H',Ah H H'->E (.ref a.fL) none H')
def JO (h:Ok z):(wq z).length<=1000:=by
 have B:=StrLaws.reprText_len z λc hc=>by have:=h.1 c hc;omega
 have:=h.2;omega
def R9{α:Type}{xs:List α}{i:Nat}{x:α}{R:α->Prop}(h:xs[i]?=some x)(d:∀y∈xs.take i,R y)(hx:R x):∀y∈xs.take (i+1),R y:=by
 rw [WE,h];intro y hy;rcases Vx.mp hy with z|z
 .exact d y z
 .have:y=x:=by simpa using z
  rwa[this]
def EK:AM ["long","lines","number"] ["long","lines"] (Ab<|top 38):=.of
def Ll:Gm (Ab<|top 38) "len":=.of
def AeU:Gm (Ab<|top 38) "set":=.of
def NB:Gm (Ab<|top 38) "BadPlan":=.of
def AeV:Gm (Ab<|top 38) "are_figures":=.of
def AeW:Gm (Ab<|top 38) "within":=.of
def AeX:Gm (Ab<|top 38) "MOST_LINES":=.of
def AeY(F:AE K "check_lines" "check_lines" (top 38) f fd)(T:TxtP K mg a)(bQ:Bt P w K mg base Av 1 "within" ["number","least","most"] Ir)(ic:Bt P w K mg base Av 1 "are_figures" ["text"] Nw) :
  Az P w K mg base (AI P w) 2 f fd ["long","lines"] (R8 a K):=by
 refine F.aS EK.fs λai A outer s H vs Q E hr h=>?_
 .obtain ⟨long,p,zs,rfl,l0,l1,Y,ok,aD,q1,q2⟩:=h;show 4;have nd:=EK.fs.nd;refine⟨_,(@Ad _ _ _ _ _ (AV (DY<|Dj (A9 bQ AeW hr.d AK<|A0 (Bo B8 Ll T.aR B0<|Ag (Aa 1 EK)) Aj (Ip AeX T.aa1)))<|Ai (DN DM NB rfl T.eU T.dQ<|Ag Ae))<|Ad (CM xa rfl (Dk<|Aa 1 EK) (B9 2 EK)<|Ai (AV (PW.pt<|I0 (A1 (E8 hu) (Bo B8 Ll T.aR B0<|Ag (Aa 2 EK))<|Aa 0 EK) (IZ<|DY (Dj<|A9 ic AeV hr.d AK (Ag<|Aa 2 EK))))<|Ai (DN DM NB rfl T.eU T.dQ<|Ag (Hg<|C3 (Jr<|Aa 2 EK) (C3 Ae<|C3 (JB<|Aa 0 EK) (C3 Ae G9)))))) (Ai<|AV (A1 (E8 hu) (Bo (Rt (w:=w) rfl) Ll T.aR B0<|Ag (CO (Adz (w:=w) rfl rfl) AeU T.aaW Acl<|Ag (Aa 1 EK)))<|Bo B8 Ll T.aR B0 (Ag<|Aa 1 EK)) (Ai<|DN DM NB rfl T.eU T.dQ (Ag Ae)))),?_⟩;try dsimp only[av,aw]
  show U4 (Bb _ _ rfl (.inl<|.of Y) ?_);rw[UW];show BO _ 1 60 rfl ?_;ext;by_cases h1:1<=zs.length/\zs.length<=60
  .have e1:(decide (1<=(zs.length:Int)) && decide ((zs.length:Int)<=60))=true:=by simp;omega
   rw [e1];apply BQ;show⟨⟨_,.of Y⟩,D8 (K:=K) (a:=p) (xs:=zs.map V.str) (λi σ L=>∃x,σ=[some<|.int long,some<|.ref p,x]/\Ah H L/\∀z∈zs.take i,(z.length:Int)=long/\Cg z) ⟨none,rfl,Ah.refl H,λz hz=>absurd hz<|(by simp)⟩ (λi σ L _ ⟨_,_,J,_⟩=>.of<|J _ _ Y) ?_ ?_⟩
   .intro i y σ L hi zq;replace zq:=AG zq;obtain⟨x,rfl,J,dn⟩:=zq;rw[Va]at hi;cases hk:zs[i]? with
    |none=>rw[hk]at hi;cases hi
    |some z =>
     rw [hk]at hi;cases hi;have hz:=ok z<|Vh hk;have zl:z.length<=20:=hz.2;show U6 (D5 z rfl (by rw[U0];omega) ?_);ext;have B:VD.length=0:=rfl;have D:(U3 " is no number of ").length=17:=(by decide +kernel)
     have I:(U3 " figures").length=8:=(by decide +kernel)
     have dR:=JO hz;by_cases he:(z.length:Int)=long
     .rw[cx<|congrArg V.int he];apply BQ;show⟨hz.1,by omega,λb H3 hb O=>?_⟩;ext;cases b with
      |true =>
       apply BQ;exact⟨_,rfl,J.trans O,R9 hk dn ⟨he,hb.mp rfl⟩⟩
      |false =>
       apply B4;show 7;show 7;show 7;show U6 (C5 _ rfl ⟨l0,l1,λu oE=>?_⟩);show 7;show 7;refine⟨(by simp only[Bh,B,D,I,U0];omega),?_⟩;exact⟨Am,q2 (λk=>by have:=hb.mpr (k.2.1 z<|Vh hk).2;cases this) H3<|J.trans O⟩
     .rw[cN λk=>he<|V.int.inj k];apply B4;show 7;show 7;show 7;show U6 (C5 _ rfl ⟨l0,l1,λu oE=>?_⟩);show 7;show 7;refine⟨(by simp only[Bh,B,D,I,U0];omega),?_⟩;exact⟨Am,q2 (λk=>he (k.2.1 z<|Vh hk).1) L J⟩
   .intro σ L zq;replace zq:=AG zq;obtain⟨x,rfl,J,dn⟩:=zq;rw[UW,Wi]at dn;show CN p zs rfl (.of<|J _ _ Y) aD (λl hl=>?_);have O:Ah H (upd L l<|DO w l zs):=J.upd hl;refine Bb l zs rfl Ao λn hn=>?_;show U4 (Bb _ _ rfl (.inl<|.of (O _ _ Y)) ?_);rw[UW];ext;by_cases hd:zs.Nodup
    .rw[cx<|congrArg (λk:Nat=>V.int k) (hn.mpr hd)];apply BQ;exact q1 ⟨h1,dn,hd⟩ _ O
    .have ne:¬(V.int n=V.int zs.length):=λk=>hd<|hn.mp (by have:=V.int.inj k;omega);rw[cN ne];apply B4;ext;exact⟨Am,q2 (λk=>hd k.2.2) _ O⟩
  .have e1:(decide (1<=(zs.length:Int)) && decide ((zs.length:Int)<=60))=false:=Yn.mpr λz=>h1 (by simp at z;omega);rw[e1];apply B4;ext;exact⟨Am,q2 (λz=>h1 z.1) H<|Ah.refl H⟩
def NC(long:Int)(ts:List Pr):Prop:=ts.length<=40/\(∀t∈ts,(1<=(t.2.1.length:Int)/\(t.2.1.length:Int)<=long-2)/\Cg t.2.1/\0<=t.2.2/\t.2.2<=10)/\(ts.map (·.2.1)).Nodup
def Sa(a:An):Sp:=λvs H Q E=>∃(long:Int)(p:ar)(ts:List Pr),vs=[.int long,.ref p]/\0<=long/\long<=1000/\H p=some (.lst (ts.map Bw))/\C7 H ts/\(∀t∈ts,Ok t.2.1)/\ts.length<2000/\(NC long ts->∀H',Ah H H'->Q .aa H')/\(¬NC long ts->∀H',Ah H H'->E (.ref a.fL) none H')
def Ed:AM ["long","groups","prefix","many"] ["long","groups"] (Ab<|top 39):=.of
def Lm:Gm (Ab<|top 39) "len":=.of
def Lp:Gm (Ab<|top 39) "BadPlan":=.of
def Sb:Gm (Ab<|top 39) "within":=.of
def AeZ:Gm (Ab<|top 39) "MOST_SWITCHES":=.of
def Ae0:Gm (Ab<|top 39) "are_figures":=.of
def Ae1:Gm (Ab<|top 39) "MOST_GROUPS":=.of
noncomputable def ND:Scope:={ kind:=.function,names:=[(".0",.local),("prefix",.local),("many",.local)],isGenerator:=false,isCoroutine:=false,more:=[] }
def NF:Bl ND (Ab<|top 39) ["prefix","many"] ["long","groups","prefix","many"] [none,none]:=(Bl.mk' rfl `o `o `o `o rfl<|(by decide +kernel))
def Sd:Nm ND "prefix":=.of
def Ae2:Nm ND "many":=.of
def Ae3(F:AE K "check_groups" "check_groups" (top 39) f fd)(T:TxtP K mg a)(bQ:Bt P w K mg base Av 1 "within" ["number","least","most"] Ir)(ic:Bt P w K mg base Av 1 "are_figures" ["text"] Nw) :
  Az P w K mg base (AI P w) 2 f fd ["long","groups"] (Sa a):=by
 refine F.aS Ed.fs λai A outer s H vs Q E hr h=>?_
 .obtain ⟨long,p,ts,rfl,l0,l1,hp,lay,ok,aD,q1,q2⟩:=h;show 4;have nd:=Ed.fs.nd;refine⟨_,(@Ad _ _ _ _ _ (AV (A1 Jl (Bo B8 Lm T.aR B0<|Ag (Aa 1 Ed))<|Ip Ae1 T.aa3)<|Ai (DN DM Lp rfl T.eU T.dQ<|Ag Ae))<|Ad (CM xa rfl (Dk<|Aa 1 Ed) (FZ rfl<|BW (B9 2 Ed) (BW (B9 3 Ed) D7))<|Ad (AV (PW.pt<|I0 (DY<|Dj (A9 bQ Sb hr.d AK<|A0 (Bo B8 Lm T.aR B0<|Ag (Aa 2 Ed)) Aj (Ar DZ (Aa 0 Ed) Aj))) (IZ<|DY (Dj<|A9 ic Ae0 hr.d AK (Ag<|Aa 2 Ed))))<|Ai (DN DM Lp rfl T.eU T.dQ<|Ag (Hg<|C3 (Jr<|Aa 2 Ed) (C3 Ae<|C3 (JB<|Aa 0 Ed) (C3 Ae G9))))) (Ai<|AV (DY<|Dj (A9 bQ Sb hr.d AK<|A0 (Aa 3 Ed) Aj (Ip AeZ T.aa4))) (Ai<|DN DM Lp rfl T.eU T.dQ (Ag Ae)))) (Ai<|AV (A1 (E8 hu) (Bo (Rt (w:=w) rfl) Lm T.aR B0<|Ag (AdG (w:=w) rfl rfl NF (Dk<|Aa 1 Ed) (λcl C fp π s₂ H₂=>(Im (X:=Bu _ _ _ cl C fp π s₂ H₂) K rfl 2 rfl (BW (Cf 0 NF.nd Sd.comp)<|BW (Cf 1 NF.nd Ae2.comp) D7) rfl rfl)) (λcl C fp π s₂ H₂=>GH) λcl C fp π s₂ H₂=>(Ap 0 Sd.comp)))<|Bo B8 Lm T.aR B0 (Ag<|Aa 1 Ed)) (Ai<|DN DM Lp rfl T.eU T.dQ (Ag Ae)))),?_⟩;try dsimp only[av,aw]
  show U4 (Bb _ _ rfl (.inl<|.of hp) ?_);rw[UW];ext;by_cases h1:(ts.length:Int) > 40
  .refine DL (cx h1) ?_;ext;exact⟨Am,q2 (λz=>by have:=z.1;omega) H<|Ah.refl H⟩
  apply D4 (cN h1);show⟨⟨_,.of hp⟩,D8 (K:=K) (a:=p) (xs:=ts.map Bw) (λi σ Y=>∃x y,σ=[some<|.int long,some<|.ref p,x,y]/\Ah H Y/\∀t∈ts.take i,(1<=(t.2.1.length:Int)/\(t.2.1.length:Int)<=long-2)/\Cg t.2.1/\0<=t.2.2/\t.2.2<=10) ⟨none,none,rfl,Ah.refl H,λz hz=>absurd hz<|(by simp)⟩ (λi σ Y _ ⟨_,_,_,B,_⟩=>.of<|B _ _ hp) ?_ ?_⟩
  .intro i y σ Y O zq;replace zq:=BB zq;obtain⟨x,y',rfl,B,dn⟩:=zq;rw[Va]at O;cases hk:ts[i]? with
   |none=>rw[hk]at O;cases O
   |some t =>
    rw [hk]at O;cases O;have tm:=Vh hk;have hz:=ok t tm;have zl:t.2.1.length<=20:=hz.2;have I:VD.length=0:=rfl;have J:(U3 " is no prefix where numbers have ").length=33:=(by decide +kernel)
    have L:(U3 " figures").length=8:=(by decide +kernel)
    have dR:=JO hz;refine⟨t.1,_,rfl,.of<|B _ _ (lay t tm),rfl,?_⟩;show U6 (D5 _ rfl (by rw[U0];omega) ?_);show BO _ 1 (long-2) rfl ?_;ext;by_cases hw:1<=(t.2.1.length:Int)/\(t.2.1.length:Int)<=long-2
    .rw[cx hw.1,cx hw.2];apply BQ;show⟨hz.1,by omega,λb H3 hb s3=>?_⟩;ext;cases b with
     |true =>
      apply BQ;show BO _ 0 10 rfl ?_;ext;by_cases hm:0<=t.2.2/\t.2.2<=10
      .rw[cx hm.1,cx hm.2];apply BQ;exact EG _ _ rfl ⟨B.trans s3,R9 hk dn ⟨hw,hb.mp rfl,hm.1,hm.2⟩⟩
      .have e:(decide (0<=t.2.2) && decide (t.2.2<=10))=false:=Yn.mpr λz=>hm (by simpa using z);rw[e];apply B4;ext;exact⟨Am,q2 (λk=>hm (k.2.1 t tm).2.2) H3<|B.trans s3⟩
     |false =>
      apply B4;show 6;show 6;show 6;show U6 (C5 _ rfl ⟨l0,l1,λu oE=>?_⟩);show 6;show 6;refine⟨(by simp only[Bh,I,J,L,U0];omega),?_⟩;exact⟨Am,q2 (λk=>by have:=hb.mpr (k.2.1 t tm).2.1;cases this) H3<|B.trans s3⟩
    .have e:(decide (1<=(t.2.1.length:Int)) && decide ((t.2.1.length:Int)<=long-2))=false:=Yn.mpr λz=>hw (by simpa using z);rw[e];apply B4;show 6;show 6;show 6;show U6 (C5 _ rfl ⟨l0,l1,λu oE=>?_⟩);show 6;show 6;refine⟨(by simp only[Bh,I,J,L,U0];omega),?_⟩;exact⟨Am,q2 (λk=>hw (k.2.1 t tm).1) Y B⟩
  .intro σ Y zq;replace zq:=BB zq;obtain⟨x,y',rfl,B,dn⟩:=zq;rw[UW,Wi]at dn;ext;have dJ:=B _ _ hp;refine⟨⟨_,.of dJ⟩,λD hD=>?_⟩;refine AdK (K:=K) (w:=w) (a:=p) (xs:=ts.map Bw) (λi σ H'=>∃x y,σ=[x,y]/\Ah Y H'/\H' D=some (DO w D ((ts.take i).map (·.2.1)))) ⟨none,none,rfl,(Ah.refl Y).upd hD,Ao⟩ (λi σ H' _ ⟨_,_,_,sm,_⟩=>.of<|sm _ _ (B _ _ hp)) ?_ ?_
   .intro i x σ H' O zq;replace zq:=BB zq;obtain⟨x0,x1,rfl,sm,hL⟩:=zq;rw[Va]at O;cases hk:ts[i]? with
    |none=>rw[hk]at O;cases O
    |some t =>
     rw [hk]at O;cases O;have tm:=Vh hk;refine⟨t.1,_,rfl,.of<|sm _ _ (B _ _<|lay t tm),rfl,?_⟩;show EG _ _ rfl ⟨hL,?_,_,_,rfl,sm.bq hD,?_⟩
     .rw[UW,Wg];omega
     .rw[Ao,WE,hk,Vg];rfl
   .intro σ H' zq;replace zq:=BB zq;obtain⟨x0,x1,rfl,sm,hL⟩:=zq;rw[UW,Wi]at hL;refine Bb D _ rfl hL λn hn=>?_;rw[UW]at hn;ext;have s3:=B.trans sm;refine U4<|Bb _ _ rfl (.inl<|.of (s3 _ _ hp)) ?_;rw[UW];ext;by_cases hd:(ts.map (·.2.1)).Nodup
    .rw[cx<|congrArg (λk:Nat=>V.int k) (hn.mpr hd)];apply BQ;exact q1 ⟨by omega,dn,hd⟩ _ s3
    .have ne:¬(V.int n=V.int ts.length):=λk=>hd<|hn.mp (by have:=V.int.inj k;omega);rw[cN ne];apply B4;ext;exact⟨Am,q2 (λk=>hd k.2.2) _ s3⟩
structure Lq(K:UT)(C:ar):Prop where
 cls:CU K C
 l:BZ K C "long"
 n:BZ K C "lines"
 s:BZ K C "seekers"
 g:BZ K C "groups"
noncomputable def Lr(long:Int)(lt:ar)(bj:Int)(gt:ar):List (aU×V):=[("long",.int long),("lines",.ref lt),("seekers",.int bj),("groups",.ref gt)]
def Hv(long bj:Int)(zs:List aU)(ts:List Pr):Prop:=(2<=long/\long<=4/\1<=bj/\bj<=60)/\NA long zs/\NC long ts
structure Ls(H:Hp)(l g:ar)(zs:List aU)(ts:List Pr):Prop where
 l:H l=some (.lst (zs.map V.str))
 g:H g=some (.lst (ts.map Bw))
 lay:C7 H ts
 sO:∀z∈zs,Ok z
 sP:∀t∈ts,Ok t.2.1
 fl:zs.length<2000
 fg:ts.length<2000
def Ls.same{H B:Hp}{l g:ar}{zs:List aU}{ts:List Pr}(p:Ls H l g zs ts)(s:Ah H B):Ls B l g zs ts:=⟨s _ _ p.l,s _ _ p.g,p.lay.same s,p.sO,p.sP,p.fl,p.fg⟩
def Se(a:An)(K:UT):Sp:=λvs H Q E=>∃(p:ar)(long:Int)(l:ar)(bj:Int)(g C dx:ar)(zs:List aU)(ts:List Pr),vs=[.ref p,.int long,.ref l,.int bj,.ref g]/\H p=some (.ins C dx [])/\Lq K C/\Ls H l g zs ts /\
 (Hv long bj zs ts->∀(H':Hp)(lt gt:ar)(aq:List aU)(aO:List Pr),CD [p] H H'->H' p=some (.ins C dx (Lr long lt bj gt))->H' lt=some (.tup (aq.map V.str))->H' gt=some (.tup (aO.map Bw))->aq.Perm zs->aq.Pairwise C6->aO.Perm ts->aO.Pairwise (λx y=>C6 x.2.1 y.2.1)->Q .aa H') /\
 (¬Hv long bj zs ts->∀H',Ah H H'->E (.ref a.fL) none H')
def DQ:AM ["self","long","lines","seekers","groups"] ["self","long","lines","seekers","groups"] (Ab<|Al (top 36) 0):=.of
def Sf:Gm (Ab<|Al (top 36) 0) "tuple":=.of
def Sg:Gm (Ab<|Al (top 36) 0) "sorted":=.of
def Ae4:Gm (Ab<|Al (top 36) 0) "check_groups":=.of
def Ae5:Gm (Ab<|Al (top 36) 0) "check_lines":=.of
def Ae6:Gm (Ab<|Al (top 36) 0) "check_counts":=.of
def Ae7(F:AE K "__init__" "Plan.__init__" (Al (top 36) 0) f fd)(T:TxtP K mg a)(oF:Bt P w K mg base (AI P w) 2 "check_counts" ["long","seekers"] (R0 a))(oG:Bt P w K mg base (AI P w) 2 "check_lines" ["long","lines"] (R8 a K))(oH:Bt P w K mg base (AI P w) 2 "check_groups" ["long","groups"] (Sa a)) :
  Az P w K mg base (AI P w) 3 f fd ["self","long","lines","seekers","groups"] (Se a K):=by
 refine F.aS DQ.fs λai A outer s H vs Q E hr h=>?_
 .obtain ⟨p,long,l,bj,g,C,dx,zs,ts,rfl,hp,I,pt,q1,q2⟩:=h;show 4;have nd:=DQ.fs.nd;refine⟨_,(@Ad _ _ _ _ _ (A4<|A9 oF Ae6 hr.d BH (AJ (Aa 1 DQ)<|Aa 3 DQ))<|Ad (A4<|A9 oG Ae5 hr.d BH (AJ (Aa 1 DQ)<|Aa 2 DQ)) (Ad (A4<|A9 oH Ae4 hr.d BH (AJ (Aa 1 DQ)<|Aa 4 DQ))<|Ad (BM (Aa 0 DQ) (Aa 1 DQ) rfl) (Ad (BM (Aa 0 DQ) (CO KG Sf T.jv KL<|Ag (Bo Rf Sg T.kR KN<|Ag (Aa 2 DQ))) rfl)<|Ad (BM (Aa 0 DQ) (Aa 3 DQ) rfl) (Ai<|BM (Aa 0 DQ) (CO KG Sf T.jv KL<|Ag (Bo Adm Sg T.kR KN<|Ag (Aa 4 DQ))) rfl)))),?_⟩;try dsimp only[av,aw]
  show⟨λhC=>?_,λhC=>q2 (λz=>hC z.1) H<|Ah.refl H⟩;show BO long l zs rfl ⟨by omega,by omega,pt.l,pt.sO,pt.fl,λhL H1 Y=>?_,λhL H1 Y=>q2 (λz=>hL z.2.1) H1 Y⟩;have sR:=pt.same Y;show BO long g ts rfl ⟨by omega,by omega,sR.g,sR.lay,pt.sP,pt.fg,λhG H2 s2=>?_,λhG H2 s2=>q2 (λz=>hG z.2.2) H2<|Y.trans s2⟩;have oI:=Y.trans s2;have sS:=pt.same oI;have dJ:=oI _ _ hp;show Be p C dx [] rfl dJ I.cls I.l (by change 0<1000;decide) ?_;generalize hA:upd H2 p (.ins C dx<|A7 "long" (.int long) [])=L;have xA:CD [p] H L:=λb o hb e=>by rw[<-hA,Aw<|(by simpa using hb)];exact oI _ _ e
  have pA:L p=some (.ins C dx [("long",.int long)]):=hA▸Ao;have np:∀{b xs},H b=some (.lst xs)->b ∉ [p]:=λh z=>by rw[Vl.mp z,hp]at h;cases h
  have np':∀{b xs},H b=some (.tup xs)->b ∉ [p]:=λh z=>by rw[Vl.mp z,hp]at h;cases h
  ext;have hl:=hL.1.2;refine CN l zs rfl (.of<|xA _ _ (np pt.l) pt.l) (by omega) λl1 B n1 pz so=>?_;have sB:=(Ah.refl L).upd (o:=.lst<|B.map V.str) n1;refine EG l1 (B.map V.str) rfl<|U6 ⟨.of Ao,λlt n2=>?_⟩;have sC:=sB.upd (o:=.tup<|B.map V.str) n2;have eC:(upd (upd L l1<|.lst (B.map V.str)) lt<|.tup (B.map V.str)) lt=some (.tup<|B.map V.str):=Ao;have fC:L lt=none:=sB.free n2;generalize upd (upd L _ _) _ _=HC at sC eC ⊢;show Be p C dx _ rfl (sC _ _ pA) I.cls I.n (by change 1<1000;decide) ?_;generalize hD:upd HC p (.ins C dx<|A7 "lines" (.ref lt) [("long",.int long)])=HD;have oJ:lt≠p:=λz=>by rw[z,pA]at fC;cases fC
  have xD:CD [p] H HD:=λb o hb e=>by rw[<-hD,Aw<|(by simpa using hb)];exact sC _ _<|xA _ _ hb e
  have pD:HD p=some (.ins C dx [("long",.int long),("lines",.ref lt)]):=hD▸Ao;have eD:HD lt=some (.tup<|B.map V.str):=by rwa[<-hD,Aw oJ]
  show Be p C dx _ rfl pD I.cls I.s (by change 2<1000;decide) ?_;generalize hE:upd HD p (.ins C dx<|A7 "seekers" (.int bj) [("long",.int long),("lines",.ref lt)])=J;have xE:CD [p] H J:=λb o hb e=>by rw[<-hE,Aw<|(by simpa using hb)];exact xD _ _ hb e
  have pE:J p=some (.ins C dx [("long",.int long),("lines",.ref lt),("seekers",.int bj)]):=hE▸Ao;have eE:J lt=some (.tup<|B.map V.str):=by rwa[<-hE,Aw oJ]
  ext;have aa5:C7 J ts:=λt m=>xE _ _ (np'<|pt.lay t m)<|pt.lay t m;have hg:=hG.1;refine EG g ts rfl ⟨.of<|xE _ _ (np pt.g) pt.g,aa5,hG.2.2,(by omega),λl3 D n3 pts kT=>?_⟩;have sF:=(Ah.refl J).upd (o:=.lst<|D.map Bw) n3;refine EG l3 (D.map Bw) rfl<|U6 ⟨.of Ao,λO n4=>?_⟩;have sG:=sF.upd (o:=.tup<|D.map Bw) n4;have eG:(upd (upd J l3<|.lst (D.map Bw)) O<|.tup (D.map Bw)) O=some (.tup<|D.map Bw):=Ao;have fG:J O=none:=sF.free n4;generalize upd (upd J _ _) _ _=HG at sG eG ⊢;show Be p C dx _ rfl (sG _ _ pE) I.cls I.g (by change 3<1000;decide) ?_;have ngt:O≠p:=λz=>by rw[z,pE]at fG;cases fG
  refine q1 ⟨hC,hL,hG⟩ _ lt O B D (λb o hb e=>by rw[Aw<|(by simpa using hb)];exact sG _ _<|xE _ _ hb e) Ao ?_ ?_ pz so pts kT
  .rw[Aw oJ];exact sG _ _ eE
  .rwa[Aw ngt]
structure JP(K:UT)(C:ar):Prop where
 cls:CU K C
 nu:BZ K C "number"
 pl:BZ K C "place"
 he:BZ K C "held"
 st:BZ K C "state"
 di:BZ K C "dialled_so_far"
 pu:BZ K C "pulses"
 fa:BZ K C "far_end"
 wh:BZ K C "why"
noncomputable def Ae8(num:aU)(i:Int)(hl:ar):List (aU×V):=[("number",.str num),("place",.int i),("held",.ref hl)]
noncomputable def Cj(num:aU)(i:Int)(hl:ar)(st ae:aU)(ag:Int)(ao why:V):List (aU×V):=[("number",.str num),("place",.int i),("held",.ref hl),("state",.str st),("dialled_so_far",.str ae),("pulses",.int ag),("far_end",ao),("why",why)]
def Iw(a:An):Sp:=λvs H Q _=>∃(p dx:ar)(num:aU)(i:Int)(hl:ar)(bu:aU)(fs:List (aU×V)),vs=[.ref p,.str bu]/\H p=some (.ins a.Line dx fs)/\(fs=Ae8 num i hl\/∃st ae ag ao why,fs=Cj num i hl st ae ag ao why)/\Q .aa (upd H p (.ins a.Line dx (Cj num i hl bu "" 0 .aa .aa)))
def Sh(a:An):Sp:=λvs H Q _=>∃(p dx:ar)(num:aU)(i:Int),vs=[.ref p,.str num,.int i]/\H p=some (.ins a.Line dx [])/\∀l,H l=none->Q .aa (upd (upd H l (.lst [])) p (.ins a.Line dx (Cj num i l "rests" "" 0 .aa .aa)))
def Hw:AM ["self","state"] ["self","state"] (Ab<|Al (top 22) 1):=.of
def Ae9(F:AE K "turn" "Line.turn" (Al (top 22) 1) f fd)(lc:JP K a.Line):Az P w K mg base Av 1 f fd ["self","state"] (Iw a):=by
 refine F.ok Hw.fs λJ A outer s H vs Q E L h=>?_
 .obtain ⟨p,dx,num,i,O,V,fs,rfl,B,D,q⟩:=h;refine⟨_,(@Ad _ _ _ _ _ (BM (Aa 0 Hw) (Aa 1 Hw) rfl)<|Ad (BM (Aa 0 Hw) Ae rfl) (Ad (BM (Aa 0 Hw) Aj rfl)<|Ad (BM (Aa 0 Hw) Cv rfl) (Ai<|BM (Aa 0 Hw) Cv rfl))),?_⟩;try dsimp only[av,aw]
  have I:∀{X},upd H p (.ins a.Line dx X) p=some (.ins a.Line dx X):=Ao;rcases D with rfl|⟨st,ae,ag,ao,why,rfl⟩;all_goals
   show Be p a.Line dx _ rfl B lc.cls lc.st (VL rfl) ?_;show Be p a.Line dx _ rfl Ao lc.cls lc.di (VL rfl) ?_;rw[FX];show Be p a.Line dx _ rfl Ao lc.cls lc.pu (VL rfl) ?_;rw[FX];show Be p a.Line dx _ rfl Ao lc.cls lc.fa (VL rfl) ?_;rw[FX];show Be p a.Line dx _ rfl Ao lc.cls lc.wh (VL rfl) ?_;rwa[FX]
def Hx:AM ["self","number","place"] ["self","number","place"] (Ab<|Al (top 22) 0):=.of
def Afa(F:AE K "__init__" "Line.__init__" (Al (top 22) 0) f fd)(lc:JP K a.Line)(J:AR P w K mg base Av 1 a.Line "turn" ["self","state"] (Iw a)):Az P w K mg base Av 2 f fd ["self","number","place"] (Sh a):=by
 refine F.ok Hx.fs λY A outer s H vs Q E L h=>?_
 .obtain ⟨p,dx,num,i,rfl,O,q⟩:=h;have V:=lc.cls;refine⟨_,(@Ad _ _ _ _ _ (BM (Aa 0 Hx) (Aa 1 Hx) rfl)<|Ad (BM (Aa 0 Hx) (Aa 2 Hx) rfl) (Ad (BM (Aa 0 Hx) (CV B3) rfl)<|Ai (A4<|A6 J V (Aa 0 Hx) L.d AK (Ag Ae)))),?_⟩;try dsimp only[av,aw]
  show Be p a.Line dx _ rfl O lc.cls lc.nu (VL rfl) ?_;show Be p a.Line dx _ rfl Ao lc.cls lc.pl (VL rfl) ?_;rw[FX];show⟨Am,λl B=>?_⟩;have pl:p≠l:=λz=>by rw[<-z,Ao]at B;cases B
  show Be p a.Line dx _ rfl (by rw[Aw pl];exact Ao) lc.cls lc.he (VL rfl) ?_;show AZ p dx _ rfl Ao rfl ?_;show FG p dx num i l ("rests") _ rfl ⟨Ao,.inl rfl,?_⟩;have D:H l=none:=by rw[Aw pl.symm]at B;exact B
  have e:upd (upd (upd (upd H p<|.ins a.Line dx (A7 "place" (.int i)<|A7 "number" (.str num) [])) l<|.lst []) p<|.ins a.Line dx (A7 "held" (.ref l)<|A7 "place" (.int i) (A7 "number" (.str num) []))) p (.ins a.Line dx<|Cj num i l "rests" "" 0 .aa .aa)=upd (upd H l<|.lst []) p (.ins a.Line dx<|Cj num i l "rests" "" 0 .aa .aa):=by
   funext b
   by_cases h:b=p
   .rw[h,Ao,Ao]
   .rw[Aw h,Aw h,Aw h];by_cases I:b=l
    .rw[I,Ao,Ao]
    .rw[Aw I,Aw I,Aw h]
  rw [e];exact q l D
def Eu:AM ["holders","stuck","paper","k","who"] ["holders","stuck"] (Ab<|top 18):=.of
def Afb:Gm (Ab<|top 18) "tuple":=.of
def Afc:Gm (Ab<|top 18) "enumerate":=.of
def Afd(F:AE K "paper_of" "paper_of" (top 18) f fd)(T:TxtS K mg a):Az P w K mg base Av 1 f fd ["holders","stuck"] (Lh K):=by
 refine F.ok Eu.fs λai A outer s H vs Q E hr h=>?_
 .obtain ⟨h,st,hs,D,rfl,hh,aG,hz,q⟩:=h;have nd:=Eu.fs.nd;refine⟨_,(@Ad _ _ _ _ _ (A8 2 Eu<|CV B3)<|Ad (CM VZ rfl (MK Afc T.kI<|Ag (Aa 0 Eu)) (FZ rfl<|BW (B9 3 Eu) (BW (B9 4 Eu) D7))<|Ai (Ja (A1 Mp (Aa 4 Eu) Cv) (Ai<|A4 (Ci VR Wb Wc Dl (Aa 2 Eu)<|Ag (Aa 4 Eu)))<|Ai (A4<|Ci VR Wb Wc Dl (Aa 2 Eu) (Ag<|Pg (Em Ig (Aa 3 Eu) (Aa 1 Eu)<|by with_unfolding_all rfl) Ae Ae)))) (Ai<|AB (CO KG Afb T.jv KL<|Ag (Aa 2 Eu)))),?_⟩;try dsimp only[av,aw]
  show⟨Am,λl hl=>?_⟩;have s1:=(Ah.refl H).upd (o:=.lst []) hl;show EG h hs rfl ⟨.of<|s1 _ _ hh,AcK (K:=K) (a:=h) (xs:=hs) (λi σ J=>∃x y,σ=[some<|.ref h,some<|.ref st,some<|.ref l,x,y]/\Ah H J/\J l=some (.lst<|Cy hs (λk=>decide ((k:Int)∈D)) i)) ⟨none,none,rfl,s1,Ao⟩ (λi σ J _ ⟨_,_,_,L,_⟩=>.of<|L _ _ hh) ?_ ?_⟩
  .rintro i x t σ J hi ⟨x0,x1,rfl,L,hL⟩ O;have eg:hs.getD i .aa=x:=by rw[Vt,hi];rfl
   have kN:i<hs.length:=(Vz.mp hi).1;refine CN t _ rfl (.of Ao) rfl ?_;ext;have Y:=((Ah.refl J).upd (o:=.tup [.int i,x]) O) l _ hL;have cG:=L.upd (o:=.tup [.int i,x]) O;have B:(Cy hs (λk=>decide ((k:Int)∈D)) i).length=i:=by unfold Cy;rw[UW,Xu]
   by_cases hx:x=.aa
   .rw[cx hx];refine BQ ?_;show⟨.inl ⟨rfl,_,.of Y⟩,?_⟩;show U4 (Eo st (D.map V.int) rfl (.inl<|.of (cG _ _ aG)) rfl (AeC D) ?_);simp only[YH,if_false];rw[AeB];have I:∀v,v=(if (decide ((i:Int)∈D))=true then V.str "stuck" else V.str "free")->Ah H (upd (upd J t<|.tup [.int i,x]) l<|.lst (Cy hs (λk=>decide ((k:Int)∈D)) i++[v]))/\(upd (upd J t<|.tup [.int i,x]) l<|.lst (Cy hs (λk=>decide ((k:Int)∈D)) i++[v])) l=some (.lst<|Cy hs (λk=>decide ((k:Int)∈D)) (i+1)):=λv hv=>by
     refine⟨cG.bq hl,?_⟩;rw[Ao,Nt,eg,bf hx,hv]
    by_cases hk:(i:Int)∈D
    .rw[cx hk]at I ⊢;show B4 ?_;show CZ l _ _ rfl rfl Y (by rw[B,U0];omega) ?_;obtain⟨z1,z2⟩:=I _ rfl;exact EG _ _ rfl ⟨z1,z2⟩
    .rw[cN hk]at I ⊢;show BQ ?_;show CZ l _ _ rfl rfl Y (by rw[B,U0];omega) ?_;obtain⟨z1,z2⟩:=I _ rfl;exact EG _ _ rfl ⟨z1,z2⟩
   .rw[cN hx];refine B4 ?_;show⟨.inl ⟨rfl,_,.of Y⟩,?_⟩;show CZ l _ _ rfl rfl Y (by rw[B,U0];omega) ?_;refine Bb _ _ rfl (cG.bq hl) ?_;rw[Ao,Nt,eg,ck hx]
  .intro σ J zq;replace zq:=BB zq;obtain⟨x0,x1,rfl,L,hL⟩:=zq;show EG l _ rfl (.inl ⟨.of hL,λt O=>?_⟩);exact q _ t (L.upd O) (L.free O) Ao
def Si (h:∀k,k<n->B k=s2 k):Cy hs B n=Cy hs s2 n:=by unfold Cy;refine Wq λk hk=>?_;rw[h k<|We.mp hk]
def Sj(K:UT)(a:An):Sp:=λvs H Q _=>∃(p:ar)(bP:aU)(C ra rb rc:ar)(hs:List V)(js:List Bool)(ts:List Int),vs=[.ref p,.str bP]/\C8 K a H p C ra rb rc hs js ts /\
 match Cw hs js 0 with
 |none=>∀H',Ah H H'->Q .aa H'
 |some k=>∀H',CD [ra,rc] H H'->H' ra=some (.lst (hs.set k.toNat (.str bP)))->H' rc=some (.lst ((ts.set k.toNat (ts.getD k.toNat 0+1)).map V.int))->Q (.int k) H'
def Sl(K:UT)(a:An):Sp:=λvs H Q _=>∃(p C ra rb rc:ar)(hs:List V)(js:List Bool)(ts:List Int),vs=[.ref p]/\C8 K a H p C ra rb rc hs js ts /\
 ∀H' t,Ah H H'->H t=none->H' t=some (.tup (Cy hs (λk=>js.getD k false) hs.length))->Q (.ref t) H'
def F7:AM ["self","who","k"] ["self","who"] (Ab<|Al (top 20) 0):=.of
def Afe(F:AE K "take" "Group.take" (Al (top 20) 0) f fd)(T:TxtS K mg a)(V:∀C∈a.bw,AR P w K mg base Av 1 C "first_free" ["self","start"]<|Nq K a)(Y:∀C∈a.bw,AR P w K mg base Av 1 C "hold" ["self","k","who"]<|Np K a) :
  Az P w K mg base Av 2 f fd ["self","who"] (Sj K a):=by
 refine F.ok F7.fs λai A outer s H vs Q E D h=>?_
 .obtain ⟨p,bP,C,I,J,L,hs,js,ts,rfl,R,q⟩:=h;obtain⟨dx,fs,hp,F3⟩:=Bz R.ins;have nd:=F7.fs.nd;have oy:=V C R.c.mem;have oA:=Y C R.c.mem;have cls:=R.c.cls;refine⟨_,(@Ad _ _ _ _ _ (A8 2 F7<|A6 oy cls (Aa 0 F7) D.d AK (Ag Aj))<|Ad (AV (A1 Mp (Aa 2 F7) Cv)<|Ai (A4<|A6 oA cls (Aa 0 F7) D.d AK (AJ (Aa 2 F7)<|Aa 1 F7))) (Ai<|AB (Aa 2 F7))),?_⟩;try dsimp only[av,aw]
  show EF hp (F3.m _<|(by decide)) ?_;show GB p 0 C I J L hs js ts rfl ⟨R,by decide,by omega,λH1 B=>?_⟩;cases hf:Cw hs js 0 with
  |none =>
   rw [hf]at q;ext;exact q H1 B
  |some k =>
   rw [hf]at q;obtain⟨⟨k0,k1⟩,_⟩:=GQ `x (by omega) hf;have O:=R.same B;obtain⟨dx',fA,b7,kM⟩:=Bz O.ins;show EF b7 (kM.m _<|(by decide)) ?_;show⟨p,k,.str bP,C,I,J,L,hs,js,ts,rfl,O,k0,k1,?_⟩;show q _ (λb o hb e=>?_) ?_ Ao
   .rw[Aw λz=>hb<|by simp[z],Aw λz=>hb<|by simp[z]];exact B b o e
   .rw[Aw R.ac,Ao]
def NG:AM ["self"] ["self"] (Ab<|Al (top 20) 1):=.of
def Afg:Gm (Ab<|Al (top 20) 1) "paper_of":=.of
def Afh(F:AE K "paper" "Group.paper" (Al (top 20) 1) f fd)(T:TxtS K mg a)(ie:∀C∈a.bw,AR P w K mg base Av 1 C "holders" ["self"]<|Nn K a)(ig:∀C∈a.bw,AR P w K mg base Av 1 C "stuck" ["self"]<|Nr K a)(ik:Bt P w K mg base Av 1 "paper_of" ["holders","stuck"] (Lh K)):Az P w K mg base Av 2 f fd ["self"] (Sl K a):=by
 refine F.ok NG.fs λai A outer s H vs Q E I h=>?_
 .obtain ⟨p,C,O,V,Y,hs,js,ts,rfl,R,q⟩:=h;obtain⟨dx,fs,hp,F3⟩:=Bz R.ins;have J:=ie C R.c.mem;have L:=ig C R.c.mem;have cls:=R.c.cls;have hj:=R.lj;refine⟨_,(@Ai _ _ _<|AB (A9 ik Afg I.d AK<|AJ (GK J cls (Aa 0 NG) I.d AK) (GK L cls (Aa 0 NG) I.d AK))),?_⟩;try dsimp only[av,aw]
  show EF hp (F3.m _<|(by decide)) ?_;refine EX p C O V Y hs js ts rfl ⟨R,λl hl=>?_⟩;have B:=(Ah.refl H).upd (o:=.lst hs) hl;show EF (B _ _ hp) (F3.m _<|(by decide)) ?_;refine EX p C O V Y hs js ts rfl ⟨R.same B,λH2 r D sT h2=>?_⟩;show Bx l r hs (Fg js js.length) rfl (D _ _ Ao) h2 R.z (λH3 t s3 ht h3=>?_);apply q H3 t ((B.trans D).trans s3) ((B.trans D).free ht);rw[h3,Si (s2:=λk=>js.getD k false) λk hk=>RP<|(by omega)]
structure Ln where
 (num st ae:aU) (ag:Int) (ao:Option aU) (why:PyData) (held:List (aU×Int))
structure Gr where
 (pre:aU) (hs:List V) (js:List Bool) (ts:List Int)
structure Sk where
 (hs:List V) (js:List Bool) (ts:List Int) (places mark:Int) (st wt:List Int)
structure LX where
 (p dx h:ar) (i:Nat) (wv:V) (hv:List ar) (l:Ln)
structure RX where
 (p dx ra rb rc:ar) (g:Gr)
structure SX where
 (p dx ra rb rc rs rw:ar) (k:Sk)
structure HX where
 (h dx ld sd qa da:ar) (long:Int) (lines:List LX) (groups:List RX) (sk:SX) (q:List aU) (dn:List V)
structure PS where
 (long:Int) (lns:List Ln) (az:List Gr) (sk:Sk) (q:List aU) (dn:List V)
noncomputable def HX.S(X:HX):PS:=⟨X.long,X.lines.map (·.l),X.groups.map (·.g),X.sk.k,X.q,X.dn⟩
noncomputable def DR:Option aU->V
 |none=>.aa
 |some z=>.str z
noncomputable def Hy(long:Int)(ld sd qa da:ar):List (aU×V):=[("long",.int long),("lines",.ref ld),("switches",.ref sd),("queue",.ref qa),("done",.ref da)]
noncomputable def LX.fs(x:LX):List (aU×V):=Cj x.l.num x.i x.h x.l.st x.l.ae x.l.ag (DR x.l.ao) x.wv
noncomputable def Ct(a:An)(x:LX):Ax:=[(x.p,.ins a.Line x.dx x.fs),(x.h,.lst (x.hv.map V.ref))]
noncomputable def BU(a:An)(x:RX):Ax:=[(x.p,.ins a.aT x.dx (Hs x.ra x.rb x.rc)),(x.ra,.lst x.g.hs),(x.rb,.lst (x.g.js.map V.bl)),(x.rc,.lst (x.g.ts.map V.int))]
noncomputable def Ca(a:An)(x:SX):Ax:=[(x.p,.ins a.bh x.dx (Hu x.ra x.rb x.rc x.k.places x.rs x.rw x.k.mark)),(x.ra,.lst x.k.hs),(x.rb,.lst (x.k.js.map V.bl)),(x.rc,.lst (x.k.ts.map V.int)),(x.rs,.lst (x.k.st.map V.int)),(x.rw,.lst (x.k.wt.map V.int))]
noncomputable def HX.gB(X:HX):List (Ay×V):=X.lines.map λx=>(.inr x.l.num,.ref x.p)
noncomputable def HX.cj(X:HX):List (Ay×V):=X.groups.map (λx=>(.inr x.g.pre,.ref x.p))++[(.inr "",.ref X.sk.p)]
noncomputable def HX.top(a:An)(X:HX):Ax:=[(X.h,.ins a.ak X.dx (Hy X.long X.ld X.sd X.qa X.da)),(X.ld,.dK X.gB),(X.sd,.dK X.cj),(X.qa,.lst (X.q.map V.str)),(X.da,.lst X.dn)]
noncomputable def A5(a:An)(X:HX)(R:Ax):Ax:=X.top a++(Ca a X.sk++(X.groups.flatMap (BU a)++(X.lines.flatMap (Ct a)++R)))
structure Afi(K:UT)(C:ar):Prop where
 cls:CU K C
 lo:BZ K C "long"
 li:BZ K C "lines"
 sw:BZ K C "switches"
 qu:BZ K C "queue"
 dn:BZ K C "done"
def CF(H:Hp):List ar->List (aU×Int)->Prop
 |[],[]=>True
 |x::xs,p::ps=>H x=some (.tup [.str p.1,.int p.2])/\CF H xs ps
 |_,_=>False
theorem CF.aj (s:Af H B):∀{xs:List ar}{ps:List (aU×Int)},CF H xs ps->CF B xs ps
 |[],[],_=>trivial
 |[],_::_,h=>h
 |_::_,[],h=>h
 |_::_,_::_,h=>⟨s.t h.1,CF.aj s h.2⟩
structure JQ(K:UT)(H:Hp)(j:Nat)(x:LX):Prop where
 i:x.i=j
 pr:CF H x.hv x.l.held
 w:Is K H x.wv x.l.why
 wt:Cs x.l.why=true
 aD:x.l.held.length<=10
theorem FL{α β:Type}{f:α->β}:∀{l:List α}{i:Nat}{x y:α},l[i]?=some x->f y=f x->(l.set i y).map f=l.map f
 |[],i,x,y,h,_=>by simp at h
 |z::l,0,x,y,h,e=>by
  have h:z=x:=by simpa using h
  subst h;exact congrArg (·::l.map f) e
 |z::l,i+1,x,y,h,e=>congrArg (f z::·) (FL (l:=l) (i:=i) (by simpa using h) e)
section
variable {K:UT}{a:An}{H H':Hp}{X:HX}{R:Ax}{i:Nat}{x y:LX}{g g':RX}
def At.aA(t:At H (A5 a X R)):H X.h=some (.ins a.ak X.dx<|Hy X.long X.ld X.sd X.qa X.da):=t.get<|by simp[A5,HX.top]
def At.ld(t:At H (A5 a X R)):H X.ld=some (.dK X.gB):=t.get<|by simp[A5,HX.top]
def At.sd(t:At H (A5 a X R)):H X.sd=some (.dK X.cj):=t.get<|by simp[A5,HX.top]
def At.q(t:At H (A5 a X R)):H X.qa=some (.lst<|X.q.map V.str):=t.get<|by simp[A5,HX.top]
def At.dn(t:At H (A5 a X R)):H X.da=some (.lst X.dn):=t.get<|by simp[A5,HX.top]
def At.rest(t:At H (A5 a X R)):At H R:=t.right.right.right.right
def At.aa8 (t:At H (A5 a X R))(n:H b=none):At (upd H b u) (A5 a X ((b,u)::R)):=by have:=(t.new (u:=u) n);unfold A5 at this ⊢;rw[<-Vj,<-Vj,<-Vj]at this ⊢;exact this.back
def At.dU (t:At H (A5 a X R)):At (upd H X.qa<|.lst (B.map V.str)) (A5 a { X with q:=B } R):=At.set (P:=[_,_,_]) t
def At.oK (t:At H (A5 a X R)):At (upd H X.da<|.lst d') (A5 a { X with dn:=d' } R):=At.set (P:=[_,_,_,_]) t
def At.jH(t:At H (A5 a X R))(h:X.lines[i]?=some x):At H (Ct a x++((X.top a++(Ca a X.sk++X.groups.flatMap (BU a)))++((X.lines.take i).flatMap (Ct a)++((X.lines.drop<|i+1).flatMap (Ct a)++R)))):=by refine At.pick (P:=X.top a++(Ca a X.sk++X.groups.flatMap (BU a))) ?_ h;rwa[Vj,Vj]
def At.oM(e:y.p=x.p)(n:y.l.num=x.l.num)(h:X.lines[i]?=some x)(t:At H (Ct a y++((X.top a++(Ca a X.sk++X.groups.flatMap (BU a)))++((X.lines.take i).flatMap (Ct a)++((X.lines.drop<|i+1).flatMap (Ct a)++R))))):At H (A5 a { X with lines:=X.lines.set i y } R):=by have t:=At.put (P:=X.top a++(Ca a X.sk++X.groups.flatMap (BU a))) t (Vz.mp h).1;have B:({ X with lines:=X.lines.set i y }:HX).gB=X.gB:=FL (f:=λx:LX=>((.inr x.l.num:Ay),V.ref x.p)) h (by rw[e,n]);unfold A5 HX.top at t ⊢;rw[B];rwa[Vj,Vj]at t
def At.ay(t:At H (A5 a X R))(h:X.lines[i]?=some x):H x.p=some (.ins a.Line x.dx x.fs):=(t.jH h).get<|by simp[Ct]
def At.iq(t:At H (A5 a X R))(h:X.lines[i]?=some x):H x.h=some (.lst<|x.hv.map V.ref):=(t.jH h).get<|by simp[Ct]
def At.bF(t:At H (A5 a X R))(h:X.lines[i]?=some x)(ep:y.p=x.p)(B:y.dx=x.dx)(D:y.h=x.h)(I:y.hv=x.hv)(J:y.l.num=x.l.num):At (upd H x.p<|.ins a.Line x.dx y.fs) (A5 a { X with lines:=X.lines.set i y } R):=by apply At.oM ep J h;have:=At.kQ (o':=.ins a.Line x.dx y.fs)<|t.jH h;unfold Ct;rwa[ep,B,D,I]
def At.kU (t:At H (A5 a X R))(h:X.lines[i]?=some x)(ep:y.p=x.p)(B:y.dx=x.dx)(D:y.h=x.h)(I:y.hv=x.hv++[p])(J:y.l.num=x.l.num)(L:y.fs=x.fs):At (upd H x.h<|.lst (x.hv.map V.ref++[V.ref p])) (A5 a { X with lines:=X.lines.set i y } R):=by apply At.oM ep J h;have:=At.set (P:=[_]) (o':=.lst<|x.hv.map V.ref++[V.ref p])<|t.jH h;unfold Ct;rwa[ep,B,D,I,L,Vg]
def At.aa9 (t:At H (A5 a X R))(h:X.lines[i]?=some x)(B:H l=none)(ep:y.p=x.p)(D:y.dx=x.dx)(I:y.h=l)(J:y.hv=[])(L:y.l.num=x.l.num):At (upd (upd H l<|.lst []) x.p<|.ins a.Line x.dx y.fs) (A5 a { X with lines:=X.lines.set i y } R):=by apply At.oM ep L h;have O:=(t.jH h).new (u:=.lst []) B;have Y:=At.set (P:=[_]) (o':=.ins a.Line x.dx y.fs) O;have t3:=At.perm (C':=(x.p,.ins a.Line x.dx y.fs)::(l,.lst [])::(x.h,.lst<|x.hv.map V.ref)::_) Y<|.swap _ _ _;have t4:=(At.front (P:=[_,_]) t3).tl;unfold Ct;rwa[ep,D,I,J]
structure Hz(g:Gr):Prop where
 lj:g.js.length=g.hs.length
 lt:g.ts.length=g.hs.length
 z:g.hs.length<=1000
structure Iy(k:Sk):Prop where
 lj:k.js.length=k.hs.length
 lt:k.ts.length=k.hs.length
 ls:k.st.length=k.hs.length
 lw:k.wt.length=k.hs.length
 z:k.hs.length<=1000
def At.kW(t:At H (A5 a X R))(h:X.groups[i]?=some g):At H (BU a g++((X.top a++Ca a X.sk)++((X.groups.take i).flatMap (BU a)++((X.groups.drop<|i+1).flatMap (BU a)++(X.lines.flatMap (Ct a)++R))))):=by refine At.pick (P:=X.top a++Ca a X.sk) ?_ h;rwa[Vj]
def At.oN(e:g'.p=g.p)(n:g'.g.pre=g.g.pre)(h:X.groups[i]?=some g)(t:At H (BU a g'++((X.top a++Ca a X.sk)++((X.groups.take i).flatMap (BU a)++((X.groups.drop<|i+1).flatMap (BU a)++(X.lines.flatMap (Ct a)++R)))))):At H (A5 a { X with groups:=X.groups.set i g' } R):=by have t:=At.put (P:=X.top a++Ca a X.sk) t (Vz.mp h).1;have B:({ X with groups:=X.groups.set i g' }:HX).cj=X.cj:=congrArg (·++[((.inr "":Ay),V.ref X.sk.p)])<|FL (f:=λx:RX=>((.inr x.g.pre:Ay),V.ref x.p)) h (by rw[e,n]);unfold A5 HX.top at t ⊢;rw[B];rwa[Vj]at t
def Afj(B D I:ar):Fs (Hs B D I) B D I:=by refine⟨rfl,rfl,rfl,λx hx=>?_⟩;simp only[Vc,VC,or_false]at hx;rcases hx with rfl|rfl|rfl|rfl|rfl|rfl|rfl|rfl|rfl|rfl|rfl<;>rfl
def At.ir(t:At H (A5 a X R))(h:X.groups[i]?=some g)(c:F5 K a a.aT)(ok:Hz g.g):C8 K a H g.p a.aT g.ra g.rb g.rc g.g.hs g.g.js g.g.ts:=by have f:=t.kW h;have B:=f.left.nd;simp only[BU,VP,Yk,Vr,Vc,VC,or_false,not_or,not_false_eq_true,WO,and_true]at B;obtain⟨⟨_,_,_⟩,⟨D,I⟩,J⟩:=AU B;exact⟨⟨g.dx,Hs g.ra g.rb g.rc,f.get<|by simp[BU],Afj ..⟩,c,f.get<|by simp[BU],f.get<|by simp[BU],f.get<|by simp[BU],D,I,J,ok.lj,ok.lt,ok.z⟩
def At.setG (t:At H (A5 a X R))(h:X.groups[i]?=some g)(s:CD ws H H')(sub:∀w∈ws,w=g.ra\/w=g.rb\/w=g.rc)(e:g'={ g with g:=g'.g })(n:g'.g.pre=g.g.pre)(I:H' g.ra=some (.lst g'.g.hs))(hb:H' g.rb=some (.lst<|g'.g.js.map V.bl))(hc:H' g.rc=some (.lst<|g'.g.ts.map V.int)):
  At H' (A5 a { X with groups:=X.groups.set i g' } R)/\Af H H':=by
 have f:=t.kW h;have B:=f.left.nd;simp only[BU,VP,Yk,Vr,Vc,VC,or_false,not_or,not_false_eq_true,WO,and_true]at B;obtain⟨⟨J,m2,L⟩,⟨O,Y⟩,n3⟩:=AU B;have D:∀w∈ws,w∈(BU a g).map (·.1):=λw m=>by
  rcases sub w m with z|z|z<;>simp[BU,z]
 refine⟨At.oN (by rw[e]) n h<|f.part s D (by rw[e];rfl) ?_,At.aj f.left s D λc m=>by simp only[BU,Vc,VC,or_false]at m;rcases m with rfl|rfl|rfl|rfl<;>rfl⟩;intro c m;rw[e]at m;simp only[BU,Vc,VC,or_false]at m;rcases m with rfl|rfl|rfl|rfl
 .exact s _ _ (λz=>by rcases sub _ z with z|z|z;exact J z;exact m2 z;exact L z) (f.get<|by simp[BU])
 .exact I
 .exact hb
 .exact hc
def At.kX(t:At H (A5 a X R)):At H (Ca a X.sk++(X.top a++(X.groups.flatMap (BU a)++(X.lines.flatMap (Ct a)++R)))):=At.swap t
def At.jI(t:At H (A5 a X R))(c:GR K a a.bh)(ok:Iy X.sk.k):Fh K a H X.sk.p a.bh X.sk.ra X.sk.rb X.sk.rc X.sk.rs X.sk.rw X.sk.k.hs X.sk.k.js X.sk.k.ts X.sk.k.places X.sk.k.mark X.sk.k.st X.sk.k.wt:=by have f:=t.kX;have B:=f.left.nd;exact⟨⟨X.sk.dx,f.get<|by simp[Ca]⟩,c,f.get<|by simp[Ca],f.get<|by simp[Ca],f.get<|by simp[Ca],f.get<|by simp[Ca],f.get<|by simp[Ca],(Vr.mp B).2,ok.lj,ok.lt,ok.ls,ok.lw,ok.z⟩
def At.jJ (t:At H (A5 a X R))(s:CD ws H H')(sub:∀w∈ws,w∈(Ca a X.sk).map (·.1))(ep:H' X.sk.p=some (.ins a.bh dx'<|Hu X.sk.ra X.sk.rb X.sk.rc k'.places X.sk.rs X.sk.rw k'.mark))(B:H' X.sk.ra=some (.lst k'.hs))(hb:H' X.sk.rb=some (.lst<|k'.js.map V.bl))(hc:H' X.sk.rc=some (.lst<|k'.ts.map V.int))(hd:H' X.sk.rs=some (.lst<|k'.st.map V.int))(D:H' X.sk.rw=some (.lst<|k'.wt.map V.int)):
  At H' (A5 a { X with sk:={ X.sk with k:=k',dx:=dx' } } R)/\Af H H':=by
 have f:=t.kX;refine⟨At.swap<|f.part (M':=Ca a { X.sk with k:=k',dx:=dx' }) s sub rfl ?_,At.aj f.left s sub λc m=>by simp only[Ca,Vc,VC,or_false]at m;rcases m with rfl|rfl|rfl|rfl|rfl|rfl<;>rfl⟩;intro c m;simp only[Ca,Vc,VC,or_false]at m;rcases m with rfl|rfl|rfl|rfl|rfl|rfl
 .exact ep
 .exact B
 .exact hb
 .exact hc
 .exact hd
 .exact D
end
structure AY(K:UT)(H:Hp)(X:HX):Prop where
 num:(X.lines.map (·.l.num)).Nodup
 pre:(X.groups.map (·.g.pre)).Nodup
 ne:∀g∈X.groups,g.g.pre≠U3 ""
 lx:∀(i:Nat)(x:LX),X.lines[i]?=some x->JQ K H i x
 gr:∀g∈X.groups,Hz g.g
 sk:Iy X.sk.k
structure HT(K:UT)(a:An)(H:Hp)(X:HX)(R:Ax):Prop where
 t:At H (A5 a X R)
 ok:AY K H X
section
variable {K:UT}{a:An}{H H':Hp}{X:HX}{R:Ax}{i:Nat}{x y:LX}{g g':RX}
def JQ.aj (l:JQ K H j x)(s:Af H H'):JQ K H' j x:=⟨l.i,l.pr.aj s,Is.aj _ l.wt l.w s,l.wt,l.aD⟩
def AY.aj(k:AY K H X)(s:Af H H'):AY K H' X:=⟨k.num,k.pre,k.ne,λi x h=>(k.lx i x h).aj s,k.gr,k.sk⟩
def HT.same(t:HT K a H X R)(s:Ah H H'):HT K a H' X R:=⟨t.t.same s,t.ok.aj<|.of s⟩
def HT.new (t:HT K a H X R)(n:H b=none):HT K a (upd H b u) X ((b,u)::R):=⟨t.t.aa8 n,t.ok.aj<|.new n⟩
def AY.bF(k:AY K H X)(s:Af H H')(h:X.lines[i]?=some x)(D:y.l.num=x.l.num)(I:JQ K H' i y):AY K H' { X with lines:=X.lines.set i y }:=by
 refine⟨?_,k.pre,k.ne,λj z B=>?_,k.gr,k.sk⟩
 .show ((X.lines.set i y).map (·.l.num)).Nodup;rw[FL (f:=λx:LX=>x.l.num) h D];exact k.num
 .have B:(X.lines.set i y)[j]?=some z:=B;rw[zp]at B;by_cases e:i=j
  .rw[bf e]at B;split at B
   .cases B;rwa[<-e]
   .cases B
  .rw[ck e]at B;exact(k.lx j z B).aj s
def AY.setG(k:AY K H X)(s:Af H H')(h:X.groups[i]?=some g)(B:g'.g.pre=g.g.pre)(D:Hz g'.g):AY K H' { X with groups:=X.groups.set i g' }:=by
 refine⟨k.num,?_,λz m=>?_,λi x h=>(k.lx i x h).aj s,λz m=>?_,k.sk⟩
 .show ((X.groups.set i g').map (·.g.pre)).Nodup;rw[FL (f:=λx:RX=>x.g.pre) h B];exact k.pre
 .rcases xb m with m|rfl
  .exact k.ne z m
  .rw[B];exact k.ne g<|Vh h
 .rcases xb m with m|rfl
  .exact k.gr z m
  .exact D
def AY.jJ (k:AY K H X)(s:Af H H')(ok:Iy B.k):AY K H' { X with sk:=B }:=⟨k.num,k.pre,k.ne,λi x h=>(k.lx i x h).aj s,k.gr,ok⟩
theorem NH{α:Type}{f:α->aU}{v:α->V}:∀{l:List α}{i:Nat}{x:α},(l.map f).Nodup->l[i]?=some x->Ba (l.map λy=>((VI (f y):Ay),v y)) (.inr (f x))=some (v x)
 |[],_,_,_,h=>by simp at h
 |z::l,0,x,_,h=>by
  have e:z=x:=by simpa using h
  subst e;exact F2 rfl
 |z::l,i+1,x,nd,h=>by
  have B:=Vr.mp nd;have D:l[i]?=some x:=by simpa using h
  refine(Fb λe=>?_).trans (NH B.2 D);have I:f z=f x:=Xn e;exact B.1 (by rw[I];exact Ve.mpr ⟨x,Vh D,rfl⟩)
theorem HB{α:Type}{f:α->aU}{v:α->V}{w:aU}:∀{l:List α},w ∉ l.map f->Ba (l.map λy=>((VI (f y):Ay),v y)) (.inr w)=none
 |[],_=>rfl
 |z::l,n=>(Fb λe=>n (by rw[<-(Xn e:f z=w)];exact VJ)).trans (HB λm=>n (Vw _ m))
def AY.line(k:AY K H X)(h:X.lines[i]?=some x):Ba X.gB (.inr x.l.num)=some (.ref x.p):=NH (f:=λx:LX=>x.l.num) (v:=λx=>V.ref x.p) k.num h
def AY.cH (k:AY K H X)(n:z ∉ X.lines.map (·.l.num)):Ba X.gB (.inr z)=none:=HB (f:=λx:LX=>x.l.num) (v:=λx=>V.ref x.p) n
def AY.oO(k:AY K H X):Ba (X.groups.map λx=>((VI x.g.pre:Ay),V.ref x.p)) (.inr<|U3 "")=none:=HB (f:=λx:RX=>x.g.pre) (v:=λx=>V.ref x.p) λm=>by
 obtain⟨g,mg,e⟩:=Au<|Ve.mp m;exact k.ne g mg e
def AY.kY(k:AY K H X):Ba X.cj (.inr<|U3 "")=some (.ref X.sk.p):=by unfold HX.cj;rw[KW _ _ _ _ k.oO,bf rfl]
def AY.oP(k:AY K H X)(h:X.groups[i]?=some g):Ba X.cj (.inr g.g.pre)=some (.ref g.p):=by unfold HX.cj;rw[KW _ _ _ _ k.oO,ck λe=>k.ne g (Vh h)<|Xn e];exact NH (f:=λx:RX=>x.g.pre) (v:=λx=>V.ref x.p) k.pre h
def AY.sW(k:AY K H X){w:aU}(B:w≠U3 "")(n:w ∉ X.groups.map (·.g.pre)):Ba X.cj (.inr w)=none:=by unfold HX.cj;rw[KW _ _ _ _ k.oO,ck λe=>B<|Xn e];exact HB (f:=λx:RX=>x.g.pre) (v:=λx=>V.ref x.p) n
structure TxtH(P:UZ)(w:UU)(K:UT)(mg:aU->Option af)(a:An):Prop extends TxtK K mg a,TxtP K mg a where
 jK:∃t,mg "AT_SEEKERS"=some (VT "" t)
 aba:mg "WAYS"=some (.ref a.gq)
 b8:∃t1 t2 t3 t4,K5 P w K a.gq [(.inr "lift",.ref t1),(.inr "pulse",.ref t2),(.inr "gap",.ref t3),(.inr "hang",.ref t4)]/\(∀H,Bn K H t1 [.str "rests",.str "rung"])/\(∀H,Bn K H t2 [.str "dials"])/\(∀H,Bn K H t3 [.str "dials"])/\∀H,Bn K H t4 [.str "waits",.str "dials",.str "rings",.str "talks",.str "told"]
 sX:mg "NoLine"=some (.ref a.fM)
 abb:Xt K a.fM [.type "ValueError",.type "Exception",.type "BaseException",.type "object"] "ValueError.__new__"=true
 oQ:mg "NotSo"=some (.ref a.hJ)
 sY:Xt K a.hJ [.type "ValueError",.type "Exception",.type "BaseException",.type "object"] "ValueError.__new__"=true
 hc:Afi K a.ak
 lc:JP K a.Line
 sc:GR K a a.bh
 gc:F5 K a a.aT
def HF(K:UT)(a:An):Sp:=λvs H Q E=>∃(X:HX)(R:Ax)(z:aU),vs=[.ref X.h,.str z]/\HT K a H X R/\Ok z /\
 (∀(i:Nat)(x:LX),X.lines[i]?=some x->x.l.num=z->Q (.ref x.p) H)/\(z ∉ X.lines.map (·.l.num)->E (.ref a.fM) none H)
def HH(K:UT)(a:An):Sp:=λvs H Q E=>∃(X:HX)(R:Ax)(z:aU),vs=[.ref X.h,.str z]/\HT K a H X R/\Ok z /\
 (z=U3 ""->Q (.ref X.sk.p) H)/\(∀(i:Nat)(g:RX),X.groups[i]?=some g->g.g.pre=z->Q (.ref g.p) H)/\(z≠U3 ""->z ∉ X.groups.map (·.g.pre)->E (.ref a.cf) none H)
def Sn (h:z∈X.lines.map (·.l.num)):∃(i:Nat)(x:LX),X.lines[i]?=some x/\x.l.num=z:=by obtain⟨x,m,e⟩:=Au<|Ve.mp h;obtain⟨i,B,D⟩:=Xa m;exact⟨i,x,by rw[Vi B,D],e⟩
def JR (h:z∈X.groups.map (·.g.pre)):∃(i:Nat)(x:RX),X.groups[i]?=some x/\x.g.pre=z:=by obtain⟨x,m,e⟩:=Au<|Ve.mp h;obtain⟨i,B,D⟩:=Xa m;exact⟨i,x,by rw[Vi B,D],e⟩
end
def Iz:AM ["self","number"] ["self","number"] (Ab<|Al (top 28) 16):=.of
def Afk:Gm (Ab<|Al (top 28) 16) "NoLine":=.of
def Afl(F:AE K "line_of" "Hall.line_of" (Al (top 28) 16) f fd)(T:TxtH P w K mg a):Az P w K mg base (AI P w) 1 f fd ["self","number"] (HF K a):=by
 refine F.aS Iz.fs λO A outer s H vs Q E V h=>?_
 .obtain ⟨X,R,z,rfl,t,I,J,L⟩:=h;refine⟨_,(@Ad _ _ _ _ _ (AV (Hn P w K (Aa 1 Iz)<|AD (Aa 0 Iz) rfl)<|Ai (DN DM Afk rfl T.abb T.sX<|Ag (Hg<|C3 Ae (C3 (Jr<|Aa 1 Iz) G9))))<|Ai (AB<|Aq P w K (AD (Aa 0 Iz) rfl) (Aa 1 Iz))),?_⟩;try dsimp only[av,aw]
  show AL X.h a.ak X.dx _ _ rfl t.t.aA T.hc.cls T.hc.li rfl ?_;apply AZ X.ld _ (.inr z) rfl rfl (.of t.t.ld);by_cases m:z∈X.lines.map (·.l.num)
  .obtain ⟨i,x,h,rfl⟩:=Sn m;have hv:=t.ok.line h;rw[hv];show AL X.h a.ak X.dx _ _ rfl t.t.aA T.hc.cls T.hc.li rfl ?_;ext;exact⟨X.ld,_,.inr x.l.num,_,rfl,rfl,.of t.t.ld,hv,J i x h rfl⟩
  .rw[t.ok.cH m];have Y:=JO I;have B:VD.length=0:=rfl;have D:(U3 "there is no line ").length=17:=by decide +kernel
   show⟨(by simp only[Bh,B,D,U0];omega),?_⟩;show⟨(by rw[U0];omega),?_⟩;show⟨(by simp only[Bh,B,D,U0];omega),?_⟩;refine⟨(by simp only[Bh,B,D,U0];omega),?_⟩;exact⟨Am,L m⟩
def IA:AM ["self","where"] ["self","where"] (Ab<|Al (top 28) 17):=.of
def Afm:Gm (Ab<|Al (top 28) 17) "NoSwitch":=.of
def Afn(F:AE K "switches_of" "Hall.switches_of" (Al (top 28) 17) f fd)(T:TxtH P w K mg a):Az P w K mg base (AI P w) 1 f fd ["self","where"] (HH K a):=by
 refine F.aS IA.fs λai A outer s H vs Q E hr h=>?_
 .obtain ⟨X,R,z,rfl,t,L,O,V,Y⟩:=h;refine⟨_,(@Ad _ _ _ _ _ (AV (Hn P w K (Aa 1 IA)<|AD (Aa 0 IA) rfl)<|Ai (DN DM Afm rfl T.nW T.kJ<|Ag (Hg<|C3 Ae (C3 (Jr<|Aa 1 IA) G9))))<|Ai (AB<|Aq P w K (AD (Aa 0 IA) rfl) (Aa 1 IA))),?_⟩;try dsimp only[av,aw]
  have D:(∃p,Ba X.cj (.inr z)=some (.ref p)/\Q (.ref p) H)\/(Ba X.cj (.inr z)=none/\E (.ref a.cf) none H):=by
   by_cases B:z=U3 ""
   .exact .inl ⟨_,by rw[B];exact t.ok.kY,O B⟩
   .by_cases m:z∈X.groups.map (·.g.pre)
    .obtain ⟨i,x,h,rfl⟩:=JR m;exact .inl ⟨_,t.ok.oP h,V i x h rfl⟩
    .exact .inr ⟨t.ok.sW B m,Y B m⟩
  show AL X.h a.ak X.dx _ _ rfl t.t.aA T.hc.cls T.hc.sw rfl ?_;apply AZ X.sd _ (.inr z) rfl rfl (.of t.t.sd);rcases D with ⟨p,hv,q⟩|⟨hv,q⟩
  .rw[hv];show AL X.h a.ak X.dx _ _ rfl t.t.aA T.hc.cls T.hc.sw rfl ?_;ext;exact⟨X.sd,_,.inr z,_,rfl,rfl,.of t.t.sd,hv,q⟩
  .rw[hv];have dR:=JO L;have I:VD.length=0:=rfl;have J:(U3 "there is no group ").length=18:=by decide +kernel
   show⟨(by simp only[Bh,I,J,U0];omega),?_⟩;show⟨(by rw[U0];omega),?_⟩;show⟨(by simp only[Bh,I,J,U0];omega),?_⟩;refine⟨(by simp only[Bh,I,J,U0];omega),?_⟩;exact⟨Am,q⟩
def So(a:An):Sp:=λvs H Q _=>∃(x y:LX),vs=[.ref x.p,.ref y.p]/\x.p≠y.p/\H x.p=some (.ins a.Line x.dx x.fs)/\H y.p=some (.ins a.Line y.dx y.fs) /\
 Q .aa (upd (upd H x.p (.ins a.Line x.dx { x with l:={ x.l with st:="rings",ao:=some y.l.num } }.fs)) y.p (.ins a.Line y.dx { y with l:={ y.l with st:="rung",ao:=some x.l.num } }.fs))
def NI(a:An):Sp:=λvs H Q _=>∃(x:LX)(v:V),vs=[.ref x.p,v]/\H x.p=some (.ins a.Line x.dx x.fs) /\
 Q .aa (upd H x.p (.ins a.Line x.dx (Cj x.l.num x.i x.h "told" x.l.ae x.l.ag (DR x.l.ao) v)))
def HI:AM ["self","called"] ["self","called"] (Ab<|Al (top 22) 2):=.of
def Afo(F:AE K "ring" "Line.ring" (Al (top 22) 2) f fd)(lc:JP K a.Line):Az P w K mg base Av 1 f fd ["self","called"] (So a):=by
 refine F.ok HI.fs λI A outer s H vs Q E J h=>?_
 .obtain ⟨x,y,rfl,ne,hx,hy,q⟩:=h;refine⟨_,(@Ad _ _ _ _ _ (BM (Aa 0 HI) Ae rfl)<|Ad (BM (Aa 0 HI) (AD (Aa 1 HI) rfl) rfl) (Ad (BM (Aa 1 HI) Ae rfl)<|Ai (BM (Aa 1 HI) (AD (Aa 0 HI) rfl) rfl))),?_⟩;try dsimp only[av,aw]
  show Be x.p a.Line x.dx _ rfl hx lc.cls lc.st (VL rfl) ?_;have B:(upd H x.p<|.ins a.Line x.dx (A7 "state" (.str "rings") x.fs)) y.p=some (.ins a.Line y.dx y.fs):=by rw[Aw ne.symm];exact hy
  show AL y.p a.Line y.dx _ _ rfl B lc.cls lc.nu rfl ?_;show Be x.p a.Line x.dx _ rfl Ao lc.cls lc.fa (VL rfl) ?_;rw[FX];have D:(upd H x.p<|.ins a.Line x.dx (A7 "far_end" (.str y.l.num)<|A7 "state" (.str "rings") x.fs)) y.p=some (.ins a.Line y.dx y.fs):=by rw[Aw ne.symm];exact hy
  show Be y.p a.Line y.dx _ rfl D lc.cls lc.st (VL rfl) ?_;show AL x.p a.Line x.dx _ _ rfl (by rw[Aw ne];exact Ao) lc.cls lc.nu rfl ?_;show Be y.p a.Line y.dx _ rfl Ao lc.cls lc.fa (VL rfl) ?_;rw[FX];exact q
def Lu:AM ["self","paper"] ["self","paper"] (Ab<|Al (top 22) 3):=.of
def Afp(F:AE K "be_told" "Line.be_told" (Al (top 22) 3) f fd)(lc:JP K a.Line):Az P w K mg base Av 1 f fd ["self","paper"] (NI a):=by
 refine F.ok Lu.fs λB A outer s H vs Q E D h=>?_
 .obtain ⟨x,v,rfl,hx,q⟩:=h;refine⟨_,(@Ad _ _ _ _ _ (BM (Aa 0 Lu) Ae rfl)<|Ai (BM (Aa 0 Lu) (Aa 1 Lu) rfl)),?_⟩;try dsimp only[av,aw]
  show Be x.p a.Line x.dx _ rfl hx lc.cls lc.st (VL rfl) ?_;show Be x.p a.Line x.dx _ rfl Ao lc.cls lc.wh (VL rfl) ?_;rwa[FX]
noncomputable def aC(S:PS)(w:aU)(k:Int):PS :=
 if w=U3 "" then { S with sk:={ S.sk with hs:=S.sk.hs.set k.toNat .aa } }
 else { S with az:=S.az.map λg=>if g.pre=w then { g with hs:=g.hs.set k.toNat .aa } else g }
def Fj(S:PS)(w:aU)(k:Int):Prop :=
 if w=U3 "" then inR k S.sk.hs=true/\S.sk.hs.getD k.toNat .aa≠.aa
 else ∃g∈S.az,g.pre=w/\inR k g.hs=true/\g.hs.getD k.toNat .aa≠.aa
noncomputable def au(S:PS):List (aU×Int)->PS
 |[]=>S
 |t::ts=>au (aC S t.1 t.2) ts
def bA(S:PS):List (aU×Int)->Prop
 |[]=>True
 |t::ts=>Fj S t.1 t.2/\bA (aC S t.1 t.2) ts
theorem NJ(x:aU×Int):∀(ts:List (aU×Int))(S:PS),au S (ts++[x])=aC (au S ts) x.1 x.2
 |[],_=>rfl
 |t::ts,S=>NJ x ts _
theorem NK:∀{ts:List (aU×Int)}{S:PS},bA S ts->∀{j:Nat}{x:aU×Int},ts[j]?=some x->Fj (au S (ts.take j)) x.1 x.2
 |[],_,_,j,x,h=>by simp at h
 |t::ts,S,r,0,x,h=>by
  have e:t=x:=by simpa using h
  subst e;exact r.1
 |t::ts,S,r,j+1,x,h=>NK (S:=aC S t.1 t.2) r.2 (by simpa using h)
theorem F8{α:Type}:∀{l:List α},l.Nodup->∀{i j:Nat}{x y:α},l[i]?=some x->l[j]?=some y->i≠j->x≠y
 |[],_,i,j,x,y,hx,_,_=>by simp at hx
 |z::l,h,0,0,x,y,_,_,ne=>absurd rfl ne
 |z::l,h,0,j+1,x,y,hx,hy,_=>λe=>by
  have hx:z=x:=by simpa using hx
  have hy:l[j]?=some y:=by simpa using hy
  exact(Vr.mp h).1 (by rw[hx,e];exact Vh hy)
 |z::l,h,i+1,0,x,y,hx,hy,_=>λe=>by
  have hy:z=y:=by simpa using hy
  have hx:l[i]?=some x:=by simpa using hx
  exact(Vr.mp h).1 (by rw[hy,<-e];exact Vh hx)
 |z::l,h,i+1,j+1,x,y,hx,hy,ne=>F8 (Vr.mp h).2 (by simpa using hx) (by simpa using hy) (by omega)
theorem Sq{α:Type}{f:α->aU}{h:α->α}:∀{l:List α}{i:Nat}{x:α},(l.map f).Nodup->l[i]?=some x->l.set i (h x)=l.map λy=>if f y=f x then h y else y
 |[],_,_,_,e=>by simp at e
 |z::l,0,x,nd,e=>by
  have e:z=x:=by simpa using e
  subst e;have n:=(Vr.mp nd).1;change h z::l=(if f z=f z then h z else z)::l.map _;rw[bf rfl];refine congrArg (h z::·) ?_;conv=>lhs;rw[<-Zh l]
  exact Wq λy D=>by rw[ck (λq=>n (by rw[<-q];exact Ve.mpr ⟨y,D,rfl⟩))];rfl
 |z::l,i+1,x,nd,e=>by
  have B:=Vr.mp nd;have e:l[i]?=some x:=by simpa using e
  change z::l.set i (h x)=(if f z=f x then h z else z)::l.map _;rw[ck (λq=>B.1 (by rw[q];exact Ve.mpr ⟨x,Vh e,rfl⟩)),Sq B.2 e]
section
variable {K:UT}{a:An}{H H':Hp}{X:HX}{R:Ax}{i:Nat}{x y:LX}{g g':RX}
def HX.oR{g':RX}{h:Gr->Gr}(B:(X.groups.map (·.g.pre)).Nodup)(e:X.groups[i]?=some g)(D:g'.g=h g.g):({ X with groups:=X.groups.set i g' }:HX).S={ X.S with az:=X.S.az.map λy=>if y.pre=g.g.pre then h y else y }:=by
 have I:(X.groups.set i g').map (·.g)=(X.groups.map (·.g)).set i (h g.g):=by rw[V0,D]
 have J:=Sq (f:=λy:Gr=>y.pre) (h:=h) (l:=X.groups.map (·.g)) (i:=i) (x:=g.g) (by rwa[Vn]) (by rw[Va,e];rfl);change(⟨X.long,X.lines.map (·.l),(X.groups.set i g').map (·.g),X.sk.k,X.q,X.dn⟩:PS)=_;rw[I,J];rfl
def HT.sw(t:HT K a H X R)(sc:GR K a a.bh)(J:F5 K a a.aT){w:aU}(m:w=U3 ""\/w∈X.groups.map (·.g.pre)) :
  ∃p C B D L hs js ts,Ba X.cj (.inr w)=some (.ref p)/\C∈a.bw/\(∃dx fs,H p=some (.ins C dx fs)/\Fs fs B D L)/\C8 K a H p C B D L hs js ts /\
   ((w=U3 ""/\X.sk.ra=B/\X.sk.rb=D/\X.sk.k.hs=hs/\X.sk.k.js=js/\X.sk.k.ts=ts)\/∃(i:Nat)(g:RX),X.groups[i]?=some g/\g.g.pre=w/\w≠U3 ""/\g.ra=B/\g.rb=D/\g.g.hs=hs/\g.g.js=js/\g.g.ts=ts):=by
 by_cases I:w=U3 ""
 .have s:=t.t.jI sc t.ok.sk;obtain⟨dx,O⟩:=s.ins;exact⟨_,a.bh,_,_,_,_,_,_,by rw[I];exact t.ok.kY,sc.c.mem,⟨dx,_,O,Li ..⟩,s.r,.inl ⟨I,rfl,rfl,rfl,rfl,rfl⟩⟩
 .have m:=m.resolve_left I;obtain⟨i,g,h,rfl⟩:=Bz<|JR m;have r:=t.t.ir h J<|t.ok.gr g (Vh h);exact⟨_,a.aT,_,_,_,_,_,_,t.ok.oP h,J.mem,r.ins,r,.inr ⟨i,g,h,rfl,I,rfl,rfl,rfl,rfl,rfl⟩⟩
def HT.abc (t:HT K a H X R)(B:hs'.length=X.sk.k.hs.length):HT K a (upd H X.sk.ra<|.lst hs') { X with sk:={ X.sk with k:={ X.sk.k with hs:=hs' } } } R:=by have f:=t.t.kX;have o:=t.ok.sk;refine⟨At.swap<|At.set (P:=[_]) f,t.ok.jJ (.chg (o:=.lst X.sk.k.hs) (f.get<|by simp[Ca]) rfl) ⟨by change _=hs'.length;rw[B];exact o.lj,by change _=hs'.length;rw[B];exact o.lt,by change _=hs'.length;rw[B];exact o.ls,by change _=hs'.length;rw[B];exact o.lw,by change hs'.length<=_;rw[B];exact o.z⟩⟩
def HT.abd (t:HT K a H X R)(B:js'.length=X.sk.k.js.length):HT K a (upd H X.sk.rb<|.lst (js'.map V.bl)) { X with sk:={ X.sk with k:={ X.sk.k with js:=js' } } } R:=by have f:=t.t.kX;have o:=t.ok.sk;refine⟨At.swap<|At.set (P:=[_,_]) f,t.ok.jJ (.chg (o:=.lst<|X.sk.k.js.map V.bl) (f.get<|by simp[Ca]) rfl) ⟨by change js'.length=_;rw[B];exact o.lj,o.lt,o.ls,o.lw,o.z⟩⟩
def HT.abe (t:HT K a H X R)(h:X.groups[i]?=some g)(B:hs'.length=g.g.hs.length):HT K a (upd H g.ra<|.lst hs') { X with groups:=X.groups.set i { g with g:={ g.g with hs:=hs' } } } R:=by have f:=t.t.kW h;have o:=t.ok.gr g<|Vh h;refine⟨At.oN (g:=g) rfl rfl h<|At.set (P:=[_]) f,t.ok.setG (.chg (o:=.lst g.g.hs) (f.get<|by simp[BU]) rfl) h rfl ⟨by change _=hs'.length;rw[B];exact o.lj,by change _=hs'.length;rw[B];exact o.lt,by change hs'.length<=_;rw[B];exact o.z⟩⟩
def HT.abf (t:HT K a H X R)(h:X.groups[i]?=some g)(B:js'.length=g.g.js.length):HT K a (upd H g.rb<|.lst (js'.map V.bl)) { X with groups:=X.groups.set i { g with g:={ g.g with js:=js' } } } R:=by have f:=t.t.kW h;have o:=t.ok.gr g<|Vh h;refine⟨At.oN (g:=g) rfl rfl h<|At.set (P:=[_,_]) f,t.ok.setG (.chg (o:=.lst<|g.g.js.map V.bl) (f.get<|by simp[BU]) rfl) h rfl ⟨by change js'.length=_;rw[B];exact o.lj,o.lt,o.z⟩⟩
structure Wk(H H':Hp)(X X':HX):Prop where
 h:X'.h=X.h
 tp:Af H H'
def HT.frees(t:HT K a H X R)(sc:GR K a a.bh)(gc:F5 K a a.aT){w:aU}{k:Int}(hw:Fj X.S w k) :
  ∃p C D L I hs js ts,Ba X.cj (.inr w)=some (.ref p)/\C∈a.bw/\(∃dx fs,H p=some (.ins C dx fs)/\Fs fs D L I)/\C8 K a H p C D L I hs js ts/\inR k hs=true/\hs.getD k.toNat .aa≠.aa /\
   ∃J:HX,J.S=aC X.S w k/\J.lines=X.lines/\J.h=X.h/\HT K a (upd H D<|.lst (hs.set k.toNat .aa)) J R/\Af H (upd H D<|.lst (hs.set k.toNat .aa)):=by
 have m:w=U3 ""\/w∈X.groups.map (·.g.pre):=by
  unfold Fj at hw;by_cases B:w=U3 ""
  .exact .inl B
  .rw[ck B]at hw;obtain⟨g,mg,e,_⟩:=AG hw;obtain⟨x,O,rfl⟩:=Au<|Ve.mp mg;exact .inr<|Ve.mpr ⟨x,O,e⟩
 obtain⟨p,C,D,L,I,hs,js,ts,e1,e2,e3,r,⟨B,rfl,rfl,rfl,rfl,rfl⟩|⟨i,g,h,rfl,B,rfl,rfl,rfl,rfl,rfl⟩⟩:=t.sw sc gc m
 .unfold Fj at hw;rw[bf B]at hw;refine⟨p,C,_,_,I,_,_,_,e1,e2,e3,r,hw.1,hw.2,{ X with sk:={ X.sk with k:={ X.sk.k with hs:=X.sk.k.hs.set k.toNat .aa } } },?_,rfl,rfl,t.abc (hs':=X.sk.k.hs.set k.toNat .aa)<|by rw[Vm],.chg r.ha rfl⟩;unfold aC;rw[bf B];rfl
 .unfold Fj at hw;rw[ck B]at hw;obtain⟨g2,mg,e,V,Y⟩:=AG hw;obtain⟨x,O,rfl⟩:=Au<|Ve.mp mg;obtain⟨j,hj,ej⟩:=Xa O;have bO:X.groups[j]?=some x:=by rw[Vi hj,ej]
  have eg:x=g:=by
   by_cases ij:i=j
   .subst ij;rw[h]at bO;cases bO;rfl
   .exact absurd e.symm (F8 t.ok.pre (i:=i) (j:=j) (by rw[Va,h];rfl) (by rw[Va,bO];rfl) ij)
  subst eg;refine⟨p,C,_,_,I,_,_,_,e1,e2,e3,r,V,Y,{ X with groups:=X.groups.set i { x with g:={ x.g with hs:=x.g.hs.set k.toNat .aa } } },?_,rfl,rfl,t.abe h (hs':=x.g.hs.set k.toNat .aa)<|by rw[Vm],.chg r.ha rfl⟩;unfold aC;rw[ck B];exact HX.oR (h:=λy=>{ y with hs:=y.hs.set k.toNat .aa }) t.ok.pre h rfl
end
def JS(K:UT)(a:An):Sp:=λvs H Q _=>∃(X:HX)(R:Ax)(i:Nat)(x:LX),vs=[.ref X.h,.ref x.p]/\HT K a H X R/\X.lines[i]?=some x/\bA X.S x.l.held /\
 ∀H' X' y,HT K a H' X' R->X'.h=X.h->X'.S={ au X.S x.l.held with lns:=X.S.lns.set i { x.l with held:=[] } }->X'.lines=X.lines.set i y->y.p=x.p->y.l={ x.l with held:=[] }->Af H H'->Q .aa H'
def Sr(S:PS)(w:aU)(k:Int):(aC S w k).lns=S.lns:=by unfold aC;split<;>rfl
theorem Fm:∀(ts:List (aU×Int))(S:PS),(au S ts).lns=S.lns
 |[],_=>rfl
 |t::ts,S=>(Fm ts _).trans (Sr S t.1 t.2)
theorem CF.at:∀{xs:List ar}{ps:List (aU×Int)},CF H xs ps->∀{j:Nat}{x:ar},xs[j]?=some x->∃p,ps[j]?=some p/\H x=some (.tup [.str p.1,.int p.2])
 |[],[],_,j,x,h=>by simp at h
 |[],_::_,h,_,_,_=>h.elim
 |_::_,[],h,_,_,_=>h.elim
 |y::xs,p::ps,h,0,x,e=>by
  have e:y=x:=by simpa using e
  subst e;exact⟨p,rfl,h.1⟩
 |y::xs,p::ps,h,j+1,x,e=>by
  obtain⟨q,B,D⟩:=CF.at h.2 (by simpa using e);exact⟨q,by simpa using B,D⟩
theorem CF.len:∀{xs:List ar}{ps:List (aU×Int)},CF H xs ps->xs.length=ps.length
 |[],[],_=>rfl
 |[],_::_,h=>h.elim
 |_::_,[],h=>h.elim
 |_::_,_::_,h=>congrArg Nat.succ (CF.len h.2)
def TxtH.cm(T:TxtH P w K mg a):∀C∈a.bw,CU K C:=λC m=>by
 have m:C∈[a.bh,a.aT]:=m;simp only[Vc,VC,or_false]at m;rcases m with rfl|rfl
 .exact T.sc.c.cls
 .exact T.gc.cls
def F9:AM ["self","line","where","k"] ["self","line"] (Ab<|Al (top 28) 14):=.of
def Afq(F:AE K "release" "Hall.release" (Al (top 28) 14) f fd)(T:TxtH P w K mg a)(oS:∀C∈a.bw,AR P w K mg base (AI P w) 3 C "free" ["self","k"]<|RD K a):Az P w K mg base (AI P w) 4 f fd ["self","line"] (JS K a):=by
 refine F.aS F9.fs λai A outer s H vs Q E hr h=>?_
 .obtain ⟨X,R,i,x,rfl,t,h,ha,q⟩:=h;have cm:=T.cm;have nd:=F9.fs.nd;refine⟨_,(@Ad _ _ _ _ _ (CM xa rfl (Dk<|AD (Aa 1 F9) rfl) (FZ rfl<|BW (B9 2 F9) (BW (B9 3 F9) D7))<|Ai (A4<|Nf oS cm (Aq P w K (AD (Aa 0 F9) rfl)<|Aa 2 F9) hr.d BH (Ag<|Aa 3 F9)))<|Ai (BM (Aa 1 F9) (CV B3) rfl)),?_⟩;try dsimp only[av,aw]
  show AL x.p a.Line x.dx _ _ rfl (t.t.ay h) T.lc.cls T.lc.he rfl ?_;refine C5 x.h rfl ⟨⟨_,.of<|t.t.iq h⟩,D8 (K:=K) (a:=x.h) (xs:=x.hv.map V.ref) (λj σ I=>∃u v B,σ=[some<|.ref X.h,some<|.ref x.p,u,v]/\HT K a I B R/\B.S=au X.S (x.l.held.take j)/\B.lines=X.lines/\B.h=X.h/\Af H I) ⟨none,none,X,rfl,t,rfl,rfl,rfl,.refl⟩ (λj σ I _ ⟨_,_,B,_,D,_,e2,_⟩=>.of<|D.t.iq (by rwa[e2])) ?_ ?_⟩
  .intro j v σ I hj zq;replace zq:=Gk zq;obtain⟨u0,v0,B,rfl,D,O,eL,eh,tp⟩:=zq;have L:=(t.ok.lx i x h).aj tp;rw[Va]at hj;obtain⟨pt,hp,rfl⟩:=Au<|VH.mp hj;obtain⟨pr,hk,et⟩:=Au<|L.pr.at hp;have hw:=NK ha hk;rw[<-O]at hw;obtain⟨p,C,ra,rb,rc,hs,js,ts,e1,e2,⟨dx,fs,e3,e4⟩,rk,w1,w2,X3,e5,e6,e7,t3,Y⟩:=D.frees T.sc T.gc hw;have hX:I X.h=some (.ins a.ak B.dx<|Hy B.long B.ld B.sd B.qa B.da):=by rw[<-eh];exact D.t.aA
   show CN pt _ rfl (.of et) rfl ?_;show AL X.h a.ak B.dx _ _ rfl hX T.hc.cls T.hc.sw rfl ?_;show⟨B.sd,_,.inr pr.1,_,rfl,rfl,.of D.t.sd,e1,?_⟩;apply Bx p C dx fs rfl e2 e3 (e4.m _<|(by decide));show⟨p,pr.2,C,ra,rb,rc,hs,js,ts,rfl,rk,?_⟩;rw[bf ⟨w1,w2⟩];ext;have oT:x.l.held.take (j+1)=x.l.held.take j++[pr]:=by rw[WE,hk];rfl
   exact⟨_,_,X3,rfl,t3,by rw[oT,NJ,e5,O],e6.trans eL,e7.trans eh,tp.trans Y⟩
  .intro σ I zq;replace zq:=Gk zq;obtain⟨u0,v0,B,rfl,D,O,eL,eh,tp⟩:=zq;rw[UW,(t.ok.lx i x h).pr.len,Wi]at O;have J:B.lines[i]?=some x:=by rwa[eL]
   show⟨Am,λl nl=>?_⟩;show Be x.p a.Line x.dx _ rfl (by rw[Aw<|Cn (D.t.ay J) nl];exact D.t.ay J) T.lc.cls T.lc.he (VL rfl) ?_;have L:=D.ok.lx i x J;have Y:Af I (upd (upd I l<|.lst []) x.p<|.ins a.Line x.dx { x with h:=l,hv:=[],l:={ x.l with held:=[] } }.fs):=Af.trans (.new nl)<|.chg (o:=.ins a.Line x.dx x.fs) (by rw[Aw<|Cn (D.t.ay J) nl];exact D.t.ay J) rfl;refine q _ { B with lines:=B.lines.set i { x with h:=l,hv:=[],l:={ x.l with held:=[] } } } { x with h:=l,hv:=[],l:={ x.l with held:=[] } } ⟨At.aa9 (y:={ x with h:=l,hv:=[],l:={ x.l with held:=[] } }) D.t J nl rfl rfl rfl rfl rfl,D.ok.bF Y J rfl ⟨L.i,trivial,Is.aj _ L.wt L.w Y,L.wt,(by simp)⟩⟩ eh ?_ (by rw[eL]) rfl rfl<|tp.trans Y;have:({ B with lines:=B.lines.set i { x with h:=l,hv:=[],l:={ x.l with held:=[] } } }:HX).S={ B.S with lns:=B.S.lns.set i { x.l with held:=[] } }:=by change(⟨B.long,(B.lines.set i _).map (·.l),_,_,_,_⟩:PS)=_;rw[V0];rfl
   rw [this,O,Fm]
noncomputable def AW(ln:Ln)(st:aU):Ln:={ ln with st:=st,ae:="",ag:=0,ao:=none,why:=.none }
structure BV(K:UT)(H:Hp)(xs:List ar)(ds:List PyData):Prop where
 i:aQ K H (xs.map V.ref) ds
 t:bK ds=true
theorem Ss:∀{xs ys:List V}{ds es:List PyData},aQ K H xs ds->aQ K H ys es->aQ K H (xs++ys) (ds++es)
 |[],_,_,_,.nil,h=>h
 |_::_,_,_,_,.cons a b,h=>.cons a (Ss b h)
theorem Su:∀{xs:List V}{ds:List PyData},aQ K H xs ds->xs.length=ds.length
 |[],_,.nil=>rfl
 |_::_,_,.cons _ b=>congrArg Nat.succ (Su b)
theorem Sv:∀{ds es:List PyData},bK ds=true->bK es=true->bK (ds++es)=true
 |[],_,_,h=>h
 |d::ds,es,a,h=>by
  have a:(Cs d && bK ds)=true:=a;rw[WC]at a;change(Cs d && bK (ds++es))=true;rw[a.1,Sv a.2 h];rfl
section
variable {K:UT}{a:An}{H H':Hp}{X:HX}{R:Ax}{i:Nat}{x y:LX}{xs ys:List ar}{ds es:List PyData}
def BV.aj(t:BV K H xs ds)(s:Af H H'):BV K H' xs ds:=⟨aQ.aj _ t.t t.i s,t.t⟩
def BV.app(t:BV K H xs ds)(u:BV K H ys es):BV K H (xs++ys) (ds++es):=⟨by rw[Vg];exact Ss t.i u.i,Sv t.t u.t⟩
def BV.nil:BV K H [] []:=⟨.nil,rfl⟩
def BV.one (h:Is K H (.ref b) d)(t:Cs d=true):BV K H [b] [d]:=⟨.cons h .nil,by change(Cs d && true)=true;rw[t];rfl⟩
def BV.len(t:BV K H xs ds):xs.length=ds.length:=by have:=Su t.i;rwa [UW]at this
def HX.iu:({ X with lines:=X.lines.set i y }:HX).S={ X.S with lns:=X.S.lns.set i y.l }:=by change(⟨X.long,(X.lines.set i _).map (·.l),_,_,_,_⟩:PS)=_;rw[V0];rfl
def HT.bF(t:HT K a H X R)(h:X.lines[i]?=some x)(y:LX)(ep:y.p=x.p)(O:y.dx=x.dx)(V:y.h=x.h)(I:y.hv=x.hv)(Y:y.i=x.i)(J:y.l.num=x.l.num)(L:y.l.held=x.l.held)(w:Is K H y.wv y.l.why)(wt:Cs y.l.why=true) :
  HT K a (upd H x.p<|.ins a.Line x.dx y.fs) { X with lines:=X.lines.set i y } R/\Af H (upd H x.p<|.ins a.Line x.dx y.fs):=by
 have B:Af H (upd H x.p<|.ins a.Line x.dx y.fs):=.chg (t.t.ay h) rfl;have D:=t.ok.lx i x h;exact⟨⟨t.t.bF h ep O V I J,t.ok.bF B h J ⟨Y.trans D.i,by rw[I,L];exact D.pr.aj B,Is.aj _ wt w B,wt,by rw[L];exact D.aD⟩⟩,B⟩
def HT.turn(t:HT K a H X R)(h:X.lines[i]?=some x)(st:aU) :
  HT K a (upd H x.p<|.ins a.Line x.dx (Cj x.l.num x.i x.h st "" 0 .aa .aa)) { X with lines:=X.lines.set i { x with wv:=.aa,l:=AW x.l st } } R/\Af H (upd H x.p<|.ins a.Line x.dx (Cj x.l.num x.i x.h st "" 0 .aa .aa)) :=
 t.bF h { x with wv:=.aa,l:=AW x.l st } rfl rfl rfl rfl rfl rfl rfl .aa rfl
def HT.dU(t:HT K a H X R)(B:List aU):HT K a (upd H X.qa<|.lst (B.map V.str)) { X with q:=B } R/\Af H (upd H X.qa<|.lst (B.map V.str)):=by have D:Af H (upd H X.qa<|.lst (B.map V.str)):=.chg t.t.q rfl;exact⟨⟨t.t.dU,⟨t.ok.num,t.ok.pre,t.ok.ne,λi x h=>(t.ok.lx i x h).aj D,t.ok.gr,t.ok.sk⟩⟩,D⟩
def At.kZ (t:At H (A5 a X ((r,o)::R))):At (upd H r o') (A5 a X ((r,o')::R)):=by unfold A5 at t ⊢;rw[<-Vj,<-Vj,<-Vj]at t ⊢;exact t.set
def HT.kZ (t:HT K a H X ((r,o)::R))(k:JM o=false):HT K a (upd H r o') X ((r,o')::R)/\Af H (upd H r o'):=by have B:Af H (upd H r o'):=.chg (t.t.rest.hd) k;exact⟨⟨t.t.kZ,t.ok.aj B⟩,B⟩
theorem HT.at (t:HT K a H X R)(h:X.S.lns[i]?=some ln):∃x,X.lines[i]?=some x/\x.l=ln:=by have h:(X.lines.map (·.l))[i]?=some ln:=h;rw[Va]at h;exact VH.mp h
def B1{α:Type}{l:List α}{i:Nat}{x y:α}(h:l[i]?=some x):(l.set i y)[i]?=some y:=X7 (Vz.mp h).1
end
noncomputable def FN(S:PS)(i:Nat)(ln:Ln):PS:={ S with lns:=S.lns.set i (AW ln "waits"),q:=S.q++[ln.num] }
def NL(K:UT)(a:An):Sp:=λvs H Q _=>∃(X:HX)(R:Ax)(i:Nat)(x:LX),vs=[.ref X.h,.ref x.p]/\HT K a H X R/\X.lines[i]?=some x/\X.q.length<1000 /\
 ∀H' X' y b,HT K a H' X' R->X'.h=X.h->X'.S=FN X.S i x.l->X'.lines=X.lines.set i y->y.p=x.p->y.l=AW x.l "waits"->Af H H'->H' b=some (.tup [.str "waits",.str x.l.num])->Q (.ref b) H'
def JT:AM ["self","line"] ["self","line"] (Ab<|Al (top 28) 13):=.of
def Afr(F:AE K "wait" "Hall.wait" (Al (top 28) 13) f fd)(T:TxtH P w K mg a)(eV:AR P w K mg base Av 1 a.Line "turn" ["self","state"] (Iw a)):Az P w K mg base Av 2 f fd ["self","line"] (NL K a):=by
 refine F.ok JT.fs λai A outer s H vs Q E hr h=>?_
 .obtain ⟨X,R,i,x,rfl,t,h,qz,q⟩:=h;have eX:=T.lc.cls;refine⟨_,(@Ad _ _ _ _ _ (A4<|A6 eV eX (Aa 1 JT) hr.d AK (Ag Ae))<|Ad (A4<|Ci VR Wb Wc Dl (AD (Aa 0 JT) rfl) (Ag<|AD (Aa 1 JT) rfl)) (Ai<|AB (Fx<|AJ Ae (AD (Aa 1 JT) rfl)))),?_⟩;try dsimp only[av,aw]
  show AZ x.p x.dx _ rfl (t.t.ay h) rfl ?_;show FG x.p x.dx x.l.num x.i x.h ("waits") _ rfl ⟨t.t.ay h,.inr ⟨_,_,_,_,_,rfl⟩,?_⟩;obtain⟨D,L⟩:=t.turn h "waits";have O:(X.lines.set i { x with wv:=.aa,l:=AW x.l "waits" })[i]?=some { x with wv:=.aa,l:=AW x.l "waits" }:=B1 h;generalize upd H _ _=B at D L ⊢;have l1:B x.p=some (.ins a.Line x.dx<|Cj x.l.num x.i x.h "waits" "" 0 .aa .aa):=D.t.ay O;have Y:B X.qa=some (.lst<|X.q.map V.str):=D.t.q;show AL X.h a.ak X.dx _ _ rfl D.t.aA T.hc.cls T.hc.qu rfl ?_;refine⟨.inl ⟨rfl,_,.of Y⟩,?_⟩;show AL x.p a.Line x.dx _ _ rfl l1 T.lc.cls T.lc.nu rfl ?_;show CZ X.qa _ _ rfl rfl Y (by rw[UW,U0];omega) ?_;rw[show X.q.map V.str++[V.str x.l.num]=(X.q++[x.l.num]).map V.str by rw[Vg];rfl];obtain⟨I,J⟩:=D.dU<|X.q++[x.l.num];have I:HT K a (upd B X.qa<|.lst ((X.q++[x.l.num]).map V.str)) { X with lines:=X.lines.set i { x with wv:=.aa,l:=AW x.l "waits" },q:=X.q++[x.l.num] } R:=I;have J:Af B (upd B X.qa<|.lst ((X.q++[x.l.num]).map V.str)):=J;generalize upd B _ _=H2 at I J ⊢;have l2:H2 x.p=some (.ins a.Line x.dx<|Cj x.l.num x.i x.h "waits" "" 0 .aa .aa):=I.t.ay O;show AL x.p a.Line x.dx _ _ rfl l2 T.lc.cls T.lc.nu rfl ?_;show⟨Am,λb nb=>?_⟩;have s3:=(Ah.refl H2).upd (o:=.tup [.str "waits",.str x.l.num]) nb;refine q _ _ _ b (I.same s3) rfl ?_ rfl rfl rfl (L.trans<|J.trans (.of s3)) Ao;change(⟨X.long,(X.lines.set i _).map (·.l),_,_,_,_⟩:PS)=_;rw[V0];rfl
noncomputable def Bf(lns:List Ln)(z:aU):Nat:=(lns.map (·.num)).idxOf z
def NM (h:z∈lns.map (·.num)):∃ln,lns[Bf lns z]?=some ln/\ln.num=z:=by have e:=MQ h;rw[Va]at e;obtain⟨ln,B,D⟩:=Au<|VH.mp e;exact⟨ln,B,D⟩
noncomputable def bG(s:Sk)(k:Int)(i:Nat):Sk:={ s with hs:=s.hs.set k.toNat (.int i),ts:=s.ts.set k.toNat (s.ts.getD k.toNat 0+1),mark:=(k+1)%s.hs.length,st:=s.st.set k.toNat i,wt:=s.wt.set k.toNat (s.wt.getD k.toNat 0+((i:Int)-s.st.getD k.toNat 0)%s.places) }
noncomputable def Ex(S:PS):Option (PyData×PS):=match S.q with
 |[]=>none
 |z::r=>match Cw S.sk.hs S.sk.js S.sk.mark with
  |none=>none
  |some k=>match S.lns[Bf S.lns z]? with
   |none=>none
   |some ln=>some (.tuple [.str "tone",.str z,.int k,.int (((Bf S.lns z:Int)-S.sk.st.getD k.toNat 0)%S.sk.places)],{ S with q:=r,lns:=S.lns.set (Bf S.lns z) { AW ln "dials" with held:=ln.held++[((U3 ""),k)] },sk:=bG S.sk k (Bf S.lns z) })
noncomputable def aK:Nat->PS->List PyData×PS
 |0,S=>([],S)
 |n+1,S=>match Ex S with
  |none=>([],S)
  |some x=>(x.1::(aK n x.2).1,(aK n x.2).2)
noncomputable def Cz(S:PS):List PyData×PS:=aK S.q.length S
structure Ey(S:PS):Prop where
 nd:S.q.Nodup
 ln:∀z∈S.q,∃ln∈S.lns,ln.num=z/\ln.held=[]
 num:(S.lns.map (·.num)).Nodup
 m0:0<=S.sk.mark
 m1:S.sk.mark<=S.sk.hs.length
 pl:0<S.sk.places
 aD:S.q.length<=100
def Ga{lns:List Ln}(B:(lns.map (·.num)).Nodup){i j:Nat}{x y:Ln}(D:lns[i]?=some x)(H:lns[j]?=some y)(ne:i≠j):x.num≠y.num :=
 F8 B (i:=i) (j:=j) (by rw[Va,D];rfl) (by rw[Va,H];rfl) ne
def Lv (B:(lns.map (·.num)).Nodup)(h:lns[i]?=some ln):Bf lns ln.num=i:=by
 obtain⟨D,f1,f2⟩:=Au<|NM (lns:=lns) (z:=ln.num) (Ve.mpr ⟨ln,Vh h,rfl⟩);by_cases e:Bf lns ln.num=i
 .exact e
 .exact absurd f2 (Ga B f1 h e)
def Ey.idx (h:Ey S)(m:z∈S.q):∃ln,S.lns[Bf S.lns z]?=some ln/\ln.num=z/\ln.held=[]:=by
 obtain⟨B,H,m2,I⟩:=AG<|h.ln z m;obtain⟨j,J,L⟩:=Xa H;have D:S.lns[j]?=some B:=by rw[Vi J,L]
 exact⟨B,by rwa[<-m2,Lv h.num D],m2,I⟩
def NO (q:Ey S)(e:Ex S=some x):∃z r k ln,S.q=z::r/\Cw S.sk.hs S.sk.js S.sk.mark=some k/\S.lns[Bf S.lns z]?=some ln/\ln.num=z/\ln.held=[] /\
  x=(.tuple [.str "tone",.str z,.int k,.int<|((Bf S.lns z:Int)-S.sk.st.getD k.toNat 0)%S.sk.places],{ S with q:=r,lns:=S.lns.set (Bf S.lns z) { AW ln "dials" with held:=ln.held++[((U3 ""),k)] },sk:=bG S.sk k (Bf S.lns z) }):=by
 unfold Ex at e;cases eq:S.q with
 |nil=>rw[eq]at e;cases e
 |cons z r =>
  rw [eq]at e;dsimp only at e;cases ef:Cw S.sk.hs S.sk.js S.sk.mark with
  |none=>rw[ef]at e;cases e
  |some k =>
   rw [ef]at e;dsimp only at e;obtain⟨ln,B,D,H⟩:=AG<|q.idx (z:=z) (by rw[eq];simp);rw[B]at e;exact⟨z,r,k,ln,rfl,rfl,B,D,H,(Vq e).symm⟩
def Sw (B:S.q=z::r)(D:Cw S.sk.hs S.sk.js S.sk.mark=some k)(H:S.lns[Bf S.lns z]?=some ln):Ex S=some (.tuple [.str "tone",.str z,.int k,.int<|((Bf S.lns z:Int)-S.sk.st.getD k.toNat 0)%S.sk.places],{ S with q:=r,lns:=S.lns.set (Bf S.lns z) { AW ln "dials" with held:=ln.held++[((U3 ""),k)] },sk:=bG S.sk k (Bf S.lns z) }):=by unfold Ex;rw[B];dsimp only;rw[D];dsimp only;rw[H]
def Sx{α:Type}{l:List α}{i j:Nat}{x y:α}(h:i<l.length):(l.set i x)[j]?=some y↔(i=j/\x=y)\/(i≠j/\l[j]?=some y):=by
 rw [zp];by_cases e:i=j
 .subst e;rw[bf rfl,bf h];exact⟨λz=>.inl ⟨rfl,Vq z⟩,λz=>z.elim (λw=>by rw[w.2]) λw=>absurd rfl w.1⟩
 .rw[ck e];exact⟨λz=>.inr ⟨e,z⟩,λz=>z.elim (λw=>absurd w.1 e) λw=>w.2⟩
def Ey.next (h:Ey S)(e:Ex S=some x):Ey x.2/\x.2.q.length+1=S.q.length:=by
 obtain⟨z,r,k,ln,B,O,D,V,e5,rfl⟩:=HV<|NO h e;obtain⟨⟨k0,k1⟩,_⟩:=GQ h.m0 h.m1 O;have H:=h.nd;rw[B]at H;obtain⟨Y,oU⟩:=Vr.mp H;have fw:=h.aD;rw[B,VX]at fw;have il:=(Vz.mp D).1;refine⟨⟨oU,λy I=>?_,?_,Xw _<|(by omega),?_,h.pl,by change r.length<=100;omega⟩,by rw[B];simp⟩
 .obtain ⟨J,m1,m2,m3⟩:=h.ln y (by rw[B];exact Vw _ I);obtain⟨j,hj,ej⟩:=Xa m1;have L:S.lns[j]?=some J:=by rw[Vi hj,ej]
  refine⟨J,Vh (i:=j)<|(Sx il).mpr (.inr ⟨λd=>?_,L⟩),m2,m3⟩;rw[d,L]at D;cases D;exact Y<|by rwa[<-V,m2]
 .show ((S.lns.set _ _).map _).Nodup;rw[FL (f:=λx:Ln=>x.num) (y:={ AW ln "dials" with held:=ln.held++[((U3 ""),k)] }) D rfl];exact h.num
 .show (k+1)%(S.sk.hs.length:Int)<=((S.sk.hs.set k.toNat _).length:Nat);rw[Vm];exact Z2<|Xx _ (by omega)
def Sy(K:UT)(a:An):Sp:=λvs H Q _=>∃(X:HX)(R:Ax),vs=[.ref X.h]/\HT K a H X R/\Ey X.S /\
 ∀H' X' r xs,X'.h=X.h->X'.S=(Cz X.S).2->HT K a H' X' ((r,.lst (xs.map V.ref))::R)->Af H H'->BV K H' xs (Cz X.S).1->Q (.ref r) H'
def HT.seek{H B:Hp}{X:HX}{R:Ax}(t:HT K a H X R){k:Int}{i:Nat}(hk:0<=k/\k<X.sk.k.hs.length)(s:CD [X.sk.p,X.sk.ra,X.sk.rc,X.sk.rs,X.sk.rw] H B)(e:Fh K a B X.sk.p a.bh X.sk.ra X.sk.rb X.sk.rc X.sk.rs X.sk.rw (bG X.sk.k k i).hs (bG X.sk.k k i).js (bG X.sk.k k i).ts (bG X.sk.k k i).places (bG X.sk.k k i).mark (bG X.sk.k k i).st (bG X.sk.k k i).wt) :
  ∃dx',HT K a B { X with sk:={ X.sk with k:=bG X.sk.k k i,dx:=dx' } } R/\Af H B:=by
 obtain⟨dx,I⟩:=e.ins;obtain⟨u,D⟩:=t.t.jJ (k':=bG X.sk.k k i) (dx':=dx) s (λw m=>by simp only[Vc,VC,or_false]at m;rcases m with z|z|z|z|z<;>simp[Ca,z]) I e.ha e.hb e.hc e.gA e.hw;exact⟨dx,⟨u,t.ok.jJ D ⟨e.lj,e.lt,e.ls,e.lw,e.z⟩⟩,D⟩
def HT.kU (t:HT K a H X R)(h:X.lines[i]?=some x)(e:H u=some (.tup [.str D,.int k]))(L:x.l.held.length<=9):
  HT K a (upd H x.h<|.lst (x.hv.map V.ref++[V.ref u])) { X with lines:=X.lines.set i { x with hv:=x.hv++[u],l:={ x.l with held:=x.l.held++[(D,k)] } } } R/\Af H (upd H x.h<|.lst (x.hv.map V.ref++[V.ref u])):=by
 have I:Af H (upd H x.h<|.lst (x.hv.map V.ref++[V.ref u])):=.chg (t.t.iq h) rfl;have J:=(t.ok.lx i x h).aj I;have B:∀{xs:List ar}{B:List (aU×Int)}{H:Hp},CF H xs B->H u=some (.tup [.str D,.int k])->CF H (xs++[u]) (B++[(D,k)]):=λ{xs}=>by
  induction xs with
  |nil=>intro B H h e;cases B with|nil=>exact⟨e,trivial⟩|cons _ _=>exact h.elim
  |cons y ys ih=>intro B H h e;cases B with|nil=>exact h.elim|cons _ _=>exact⟨h.1,ih h.2 e⟩
 exact⟨⟨At.kU (y:={ x with hv:=x.hv++[u],l:={ x.l with held:=x.l.held++[(D,k)] } }) t.t h rfl rfl rfl rfl rfl rfl,t.ok.bF I h rfl ⟨J.i,B J.pr<|I.t e,J.w,J.wt,by change(x.l.held++[_]).length<=10;rw[VA,Wa];omega⟩⟩,I⟩
def CA:AM ["self","told","line","taken","k","steps"] ["self"] (Ab<|Al (top 28) 15):=.of
def Sz:Gm (Ab<|Al (top 28) 15) "AT_SEEKERS":=.of
def Afs(F:AE K "tones" "Hall.tones" (Al (top 28) 15) f fd)(T:TxtH P w K mg a)(eV:AR P w K mg base Av 1 a.Line "turn" ["self","state"] (Iw a))(oV:AR P w K mg base Av 2 a.bh "take" ["self","place"] (RT K a)):Az P w K mg base Av 3 f fd ["self"] (Sy K a):=by
 refine F.ok CA.fs λai A outer s H vs Q E hr h=>?_
 .obtain ⟨X0,R,rfl,t0,sZ,q⟩:=h;have eX:=T.lc.cls;have oW:=T.sc.c.cls;show 4;have nd:=CA.fs.nd;refine⟨_,(@Ad _ _ _ _ _ (A8 1 CA<|CV B3)<|Ad (Pq VZ (AaV (AD (Aa 0 CA) rfl)<|by intro _;rfl)<|Ad (A8 2 CA<|Aq P w K (AD (Aa 0 CA) rfl) (AN AO (AD (Aa 0 CA) rfl) Aj λ_ _=>rfl)) (Ad (A8 3 CA<|A6 oV oW (Aq P w K (AD (Aa 0 CA) rfl)<|Iq Sz T.jK) hr.d AK (Ag<|AD (Aa 2 CA) rfl))<|Ad (AV (A1 Gw (Aa 3 CA) Cv)<|Ai (AB<|Aa 1 CA)) (Ad (El (Aa 3 CA)<|FZ rfl (BW (B9 4 CA)<|BW (B9 5 CA) D7))<|Ad (A4<|Ci VR zt zu Qs (AD (Aa 0 CA) rfl) (Ag Aj)) (Ad (A4<|A6 eV eX (Aa 2 CA) hr.d AK (Ag Ae))<|Ad (A4<|Ci VR Wb Wc Dl (AD (Aa 2 CA) rfl) (Ag<|Fx (AJ (Iq Sz T.jK)<|Aa 4 CA))) (Ai<|A4 (Ci VR Wb Wc Dl (Aa 1 CA)<|Ag (Fx<|Co Ae (A0 (AD (Aa 2 CA) rfl) (Aa 4 CA)<|Aa 5 CA)))))))) (Ai<|AB (Aa 1 CA))),?_⟩;try dsimp only[av,aw]
  have aZ:start ["self","told","line","taken","k","steps"] [V.ref X0.h]=[some<|.ref X0.h,none,none,none,none,none]:=rfl;simp only[aZ,WQ,WR];show⟨Am,λr nr=>?_⟩;have t1:=t0.new (u:=.lst<|([]:List ar).map V.ref) nr;have p1:Af H (upd H r<|.lst []):=.new nr;change HT K a (upd H r<|.lst []) X0 _ at t1;generalize upd H _ _=H1 at t1 p1 ⊢;show⟨λm σ O=>∃x2 x3 x4 x5 B xs ds,σ=[some<|.ref X0.h,some<|.ref r,x2,x3,x4,x5]/\B.h=X0.h/\HT K a O B ((r,.lst<|(xs.map V.ref))::R)/\Ey B.S/\Af H O/\BV K O xs ds/\m=B.q.length/\xs.length+m<=100/\Cz X0.S=(ds++(aK m B.S).1,(aK m B.S).2),⟨X0.q.length,none,none,none,none,X0,[],[],rfl,rfl,t1,sZ,p1,.nil,rfl,(by have:=sZ.aD;change 0+X0.S.q.length<=_;omega),by rw[ZF];rfl⟩,?_⟩;intro m σ O zq;obtain⟨x2,x3,x4,x5,B,xs,ds,rfl,eh,D,Y,oX,gC,rfl,eO,J⟩:=zq;have hX:O X0.h=some (.ins a.ak B.dx<|Hy B.long B.ld B.sd B.qa B.da):=by rw[<-eh];exact D.t.aA
  show AL X0.h a.ak B.dx _ _ rfl hX T.hc.cls T.hc.qu rfl ?_;refine⟨_,.inl ⟨_,.of D.t.q,rfl⟩,?_⟩;cases eq:B.q with
  |nil =>
   have e0:Cz X0.S=(ds,B.S):=by rw[J,eq];change(ds++[],B.S)=_;rw[V5]
   apply BQ;ext;exact q O B r xs eh (by rw[e0]) D oX<|by rwa[e0]
  |cons z I =>
   apply B4;rw[eq]at J eO;have oY:B.S.q=z::I:=eq;obtain⟨ln,i1,i2,i3⟩:=AG<|Y.idx (z:=z) (by rw[oY];simp);generalize hi:Bf B.S.lns z=i at i1;obtain⟨x,hx,rfl⟩:=Au<|D.at i1;have hv:=D.ok.line hx;rw[i2]at hv;have lx:=D.ok.lx i x hx;have qa0:Cd (B.q.map V.str) 0=some (.str z):=FC (j:=0) (by rw[eq];rfl);have sk:=D.t.jI T.sc D.ok.sk;obtain⟨oZ,se⟩:=sk.ins;refine⟨λσ' H'=>∃m',m'<I.length+1/\∃x2 x3 x4 x5 B xs ds,σ'=[some<|.ref X0.h,some<|.ref r,x2,x3,x4,x5]/\B.h=X0.h/\HT K a H' B ((r,.lst<|(xs.map V.ref))::R)/\Ey B.S/\Af H H'/\BV K H' xs ds/\m'=B.q.length/\xs.length+m'<=100/\Cz X0.S=(ds++(aK m' B.S).1,(aK m' B.S).2),λσ' H' h=>h,?_⟩;show AL X0.h a.ak B.dx _ _ rfl hX T.hc.cls T.hc.li rfl ?_;show AL X0.h a.ak B.dx _ _ rfl hX T.hc.cls T.hc.qu rfl ?_;show U6 (Cq (.of D.t.q) qa0 ?_);apply Bx B.ld _ (.inr z) _ rfl rfl (.of D.t.ld) hv;show AL X0.h a.ak B.dx _ _ rfl hX T.hc.cls T.hc.sw rfl ?_;show Bx B.sd _ (.inr "") _ rfl rfl (.of D.t.sd) D.ok.kY ?_;show AZ B.sk.p oZ _ rfl se rfl ?_;show AL x.p a.Line x.dx _ _ rfl (D.t.ay hx) T.lc.cls T.lc.pl rfl ?_;show⟨B.sk.p,a.bh,B.sk.ra,B.sk.rb,B.sk.rc,B.sk.rs,B.sk.rw,B.sk.k.hs,B.sk.k.js,B.sk.k.ts,B.sk.k.places,B.sk.k.mark,B.sk.k.st,B.sk.k.wt,x.i,rfl,sk,Y.m0,Y.m1,Y.pl,?_⟩;cases ef:Cw B.sk.k.hs B.sk.k.js B.sk.k.mark with
   |none =>
    intro H3 s3;have et:Ex B.S=none:=by unfold Ex;rw[oY];dsimp only;rw[show Cw B.S.sk.hs B.S.sk.js B.S.sk.mark=none from ef]
    have e0:Cz X0.S=(ds,B.S):=by rw[J];change(ds++(aK (I.length+1) B.S).1,(aK (I.length+1) B.S).2)=_;unfold aK;rw[et];dsimp only;rw[V5]
    ext;exact q H3 B r xs eh (by rw[e0]) (D.same s3) (oX.trans<|.of s3)<|by rw[e0];exact gC.aj<|.of s3
   |some k =>
    rw [lx.i];intro H3 tk sx ntk gj abg;obtain⟨hk,_⟩:=GQ Y.m0 Y.m1 ef;have et:=Sw (ln:=x.l) oY ef (by rwa[hi]);rw[hi]at et;have ok3:=(Y.next et).1;have gj:H3 tk=some (.tup [.int k,.int<|((i:Int)-B.S.sk.st.getD k.toNat 0)%B.S.sk.places]):=gj;generalize ((i:Int)-B.S.sk.st.getD k.toNat 0)%B.S.sk.places=step at gj et;obtain⟨o7,t3,p3⟩:=Au<|D.seek hk sx abg;have hX3:H3 X0.h=some (.ins a.ak B.dx<|Hy B.long B.ld B.sd B.qa B.da):=by rw[<-eh];exact t3.t.aA
    have q3:H3 B.qa=some (.lst<|B.q.map V.str):=t3.t.q;show CN tk _ rfl (.of gj) rfl ?_;show AL X0.h a.ak B.dx _ _ rfl hX3 T.hc.cls T.hc.qu rfl ?_;refine⟨.inl ⟨rfl,_,.of q3⟩,?_⟩;show Dv B.qa _ 0 0 (.str z) rfl ⟨rfl,q3,(by decide),(by decide),(by rw[eq,VP,VX];unfold YE;simp),(by rw[eq];rfl),?_⟩;rw[show(B.q.map V.str).eraseIdx 0=I.map V.str by rw[eq];rfl];obtain⟨t4,p4⟩:=t3.dU I;generalize gD:upd H3 B.qa (.lst<|I.map V.str)=H4 at t4 p4 ⊢;clear gD
    have l4:=t4.t.ay hx;show AZ x.p x.dx _ rfl l4 rfl ?_;show FG x.p x.dx x.l.num x.i x.h ("dials") _ rfl ⟨l4,.inr ⟨_,_,_,_,_,rfl⟩,?_⟩;obtain⟨t5,p5⟩:=t4.turn hx "dials";have h5:(B.lines.set i { x with wv:=.aa,l:=AW x.l "dials" })[i]?=some { x with wv:=.aa,l:=AW x.l "dials" }:=B1 hx;generalize upd H4 _ _=H5 at t5 p5 ⊢;have l5:H5 x.p=some (.ins a.Line x.dx<|Cj x.l.num x.i x.h "dials" "" 0 .aa .aa):=(by have z:=t5.t.ay h5;exact z);have tq:H5 x.h=some (.lst<|x.hv.map V.ref):=(by have z:=t5.t.iq h5;exact z);have hv0:x.hv.length=0:=by rw[lx.pr.len,i3];rfl
    show AL x.p a.Line x.dx _ _ rfl l5 T.lc.cls T.lc.he rfl ?_;refine⟨.inl ⟨rfl,_,.of tq⟩,?_⟩;show⟨Am,λu nu=>?_⟩;have s6:=(Ah.refl H5).upd (o:=.tup [.str "",.int k]) nu;have e6:(upd H5 u<|.tup [.str "",.int k]) u=some (.tup [.str "",.int k]):=Ao;generalize upd H5 _ _=H6 at s6 e6 ⊢;have t6:=t5.same s6;show CZ x.h _ _ rfl rfl (s6 _ _ tq) (by rw[UW,hv0,U0];decide) ?_;obtain⟨L,p7⟩:=t6.kU h5 e6 (by change x.l.held.length<=9;rw[i3];decide);have h7:((B.lines.set i { x with wv:=.aa,l:=AW x.l "dials" }).set i { x with wv:=.aa,hv:=x.hv++[u],l:={ AW x.l "dials" with held:=x.l.held++[(U3 "",k)] } })[i]?=some { x with wv:=.aa,hv:=x.hv++[u],l:={ AW x.l "dials" with held:=x.l.held++[(U3 "",k)] } }:=B1 h5;have L:HT K a (upd H6 x.h<|.lst (x.hv.map V.ref++[V.ref u])) { B with sk:={ B.sk with k:=bG B.sk.k k i,dx:=o7 },q:=I,lines:=(B.lines.set i { x with wv:=.aa,l:=AW x.l "dials" }).set i { x with wv:=.aa,hv:=x.hv++[u],l:={ AW x.l "dials" with held:=x.l.held++[(U3 "",k)] } } } ((r,.lst<|(xs.map V.ref))::R):=L;have p7:Af H6 (upd H6 x.h<|.lst (x.hv.map V.ref++[V.ref u])):=p7;generalize upd H6 _ _=H7 at L p7 ⊢;have l7:H7 x.p=some (.ins a.Line x.dx<|Cj x.l.num x.i x.h "dials" "" 0 .aa .aa):=(by have z:=L.t.ay h7;exact z);have tu:H7 r=some (.lst<|(xs.map V.ref)):=L.t.rest.hd;obtain⟨X9,L,eS,dW,eq9⟩:∃X9:HX,HT K a H7 X9 ((r,.lst<|(xs.map V.ref))::R)/\X9.S={ B.S with q:=I,lns:=B.S.lns.set i { AW x.l "dials" with held:=x.l.held++[((U3 ""),k)] },sk:=bG B.S.sk k i }/\X9.h=B.h/\X9.q=I:=by refine⟨_,L,?_,rfl,rfl⟩;change(⟨B.long,((B.lines.set i _).set i _).map (·.l),_,_,_,_⟩:PS)=⟨B.long,(B.lines.map (·.l)).set i _,_,_,_,_⟩;rw[V6,V0];rfl
    show⟨.inl ⟨rfl,_,.of tu⟩,?_⟩;show AL x.p a.Line x.dx _ _ rfl l7 T.lc.cls T.lc.nu rfl ?_;show⟨Am,λv nv=>?_⟩;have s8:=(Ah.refl H7).upd (o:=.tup [.str "tone",.str x.l.num,.int k,.int step]) nv;have e8:(upd H7 v<|.tup [.str "tone",.str x.l.num,.int k,.int step]) v=some (.tup [.str "tone",.str x.l.num,.int k,.int step]):=Ao;generalize upd H7 _ _=H8 at s8 e8 ⊢;have t8:=L.same s8;show CZ r _ _ rfl rfl (s8 _ _ tu) (by rw[UW,U0];rw[VX]at eO;omega) ?_;obtain⟨t9,p9⟩:=t8.kZ (o':=.lst<|(xs++[v]).map V.ref) rfl;have er:(xs.map V.ref++[V.ref v])=(xs++[v]).map V.ref:=by rw[Vg];rfl
    rw [er];have tD:Af O (upd H8 r<|.lst ((xs++[v]).map V.ref)):=p3.trans<|p4.trans (p5.trans<|(Af.of s6).trans (p7.trans<|(Af.of s8).trans p9));have lb:BV K (upd H8 r<|.lst ((xs++[v]).map V.ref)) (xs++[v]) (ds++[.tuple [.str "tone",.str z,.int k,.int step]]):=(gC.aj tD).app<|.one (.tup (.of<|p9.t e8)<|.cons (.str _) (.cons (by rw[i2];exact .str _)<|.cons (.int _) (.cons (.int _) .nil))) rfl;refine  ⟨I.length,YA _,_,_,_,_,X9,xs++[v],_,rfl,dW.trans eh,t9,by rwa[eS],oX.trans tD,lb,by rw[eq9],(by rw[VA,Wa];rw[VX]at eO;omega),?_⟩;rw[J];change(ds++(aK (I.length+1) B.S).1,(aK (I.length+1) B.S).2)=_;have jM:∀n,aK (n+1) B.S=_:=λn=>by unfold aK;rw[et]
    rw [jM,Vj,eS];rfl
noncomputable def CB(S:PS)(i:Nat)(ln:Ln):PS:={ au S ln.held with lns:=S.lns.set i { ln with held:=[] } }
noncomputable def BJ(S:PS)(j:Nat)(lo:Ln):PyData×PS :=
 if lo.st="talks" then(.tuple [.str "waits",.str lo.num],FN (CB S j lo) j { lo with held:=[] })
 else(.tuple [.str "quiet",.str lo.num],{ CB S j lo with lns:=S.lns.set j (AW { lo with held:=[] } "rests") })
def SA(K:UT)(a:An):Sp:=λvs H Q _=>∃(X:HX)(R:Ax)(j:Nat)(y:LX),vs=[.ref X.h,.ref y.p]/\HT K a H X R/\X.lines[j]?=some y/\bA X.S y.l.held/\X.q.length<1000 /\
 ∀H' X' b z,HT K a H' X' R->X'.h=X.h->X'.S=(BJ X.S j y.l).2->X'.lines=X.lines.set j z->z.p=y.p->Af H H'->Is K H' (.ref b) (BJ X.S j y.l).1->Q (.ref b) H'
def Aft(S:PS)(w:aU)(k:Int):(aC S w k).q=S.q:=by unfold aC;split<;>rfl
theorem Fn:∀(ts:List (aU×Int))(S:PS),(au S ts).q=S.q
 |[],_=>rfl
 |t::ts,S=>(Fn ts _).trans (Aft S t.1 t.2)
def GS:AM ["self","other"] ["self","other"] (Ab<|Al (top 28) 12):=.of
def Afu(F:AE K "left_alone" "Hall.left_alone" (Al (top 28) 12) f fd)(T:TxtH P w K mg a)(eV:AR P w K mg base Av 1 a.Line "turn" ["self","state"] (Iw a))(gE:AR P w K mg base (AI P w) 4 a.ak "release" ["self","line"] (JS K a))(o8:AR P w K mg base Av 2 a.ak "wait" ["self","line"] (NL K a)):Az P w K mg base (AI P w) 5 f fd ["self","other"] (SA K a):=by
 refine F.aS GS.fs λai A outer s H vs Q E Y h=>?_
 .obtain ⟨X,R,j,y,rfl,t,h,hd,qz,q⟩:=h;have eX:=T.lc.cls;have gG:=(T.hc.cls);have o9:=(T.hc.cls);have hu:=Y.units;refine⟨_,(@Ad _ _ _ _ _ (A4<|A6 gE gG (Aa 0 GS) Y.d BH (Ag<|Aa 1 GS))<|Ad (AV (A1 (B5 hu) (AD (Aa 1 GS) rfl) Ae)<|Ai (AB<|A6 o8 o9 (Aa 0 GS) Y.d AK (Ag<|Aa 1 GS))) (Ad (A4<|A6 eV eX (Aa 1 GS) Y.d AK (Ag Ae))<|Ai (AB<|Fx (AJ Ae<|AD (Aa 1 GS) rfl)))),?_⟩;try dsimp only[av,aw]
  show 1;show Bx X R j y rfl t h hd (λH1 D B I eY eZ fN dX cS p1=>?_);have J:D.lines[j]?=some B:=by rw[fN];exact B1 h
  have est:B.l.st=y.l.st:=by rw[cS]
  have ix:B.l.num=y.l.num:=by rw[cS]
  rw [<-dX,<-eY];show AL B.p a.Line B.dx _ _ rfl (I.t.ay J) T.lc.cls T.lc.st rfl ?_;ext;rw[est];by_cases ht:y.l.st="talks"
  .rw[ht];show AZ D.h D.dx _ rfl I.t.aA rfl ?_;ext;have qz1:D.q.length<1000:=by
    have:D.S.q=X.q:=by rw[eZ];exact Fn ..
    rwa[show D.q=D.S.q from rfl,this]
   refine Bx D R j B rfl I J qz1 λH2 X2 y2 b L dh cI pe jr el2 p2 eb=>?_;have O:BJ X.S j y.l=(.tuple [.str "waits",.str y.l.num],FN (CB X.S j y.l) j { y.l with held:=[] }):=bf ht;refine q H2 X2 b y2 L (dh.trans eY) ?_ (by rw[pe,fN,V6]) (jr.trans dX) (p1.trans p2) ?_
   .rw[O,cI,eZ,cS];rfl
   .rw[O];exact .tup (.of eb)<|.cons (.str _) (.cons (by rw[ix];exact .str _) .nil)
  .rw[cN λz=>ht<|V.str.inj z];show AZ B.p B.dx _ rfl (I.t.ay J) rfl ?_;show FG B.p B.dx B.l.num B.i B.h ("rests") _ rfl ⟨I.t.ay J,.inr ⟨_,_,_,_,_,rfl⟩,?_⟩;obtain⟨L,p2⟩:=I.turn J "rests";have h2:(D.lines.set j { B with wv:=.aa,l:=AW B.l "rests" })[j]?=some { B with wv:=.aa,l:=AW B.l "rests" }:=B1 J;generalize upd H1 _ _=H2 at L p2 ⊢;have l2:H2 B.p=some (.ins a.Line B.dx<|Cj B.l.num B.i B.h "rests" "" 0 .aa .aa):=by have z:=L.t.ay h2;exact z
   show AL B.p a.Line B.dx _ _ rfl l2 T.lc.cls T.lc.nu rfl ?_;show⟨Am,λb nb=>?_⟩;have s3:=(Ah.refl H2).upd (o:=.tup [.str "quiet",.str B.l.num]) nb;have O:BJ X.S j y.l=(.tuple [.str "quiet",.str y.l.num],{ CB X.S j y.l with lns:=X.S.lns.set j (AW { y.l with held:=[] } "rests") }):=ck ht;refine q _ _ b { B with wv:=.aa,l:=AW B.l "rests" } (L.same s3) eY ?_ (by change D.lines.set j _=_;rw[fN,V6]) dX (p1.trans<|p2.trans (.of s3)) ?_
   .rw[O];have:=HX.iu (X:=D) (i:=j) (y:={ B with wv:=.aa,l:=AW B.l "rests" });rw[this,eZ,cS];change({ CB X.S j y.l with lns:=(X.S.lns.set j { y.l with held:=[] }).set j (AW { y.l with held:=[] } "rests") }:PS)=_;rw[V6]
   .rw[O];exact .tup (.of Ao)<|.cons (.str _) (.cons (by rw[ix];exact .str _) .nil)
def NP (h:∀C:St->Hp->Prop,C=(λσ' B=>t D σ' B)->s { D with nx:=C } σ H):Mj s t D σ H:=h _ rfl
noncomputable def CG(S:PS)(i:Nat)(ln:Ln):PyData×PS :=
 if ln.st="rests" then(.tuple [.str "waits",.str ln.num],FN S i ln)
 else match ln.ao with
  |none=>(.none,S)
  |some z=>match S.lns[Bf S.lns z]? with
   |none=>(.none,S)
   |some lc=>(.tuple [.str "talks",.str lc.num,.str ln.num],{ S with lns:=(S.lns.set (Bf S.lns z) { lc with st:="talks" }).set i { ln with st:="talks" } })
def NQ(S:PS)(i:Nat)(ln:Ln):Prop:=ln.st="rests"\/(ln.st≠"rests"/\∃(j:Nat)(lc:Ln),ln.ao=some lc.num/\S.lns[j]?=some lc/\j≠i)
def SD(K:UT)(a:An):Sp:=λvs H Q _=>∃(X:HX)(R:Ax)(i:Nat)(x:LX),vs=[.ref X.h,.ref x.p]/\HT K a H X R/\X.lines[i]?=some x/\X.q.length<1000/\NQ X.S i x.l /\
 ∀H' X' r b,HT K a H' X' ((r,.lst [.ref b])::R)->X'.h=X.h->X'.S=(CG X.S i x.l).2->Af H H'->Is K H' (.ref b) (CG X.S i x.l).1->Q (.ref r) H'
noncomputable def aB(S:PS)(ln:Ln):PS:=if ln.st="waits" then { S with q:=S.q.erase ln.num } else S
noncomputable def CH(S:PS)(ln:Ln):List PyData×PS:=match ln.ao with
 |none=>([],S)
 |some z=>match S.lns[Bf S.lns z]? with
  |none=>([],S)
  |some lo=>([(BJ S (Bf S.lns z) lo).1],(BJ S (Bf S.lns z) lo).2)
noncomputable def ba(S:PS)(i:Nat)(ln:Ln):PS:={ CB S i ln with lns:=S.lns.set i (AW { ln with held:=[] } "rests") }
noncomputable def DH(S:PS)(i:Nat)(ln:Ln):List PyData×PS:=(.tuple [.str "rests",.str ln.num]::(CH (aB S ln) ln).1,ba (CH (aB S ln) ln).2 i ln)
structure JU(S:PS)(i:Nat)(ln:Ln):Prop where
 w:ln.st="waits"->ln.num∈S.q
 f:∀z,ln.ao=some z->∃(j:Nat)(lo:Ln),S.lns[j]?=some lo/\lo.num=z/\j≠i/\bA (aB S ln) lo.held
 h:bA (CH (aB S ln) ln).2 ln.held
def SE(K:UT)(a:An):Sp:=λvs H Q _=>∃(X:HX)(R:Ax)(i:Nat)(x:LX),vs=[.ref X.h,.ref x.p]/\HT K a H X R/\X.lines[i]?=some x/\X.q.length<1000/\JU X.S i x.l /\
 ∀H' X' r xs,HT K a H' X' ((r,.lst (xs.map V.ref))::R)->X'.h=X.h->X'.S=(DH X.S i x.l).2->Af H H'->BV K H' xs (DH X.S i x.l).1->Q (.ref r) H'
def SF(S:PS)(j:Nat)(lo:Ln):Cs (BJ S j lo).1=true:=by unfold BJ;split<;>rfl
def Ee{α:Type}{l:List α}{i j:Nat}{x y:α}(h:l[i]?=some x)(n:j≠i):(l.set j y)[i]?=some x:=by rwa[Ww n]
def HT.nw (t:HT K a H X R)(n:BI H B l o):HT K a B X ((l,o)::R):=by rw[n.e];exact t.new n.n
def HT.lg (t:HT K a H X R)(h:X.S.lns[j]?=some lc):Bf X.S.lns lc.num=j:=by refine Lv ?_ h;change((X.lines.map (·.l)).map (·.num)).Nodup;rw[Vn];exact t.ok.num
def EL:AM ["self","line","caller"] ["self","line"] (Ab<|Al (top 28) 4):=.of
def Afv(F:AE K "lift" "Hall.lift" (Al (top 28) 4) f fd)(T:TxtH P w K mg a)(o8:AR P w K mg base Av 2 a.ak "wait" ["self","line"] (NL K a)):Az P w K mg base Av 3 f fd ["self","line"] (SD K a):=by
 refine F.ok EL.fs λai A outer s H vs Q E hr h=>?_
 .obtain ⟨X,R,i,x,rfl,t,h,qz,ok,q⟩:=h;have o9:=(T.hc.cls);show 4;have nd:=EL.fs.nd;refine⟨_,(@Ad _ _ _ _ _ (AV (A1 (B5 hu) (AD (Aa 1 EL) rfl) Ae)<|Ai (AB<|A3 (Ag<|A6 o8 o9 (Aa 0 EL) hr.d AK (Ag<|Aa 1 EL))))<|Ad (A8 2 EL<|Aq P w K (AD (Aa 0 EL) rfl) (AD (Aa 1 EL) rfl)) (Ad (BM (Aa 2 EL) Ae rfl)<|Ad (BM (Aa 1 EL) Ae rfl) (Ai<|AB (A3<|Ag (Bp<|A0 Ae (AD (Aa 2 EL) rfl) (AD (Aa 1 EL) rfl)))))),?_⟩;try dsimp only[av,aw]
  show AL x.p a.Line x.dx _ _ rfl (t.t.ay h) T.lc.cls T.lc.st rfl ?_;ext;rcases ok with D|⟨D,j,lc,ef,Y,nj⟩
  .have eD:CG X.S i x.l=(.tuple [.str "waits",.str x.l.num],FN X.S i x.l):=bf D;rw[eD]at q;apply DL (cx<|congrArg V.str D);show 1;show Bx X R i x rfl t h qz (λI X1 y b B eY eZ fN dX cS J eb=>?_);show⟨Am,λr H2 n=>?_⟩;exact q _ X1 r b (B.nw n) eY eZ (J.trans<|.of n.same)<|.tup (.of<|n.same _ _ eb) (.cons (.str _)<|.cons (.str _) .nil)
  .have ei:=t.lg Y;have eD:CG X.S i x.l=(.tuple [.str "talks",.str lc.num,.str x.l.num],{ X.S with lns:=(X.S.lns.set j { lc with st:="talks" }).set i { x.l with st:="talks" } }):=by
    simp only[CG,ck D,ef,ei,Y]
   rw [eD]at q;obtain⟨y,hy,rfl⟩:=Au<|t.at Y;have pf:DR x.l.ao=.str y.l.num:=by rw[ef];rfl
   apply D4 (cN λz=>D<|V.str.inj z);show AL X.h a.ak X.dx _ _ rfl t.t.aA T.hc.cls T.hc.li rfl ?_;show AL x.p a.Line x.dx _ _ rfl (t.t.ay h) T.lc.cls T.lc.fa rfl ?_;apply Bx X.ld _ (.inr y.l.num) _ rfl pf (.of t.t.ld) (t.ok.line hy);show Be y.p a.Line y.dx _ rfl (t.t.ay hy) T.lc.cls T.lc.st (VL rfl) ?_;have ly:=t.ok.lx j y hy;obtain⟨B,J⟩:=t.bF hy { y with l:={ y.l with st:="talks" } } rfl rfl rfl rfl rfl rfl rfl ly.w ly.wt;change HT K a (upd H y.p<|.ins a.Line y.dx (A7 "state" (.str "talks") y.fs)) _ _ at B;change Af _ (upd H y.p<|.ins a.Line y.dx (A7 "state" (.str "talks") y.fs))at J;have O:(X.lines.set j { y with l:={ y.l with st:="talks" } })[i]?=some x:=Ee h nj;generalize upd H _ _=I at B J ⊢;have l1:I x.p=some (.ins a.Line x.dx x.fs):=by have z:=B.t.ay O;exact z
   show Be x.p a.Line x.dx _ rfl l1 T.lc.cls T.lc.st (VL rfl) ?_;have lx:=B.ok.lx i x O;obtain⟨L,p2⟩:=B.bF O { x with l:={ x.l with st:="talks" } } rfl rfl rfl rfl rfl rfl rfl lx.w lx.wt;change HT K a (upd I x.p<|.ins a.Line x.dx (A7 "state" (.str "talks") x.fs)) _ _ at L;change Af _ (upd I x.p<|.ins a.Line x.dx (A7 "state" (.str "talks") x.fs))at p2;have h2:((X.lines.set j { y with l:={ y.l with st:="talks" } }).set i { x with l:={ x.l with st:="talks" } })[i]?=some { x with l:={ x.l with st:="talks" } }:=B1 O;have g2:((X.lines.set j { y with l:={ y.l with st:="talks" } }).set i { x with l:={ x.l with st:="talks" } })[j]?=some { y with l:={ y.l with st:="talks" } }:=Ee (B1 hy)<|Vy nj;generalize upd I _ _=H2 at L p2 ⊢;have l2:=L.t.ay h2;have m2:=L.t.ay g2;show AL y.p a.Line y.dx _ _ rfl m2 T.lc.cls T.lc.nu rfl ?_;show AL x.p a.Line x.dx _ _ rfl l2 T.lc.cls T.lc.nu rfl ?_;show⟨Am,λb H3 n3=>⟨Am,λr H4 n4=>?_⟩⟩;refine q _ _ r b ((L.same n3.same).nw n4) rfl ?_ (J.trans<|p2.trans (.of<|n3.same.trans n4.same))<|.tup (.of<|n4.same _ _ n3.get) (.cons (.str _)<|.cons (.str _) (.cons (.str _) .nil));change(⟨X.long,((X.lines.set j _).set i _).map (·.l),_,_,_,_⟩:PS)=_;rw[V0,V0];rfl
def DS:AM ["self","line","told"] ["self","line"] (Ab<|Al (top 28) 11):=.of
def Afw(F:AE K "hang" "Hall.hang" (Al (top 28) 11) f fd)(T:TxtH P w K mg a)(eV:AR P w K mg base Av 1 a.Line "turn" ["self","state"] (Iw a))(gE:AR P w K mg base (AI P w) 4 a.ak "release" ["self","line"] (JS K a))(abh:AR P w K mg base (AI P w) 5 a.ak "left_alone" ["self","other"] (SA K a)):Az P w K mg base (AI P w) 6 f fd ["self","line"] (SE K a):=by
 refine F.aS DS.fs λai A outer s H vs Q E hr h=>?_
 .obtain ⟨X,R,i,x,rfl,t,h,qz,ok,q⟩:=h;have gG:=(T.hc.cls);have abi:=(T.hc.cls);have eX:=T.lc.cls;show 4;have nd:=DS.fs.nd;refine⟨_,(@Ad _ _ _ _ _ (A8 2 DS<|A3 (Ag<|Bp (AJ Ae<|AD (Aa 1 DS) rfl)))<|Ad (AV (A1 (B5 hu) (AD (Aa 1 DS) rfl) Ae)<|Ai (A4<|Ci VR zv zw QW (AD (Aa 0 DS) rfl) (Ag<|AD (Aa 1 DS) rfl))) (Ad (AV (A1 Mp (AD (Aa 1 DS) rfl) Cv)<|Ai (A4<|Ci VR Wb Wc Dl (Aa 2 DS) (Ag<|A6 abh abi (Aa 0 DS) hr.d BH (Ag<|Aq P w K (AD (Aa 0 DS) rfl) (AD (Aa 1 DS) rfl)))))<|Ad (A4<|A6 gE gG (Aa 0 DS) hr.d BH (Ag<|Aa 1 DS)) (Ad (A4<|A6 eV eX (Aa 1 DS) hr.d AK (Ag Ae))<|Ai (AB<|Aa 2 DS)))),?_⟩;try dsimp only[av,aw]
  show AL x.p a.Line x.dx _ _ rfl (t.t.ay h) T.lc.cls T.lc.nu rfl ?_;show⟨Am,λJ H0 n0=>?_⟩;show⟨Am,λr H1 n1=>?_⟩;have O:HT K a H1 X ((r,.lst<|[J].map V.ref)::R):=(t.same n0.same).nw n1;have p1:Af H H1:=.of<|n0.same.trans n1.same;have e1:=n1.same _ _ n0.get;clear n0 n1
  apply Lk.use ‹_›;refine NP λC1 dO=>?_;have mid:∀(L:Hp)(B:HX),HT K a L B ((r,.lst<|[J].map V.ref)::R)->B.h=X.h->B.S=aB X.S x.l->B.lines=X.lines->Af H1 L->C1 [some<|.ref X.h,some<|.ref x.p,some<|.ref r] L:=by
   intro L B D dh Y pe p2;rw[dO];have h2:B.lines[i]?=some x:=by rwa[pe]
   refine NP λC2 dP=>?_;have last:∀(H3:Hp)(I:HX)(xs:List ar),HT K a H3 I ((r,.lst<|(xs.map V.ref))::R)->I.h=X.h->I.S=(CH (aB X.S x.l) x.l).2->I.lines[i]?=some x->Af L H3->BV K H3 xs (DH X.S i x.l).1->C2 [some<|.ref X.h,some<|.ref x.p,some<|.ref r] H3:=by
    intro H3 I xs t3 bx bH h3 p3 td;rw[dP,<-bx];show AZ I.h I.dx _ rfl t3.t.aA rfl ?_;show Bx I _ i x rfl t3 h3 (by rw[bH];exact ok.h) (λH4 X4 y t4 dY iy eL4 ep4 el4 p4=>?_);have h4:X4.lines[i]?=some y:=by rw[eL4];exact B1 h3
    rw [<-ep4];show AZ y.p y.dx _ rfl (t4.t.ay h4) rfl ?_;show FG y.p y.dx y.l.num y.i y.h ("rests") _ rfl ⟨t4.t.ay h4,.inr ⟨_,_,_,_,_,rfl⟩,?_⟩;obtain⟨t5,p5⟩:=t4.turn h4 "rests";show q _ _ r xs t5 (dY.trans bx) ?_ (p1.trans<|p2.trans (p3.trans<|p4.trans p5)) (td.aj<|p4.trans p5);have:=HX.iu (X:=X4) (i:=i) (y:={ y with wv:=.aa,l:=AW y.l "rests" });rw[this,iy,el4,bH];change({ CB (CH (aB X.S x.l) x.l).2 i x.l with lns:=((CH (aB X.S x.l) x.l).2.lns.set i { x.l with held:=[] }).set i (AW { x.l with held:=[] } "rests") }:PS)=_;rw[V6];rfl
   clear dP
   rw [<-dh];show AL x.p a.Line x.dx _ _ rfl (D.t.ay h2) T.lc.cls T.lc.fa rfl ?_;have one:BV K L [J] [.tuple [.str "rests",.str x.l.num]]:=.one (.tup (.of<|p2.t e1)<|.cons (.str _) (.cons (.str _) .nil)) rfl;cases ef:x.l.ao with
   |none =>
    have e2:CH (aB X.S x.l) x.l=([],aB X.S x.l):=by simp only[CH,ef]
    ext;rw[dh];exact last L B [J] D dh (by rwa[e2]) h2 .refl<|by unfold DH;rwa[e2]
   |some z =>
    obtain⟨j,lo,ej,en,nj,ha⟩:=BB<|ok.f z ef;have eSl:B.S.lns=X.S.lns:=by rw[Y];unfold aB;split<;>rfl
    have eSq:B.S.q.length<=X.q.length:=by
     rw [Y];unfold aB;split
     .exact wF
     .exact Vb _
    have iz:B.S.lns[j]?=some lo:=by rwa[eSl]
    have gH:=D.lg iz;rw[en,Y]at gH;have e2:CH (aB X.S x.l) x.l=([(BJ B.S j lo).1],(BJ B.S j lo).2):=by
     have ej3:(aB X.S x.l).lns[j]?=some lo:=by rwa[<-Y]
     rw [Y];simp only[CH,ef,gH,ej3]
    obtain⟨y,hy,rfl⟩:=Au<|D.at iz;have hv:=D.ok.line hy;rw[en]at hv;have sT:L r=some (.lst<|[J].map V.ref):=D.t.rest.hd;have pf:DR x.l.ao=.str z:=by rw[ef];rfl
    show⟨.inl ⟨rfl,_,.of sT⟩,?_⟩;show AZ B.h B.dx _ rfl D.t.aA rfl ?_;show AL B.h a.ak B.dx _ _ rfl D.t.aA T.hc.cls T.hc.li rfl ?_;show AL x.p a.Line x.dx _ _ rfl (D.t.ay h2) T.lc.cls T.lc.fa rfl ?_;apply Bx B.ld _ (.inr z) _ rfl pf (.of D.t.ld) hv;show Be B _ j y rfl D hy (by rwa[Y]) (VB eSq qz) (λH3 I b z3 t3 bx bH eL3 tE p3 eb=>?_);have hr3:H3 r=some (.lst<|[J].map V.ref):=t3.t.rest.hd;show CZ r _ _ rfl rfl hr3 (by change 1<sizeLine;decide) ?_;obtain⟨t4,p4⟩:=t3.kZ (o':=.lst<|[J,b].map V.ref) rfl;rw[dh];refine last _ I [J,b] t4 (bx.trans dh) (by rwa[e2]) (by rw[eL3];exact Ee h2 nj) (p3.trans p4) ?_;unfold DH;rw[e2];exact⟨.cons (Is.aj _ rfl (.tup (.of<|p2.t e1)<|.cons (.str _) (.cons (.str _) .nil))<|p3.trans p4)<|.cons (Is.aj _ (SF _ _ _) eb p4) .nil,by change(true && (Cs _ && true))=true;rw[SF];rfl⟩
  clear dO
  show AL x.p a.Line x.dx _ _ rfl (O.t.ay h) T.lc.cls T.lc.st rfl ?_;ext;by_cases aG:x.l.st="waits"
  .refine DL (cx<|congrArg V.str aG) ?_;show AL X.h a.ak X.dx _ _ rfl O.t.aA T.hc.cls T.hc.qu rfl ?_;refine⟨.inl ⟨rfl,_,.of O.t.q⟩,?_⟩;show AL x.p a.Line x.dx _ _ rfl (O.t.ay h) T.lc.cls T.lc.nu rfl ?_;show U4 (CZ X.qa X.q x.l.num rfl rfl O.t.q (ok.w aG) ?_);obtain⟨D,p2⟩:=O.dU<|X.q.erase x.l.num;exact mid _ _ D rfl (by unfold aB;rw[bf aG];rfl) rfl p2
  .refine D4 (cN λz=>aG<|V.str.inj z) ?_;exact mid H1 X O rfl (by unfold aB;rw[ck aG]) rfl .refl
def Ck(S:PS)(i:Nat)(ln:Ln)(d:PyData):PS:={ CB S i ln with lns:=S.lns.set i { ln with held:=[],st:="told",why:=d } }
def Lx(K:UT)(a:An):Sp:=λvs H Q _=>∃(X:HX)(R:Ax)(i:Nat)(x:LX)(wd:aU),vs=[.ref X.h,.ref x.p,.str wd]/\HT K a H X R/\X.lines[i]?=some x/\bA X.S x.l.held /\
 ∀H' X' r b,HT K a H' X' ((r,.lst [.ref b])::R)->X'.h=X.h->X'.S=Ck X.S i x.l (.tuple [.str wd,.str x.l.ae])->Af H H'->Is K H' (.ref b) (.tuple [.str wd,.str x.l.num,.str x.l.ae])->Q (.ref r) H'
def NR(K:UT)(a:An):Sp:=λvs H Q _=>∃(X:HX)(R:Ax)(i:Nat)(x:LX)(v:V)(d:PyData),vs=[.ref X.h,.ref x.p,v]/\HT K a H X R/\X.lines[i]?=some x/\bA X.S x.l.held/\Is K H v d/\Cs d=true /\
 ∀H' X' r b,HT K a H' X' ((r,.lst [.ref b])::R)->X'.h=X.h->X'.S=Ck X.S i x.l d->Af H H'->Is K H' (.ref b) (.tuple [.str "busy",.str x.l.num,d])->Q (.ref r) H'
theorem HT.told (t:HT K a H X R)(h:X.lines[i]?=some x)(B:Is K H v d)(D:Cs d=true):
  HT K a (upd H x.p<|.ins a.Line x.dx (Cj x.l.num x.i x.h "told" x.l.ae x.l.ag (DR x.l.ao) v)) { X with lines:=X.lines.set i { x with wv:=v,l:={ x.l with st:="told",why:=d } } } R/\Af H (upd H x.p<|.ins a.Line x.dx (Cj x.l.num x.i x.h "told" x.l.ae x.l.ag (DR x.l.ao) v)) :=
 t.bF h { x with wv:=v,l:={ x.l with st:="told",why:=d } } rfl rfl rfl rfl rfl rfl rfl B D
def SG{X B:HX}{i:Nat}{x y:LX}{v:V}{d:PyData}(D:B.S=CB X.S i x.l)(H:y.l={ x.l with held:=[] }):({ B with lines:=B.lines.set i { y with wv:=v,l:={ y.l with st:="told",why:=d } } }:HX).S=Ck X.S i x.l d:=by have:=HX.iu (X:=B) (i:=i) (y:={ y with wv:=v,l:={ y.l with st:="told",why:=d } });rw[this,D,H];change({ CB X.S i x.l with lns:=(X.S.lns.set i { x.l with held:=[] }).set i { x.l with held:=[],st:="told",why:=d } }:PS)=_;rw[V6];rfl
def Gb:AM ["self","line","word"] ["self","line","word"] (Ab<|Al (top 28) 9):=.of
def Afx(F:AE K "no_call" "Hall.no_call" (Al (top 28) 9) f fd)(T:TxtH P w K mg a)(gE:AR P w K mg base (AI P w) 4 a.ak "release" ["self","line"] (JS K a))(ph:AR P w K mg base Av 1 a.Line "be_told" ["self","paper"] (NI a)):Az P w K mg base (AI P w) 5 f fd ["self","line","word"] (Lx K a):=by
 refine F.aS Gb.fs λai A outer s H vs Q E L h=>?_
 .obtain ⟨X,R,i,x,wd,rfl,t,h,hd,q⟩:=h;have gG:=(T.hc.cls);have pj:=T.lc.cls;refine⟨_,(@Ad _ _ _ _ _ (A4<|A6 gE gG (Aa 0 Gb) L.d BH (Ag<|Aa 1 Gb))<|Ad (A4<|A6 ph pj (Aa 1 Gb) L.d AK (Ag<|Bp (AJ (Aa 2 Gb)<|AD (Aa 1 Gb) rfl))) (Ai<|AB (A3<|Ag (Bp<|A0 (Aa 2 Gb) (AD (Aa 1 Gb) rfl) (AD (Aa 1 Gb) rfl))))),?_⟩;try dsimp only[av,aw]
  show 1;show Bx X R i x rfl t h hd (λH1 O y D eY eZ fN dX I p1=>?_);have B:O.lines[i]?=some y:=by rw[fN];exact B1 h
  have ix:y.l.num=x.l.num:=by rw[I]
  have V:y.l.ae=x.l.ae:=by rw[I]
  rw [<-dX];show AZ y.p y.dx _ rfl (D.t.ay B) rfl ?_;show AL y.p a.Line y.dx _ _ rfl (D.t.ay B) T.lc.cls T.lc.di rfl ?_;show⟨Am,λc H2 Y=>?_⟩;have s2:=Y.same;have e2:=Y.get;have t2:=D.same s2;show⟨t2.t.ay B,?_⟩;obtain⟨J,p3⟩:=t2.told B (v:=.ref c) (d:=.tuple [.str wd,.str x.l.ae]) (.tup (.of e2)<|.cons (.str _) (.cons (by rw[V];exact .str _) .nil)) rfl;have h3:(O.lines.set i { y with wv:=.ref c,l:={ y.l with st:="told",why:=.tuple [.str wd,.str x.l.ae] } })[i]?=some { y with wv:=.ref c,l:={ y.l with st:="told",why:=.tuple [.str wd,.str x.l.ae] } }:=B1 B;generalize upd H2 _ _=H3 at J p3 ⊢;have l3:=J.t.ay h3;show AL y.p a.Line y.dx _ _ rfl l3 T.lc.cls T.lc.nu rfl ?_;show AL y.p a.Line y.dx _ _ rfl l3 T.lc.cls T.lc.di rfl ?_;show⟨Am,λb H4 nb=>?_⟩;have s4:=nb.same;have e4:=nb.get;have t4:=J.same s4;refine⟨Am,λr Hr nr=>?_⟩;have p5:=Af.of nr.same;refine q _ _ r b (t4.nw nr) eY (SG eZ I) (p1.trans<|(Af.of s2).trans (p3.trans<|(Af.of s4).trans p5))<|.tup (.of<|p5.t e4) (.cons (.str _)<|.cons (by rw[ix];exact .str _) (.cons (by rw[V];exact .str _) .nil))
def HJ:AM ["self","line","paper"] ["self","line","paper"] (Ab<|Al (top 28) 10):=.of
def Afy(F:AE K "busy" "Hall.busy" (Al (top 28) 10) f fd)(T:TxtH P w K mg a)(gE:AR P w K mg base (AI P w) 4 a.ak "release" ["self","line"] (JS K a))(ph:AR P w K mg base Av 1 a.Line "be_told" ["self","paper"] (NI a)):Az P w K mg base (AI P w) 5 f fd ["self","line","paper"] (NR K a):=by
 refine F.aS HJ.fs λai A outer s H vs Q E L h=>?_
 .obtain ⟨X,R,i,x,v,d,rfl,t,h,hd,O,D,q⟩:=h;have gG:=(T.hc.cls);have pj:=T.lc.cls;refine⟨_,(@Ad _ _ _ _ _ (A4<|A6 gE gG (Aa 0 HJ) L.d BH (Ag<|Aa 1 HJ))<|Ad (A4<|A6 ph pj (Aa 1 HJ) L.d AK (Ag<|Aa 2 HJ)) (Ai<|AB (A3<|Ag (Bp<|A0 Ae (AD (Aa 1 HJ) rfl) (Aa 2 HJ))))),?_⟩;try dsimp only[av,aw]
  show 1;show Bx X R i x rfl t h hd (λH1 V y I eY eZ fN dX Y p1=>?_);have B:V.lines[i]?=some y:=by rw[fN];exact B1 h
  have ix:y.l.num=x.l.num:=by rw[Y]
  rw [<-dX];show AZ y.p y.dx _ rfl (I.t.ay B) rfl ?_;show⟨I.t.ay B,?_⟩;obtain⟨J,p3⟩:=I.told B (v:=v) (d:=d) (Is.aj _ D O p1) D;have h3:(V.lines.set i { y with wv:=v,l:={ y.l with st:="told",why:=d } })[i]?=some { y with wv:=v,l:={ y.l with st:="told",why:=d } }:=B1 B;generalize upd H1 _ _=H3 at J p3 ⊢;have l3:=J.t.ay h3;show AL y.p a.Line y.dx _ _ rfl l3 T.lc.cls T.lc.nu rfl ?_;show⟨Am,λb H4 nb=>?_⟩;have s4:=nb.same;have e4:=nb.get;have t4:=J.same s4;refine⟨Am,λr Hr nr=>?_⟩;have p5:=Af.of nr.same;have pp:=p1.trans<|p3.trans ((Af.of s4).trans p5);refine q _ _ r b (t4.nw nr) eY (SG eZ Y) pp<|.tup (.of<|p5.t e4) (.cons (.str _)<|.cons (by rw[ix];exact .str _) (.cons (Is.aj _ D O pp) .nil))
def CP(S:PS)(i:Nat)(ln:Ln)(z:aU):PyData×PS :=
 match S.lns[Bf S.lns z]? with
 |none=>(.tuple [.str "none",.str ln.num,.str ln.ae],Ck S i ln (.tuple [.str "none",.str ln.ae]))
 |some lc=>if lc.st="rests" then(.tuple [.str "rings",.str ln.num,.str z],{ S with lns:=(S.lns.set i { ln with st:="rings",ao:=some lc.num }).set (Bf S.lns z) { lc with st:="rung",ao:=some ln.num } })
  else(.tuple [.str "busy",.str ln.num,.tuple [.str "line",.str z,.str lc.st]],Ck S i ln (.tuple [.str "line",.str z,.str lc.st]))
def SH(K:UT)(a:An):Sp:=λvs H Q _=>∃(X:HX)(R:Ax)(i:Nat)(x:LX)(z:aU),vs=[.ref X.h,.ref x.p,.str z]/\HT K a H X R/\X.lines[i]?=some x/\bA X.S x.l.held/\x.l.st≠"rests" /\
 ∀H' X' r b,HT K a H' X' ((r,.lst [.ref b])::R)->X'.h=X.h->X'.S=(CP X.S i x.l z).2->Af H H'->Is K H' (.ref b) (CP X.S i x.l z).1->Q (.ref r) H'
def Ly (h:z ∉ lns.map (·.num)):lns[Bf lns z]?=none:=by
 have:Bf lns z=lns.length:=by unfold Bf;rw[List.idxOf_eq_length h,UW]
 rw [this];exact xY<|Vb _
def HT.abj{H:Hp}{X:HX}{R:Ax}(t:HT K a H X R){i j:Nat}{x y:LX}(B:X.lines[i]?=some x)(D:X.lines[j]?=some y)(n:i≠j):x.p≠y.p:=λe=>by
 have I:=t.t.ay B;rw[e,t.t.ay D]at I;have J:HO.ins a.Line y.dx y.fs=HO.ins a.Line x.dx x.fs:=Vq I;have L:y.fs=x.fs:=by injection J
 have O:V.str y.l.num=V.str x.l.num:=by have:=congrArg (λl:List (aU×V)=>(l[0]?).map (·.2)) L;exact Vq this
 exact F8 t.ok.num (i:=i) (j:=j) (by rw[Va,B];rfl) (by rw[Va,D];rfl) n (V.str.inj O).symm
def Dx:AM ["self","line","figures","called"] ["self","line","figures"] (Ab<|Al (top 28) 8):=.of
def Afz(F:AE K "to_line" "Hall.to_line" (Al (top 28) 8) f fd)(T:TxtH P w K mg a)(jN:AR P w K mg base (AI P w) 5 a.ak "no_call" ["self","line","word"] (Lx K a))(pq:AR P w K mg base (AI P w) 5 a.ak "busy" ["self","line","paper"] (NR K a))(Y:AR P w K mg base Av 1 a.Line "ring" ["self","called"] (So a)):Az P w K mg base (AI P w) 6 f fd ["self","line","figures"] (SH K a):=by
 refine F.aS Dx.fs λai A outer s H vs Q E L h=>?_
 .obtain ⟨X,R,i,x,z,rfl,t,h,hd,nr0,q⟩:=h;have jO:=(T.hc.cls);have pv:=(T.hc.cls);have abl:=T.lc.cls;have hu:=L.units;have nd:=Dx.fs.nd;refine⟨_,(@Ad _ _ _ _ _ (AV (Hn P w K (Aa 2 Dx)<|AD (Aa 0 Dx) rfl)<|Ai (AB<|A6 jN jO (Aa 0 Dx) L.d BH (AJ (Aa 1 Dx) Ae)))<|Ad (A8 3 Dx<|Aq P w K (AD (Aa 0 Dx) rfl) (Aa 2 Dx)) (Ad (AV (A1 (E8 hu) (AD (Aa 3 Dx) rfl) Ae)<|Ai (AB<|A6 pq pv (Aa 0 Dx) L.d BH (AJ (Aa 1 Dx)<|Bp (A0 Ae (Aa 2 Dx)<|AD (Aa 3 Dx) rfl))))<|Ad (A4<|A6 Y abl (Aa 1 Dx) L.d AK (Ag<|Aa 3 Dx)) (Ai<|AB (A3<|Ag (Bp<|A0 Ae (AD (Aa 1 Dx) rfl) (Aa 2 Dx)))))),?_⟩;try dsimp only[av,aw]
  show AL X.h a.ak X.dx _ _ rfl t.t.aA T.hc.cls T.hc.li rfl ?_;apply AZ X.ld _ (.inr z) rfl rfl (.of t.t.ld);by_cases m:z∈X.lines.map (·.l.num)
  .obtain ⟨j,y,hy,rfl⟩:=Sn m;have hv:=t.ok.line hy;have ej:X.S.lns[j]?=some y.l:=by change(X.lines.map (·.l))[j]?=_;rw[Va,hy];rfl
   have ei:=t.lg ej;rw[hv];show AL X.h a.ak X.dx _ _ rfl t.t.aA T.hc.cls T.hc.li rfl ?_;show Bx X.ld _ (.inr y.l.num) _ rfl rfl (.of t.t.ld) hv ?_;show AL y.p a.Line y.dx _ _ rfl (t.t.ay hy) T.lc.cls T.lc.st rfl ?_;ext;by_cases B:y.l.st="rests"
   .have D:CP X.S i x.l y.l.num=(.tuple [.str "rings",.str x.l.num,.str y.l.num],{ X.S with lns:=(X.S.lns.set i { x.l with st:="rings",ao:=some y.l.num }).set j { y.l with st:="rung",ao:=some x.l.num } }):=by
     simp only[CP,ei,ej,bf B]
    rw [D]at q;have nj:i≠j:=λe=>by subst e;rw[h]at hy;cases hy;exact nr0 B
    have np:=t.abj h hy nj;rw[cx<|congrArg V.str B];apply BQ;show AZ x.p x.dx _ rfl (t.t.ay h) rfl ?_;ext;have lx:=t.ok.lx i x h;have ly:=t.ok.lx j y hy;refine⟨np,t.t.ay h,t.t.ay hy,?_⟩;obtain⟨t1,p1⟩:=t.bF h { x with l:={ x.l with st:="rings",ao:=some y.l.num } } rfl rfl rfl rfl rfl rfl rfl lx.w lx.wt;have h1:(X.lines.set i { x with l:={ x.l with st:="rings",ao:=some y.l.num } })[j]?=some y:=Ee hy nj;obtain⟨I,p2⟩:=t1.bF h1 { y with l:={ y.l with st:="rung",ao:=some x.l.num } } rfl rfl rfl rfl rfl rfl rfl (Is.aj _ ly.wt ly.w p1) ly.wt;have g2:((X.lines.set i { x with l:={ x.l with st:="rings",ao:=some y.l.num } }).set j { y with l:={ y.l with st:="rung",ao:=some x.l.num } })[i]?=some { x with l:={ x.l with st:="rings",ao:=some y.l.num } }:=Ee (B1 h)<|Vy nj;generalize upd (upd H _ _) _ _=H2 at I p2 ⊢;have l2:=I.t.ay g2;show AL x.p a.Line x.dx _ _ rfl l2 T.lc.cls T.lc.nu rfl ?_;show⟨Am,λb O nb=>?_⟩;have s3:=nb.same;have e3:=nb.get;have J:=I.same s3;refine⟨Am,λr Hr nr=>?_⟩;have p4:=Af.of nr.same;refine q _ _ r b (J.nw nr) rfl ?_ (p1.trans<|p2.trans ((Af.of s3).trans p4))<|.tup (.of<|p4.t e3) (.cons (.str _)<|.cons (.str _) (.cons (.str _) .nil));change(⟨X.long,((X.lines.set i _).set j _).map (·.l),_,_,_,_⟩:PS)=_;rw[V0,V0];rfl
   .have D:CP X.S i x.l y.l.num=(.tuple [.str "busy",.str x.l.num,.tuple [.str "line",.str y.l.num,.str y.l.st]],Ck X.S i x.l<|.tuple [.str "line",.str y.l.num,.str y.l.st]):=by
     simp only[CP,ei,ej,ck B]
    rw [D]at q;rw[cN λe=>B<|V.str.inj e];apply B4;show 1;show AL y.p a.Line y.dx _ _ rfl (t.t.ay hy) T.lc.cls T.lc.st rfl ?_;show⟨Am,λc H2 nc=>?_⟩;have s2:=nc.same;have e2:=nc.get;have I:=t.same s2;refine⟨X,R,i,x,.ref c,.tuple [.str "line",.str y.l.num,.str y.l.st],rfl,I,h,hd,.tup (.of e2)<|.cons (.str _) (.cons (.str _)<|.cons (.str _) .nil),rfl,λO X3 r b J bx bH p3 ib=>?_⟩;exact q O X3 r b J bx bH ((Af.of s2).trans p3) ib
  .have en:X.S.lns[Bf X.S.lns z]?=none:=Ly (by change z ∉ (X.lines.map (·.l)).map (·.num);rwa[Vn]);have D:CP X.S i x.l z=(.tuple [.str "none",.str x.l.num,.str x.l.ae],Ck X.S i x.l<|.tuple [.str "none",.str x.l.ae]):=by
    simp only[CP,en]
   rw [D]at q;rw[t.ok.cH m];show 1;ext;exact⟨X,R,i,x,"none",rfl,t,h,hd,λO X3 r b J bx bH p3 ib=>q O X3 r b J bx bH p3 ib⟩
noncomputable def BK(S:PS)(z:aU):Option Gr:=S.az.find? λg=>decide (g.pre=z)
def JV{l:List Gr}(D:(l.map (·.pre)).Nodup){i:Nat}{g:Gr}(h:l[i]?=some g):l.find? (λy=>decide (y.pre=g.pre))=some g:=by
 induction l generalizing i with
 |nil=>simp at h
 |cons y l ih =>
  have B:=Vr.mp D;cases i with
  |zero =>
   have e:y=g:=by simpa using h
   subst e;rw[Xb,cx rfl]
  |succ i =>
   have h:l[i]?=some g:=by simpa using h
   rw [Xb,cN λe=>B.1<|by change y.pre∈_;rw[e];exact Ve.mpr ⟨g,Vh h,rfl⟩];exact ih B.2 h
def Lz{l:List Gr}{z:aU}(h:z ∉ l.map (·.pre)):l.find? (λy=>decide (y.pre=z))=none:=by rw[zx];intro y B e;exact h<|by rw[<-of_decide_eq_true e];exact Ve.mpr ⟨y,B,rfl⟩
noncomputable def JW:V->PyData
 |.str z=>.str z
 |_=>.none
def C9(g:Gr):List PyData:=(Cy g.hs (λk=>g.js.getD k false) g.hs.length).map JW
noncomputable def bX(g:Gr)(k:Int)(bP:aU):Gr:={ g with hs:=g.hs.set k.toNat (.str bP),ts:=g.ts.set k.toNat (g.ts.getD k.toNat 0+1) }
def CQ(S:PS)(i:Nat)(ln:Ln)(z:aU):PyData×PS :=
 match BK S z with
 |none=>(.tuple [.str "none",.str ln.num,.str ln.ae],Ck S i ln (.tuple [.str "none",.str ln.ae]))
 |some g=>match Cw g.hs g.js 0 with
  |none=>(.tuple [.str "busy",.str ln.num,.tuple [.str "group",.str z,.tuple (C9 g)]],Ck S i ln (.tuple [.str "group",.str z,.tuple (C9 g)]))
  |some k=>(.tuple [.str "takes",.str ln.num,.str z,.int k],{ S with az:=S.az.map (λy=>if y.pre=z then bX y k ln.num else y),lns:=S.lns.set i { ln with held:=ln.held++[(z,k)] } })
def NS(g:Gr):Prop:=∀v∈g.hs,v=.aa\/∃z,v=.str z
theorem NT:∀{vs:List V},(∀v∈vs,∃z,v=.str z)->aQ K H vs (vs.map JW)
 |[],_=>.nil
 |v::vs,h=>by
  obtain⟨z,rfl⟩:=h v VJ;exact .cons (.str z) (NT λu m=>h u (Vw _ m))
theorem LA:∀(vs:List V),bK (vs.map JW)=true
 |[]=>rfl
 |v::vs=>by
  change(Cs (JW v) && bK (vs.map JW))=true;rw[LA vs,Bool.and_true];cases v<;>rfl
def SI (h:∀v∈hs,v=.aa\/∃z,v=.str z):∀v∈Cy hs st n,∃z,v=.str z:=by
 intro v B;obtain⟨k,_,rfl⟩:=Au<|Ve.mp B;by_cases e:hs.getD k .aa=.aa
 .rw[bf e];split
  .exact (⟨_,rfl⟩)
  .exact (⟨_,rfl⟩)
 .rw[ck e];rw[Vt]at e ⊢;cases hk:hs[k]? with
  |none=>rw[hk]at e;exact absurd rfl e
  |some u =>
   rw [hk]at e;exact(h u<|Vh hk).resolve_left e
def SJ(K:UT)(a:An):Sp:=λvs H Q _=>∃(X:HX)(R:Ax)(i:Nat)(x:LX)(z:aU),vs=[.ref X.h,.ref x.p,.str z]/\HT K a H X R/\X.lines[i]?=some x/\bA X.S x.l.held/\z≠U3 ""/\(∀g∈X.S.az,NS g)/\x.l.held.length<=9 /\
 ∀H' X' r b,HT K a H' X' ((r,.lst [.ref b])::R)->X'.h=X.h->X'.S=(CQ X.S i x.l z).2->Af H H'->Is K H' (.ref b) (CQ X.S i x.l z).1->Q (.ref r) H'
def CI:AM ["self","line","figures","group","k"] ["self","line","figures"] (Ab<|Al (top 28) 7):=.of
def AfA(F:AE K "into_group" "Hall.into_group" (Al (top 28) 7) f fd)(T:TxtH P w K mg a)(jN:AR P w K mg base (AI P w) 5 a.ak "no_call" ["self","line","word"] (Lx K a))(pq:AR P w K mg base (AI P w) 5 a.ak "busy" ["self","line","paper"] (NR K a))(oV:AR P w K mg base Av 2 a.aT "take" ["self","who"] (Sj K a))(pw:AR P w K mg base Av 2 a.aT "paper" ["self"] (Sl K a)):Az P w K mg base (AI P w) 6 f fd ["self","line","figures"] (SJ K a):=by
 refine F.aS CI.fs λai A outer s H vs Q E L h=>?_
 .obtain ⟨X,R,i,x,z,rfl,t,h,hd,z0,hg,aD,q⟩:=h;have jO:=(T.hc.cls);have pv:=(T.hc.cls);have oW:=T.gc.cls;have pB:=T.gc.cls;have hu:=L.units;have nd:=CI.fs.nd;have gI:(X.S.az.map (·.pre)).Nodup:=by change((X.groups.map (·.g)).map (·.pre)).Nodup;rw[Vn];exact t.ok.pre
  refine⟨_,(@Ad _ _ _ _ _ (AV (Hn P w K (Aa 2 CI)<|AD (Aa 0 CI) rfl)<|Ai (AB<|A6 jN jO (Aa 0 CI) L.d BH (AJ (Aa 1 CI) Ae)))<|Ad (A8 3 CI<|Aq P w K (AD (Aa 0 CI) rfl) (Aa 2 CI)) (Ad (A8 4 CI<|A6 oV oW (Aa 3 CI) L.d AK (Ag<|AD (Aa 1 CI) rfl))<|Ad (AV (A1 Gw (Aa 4 CI) Cv)<|Ai (AB<|A6 pq pv (Aa 0 CI) L.d BH (AJ (Aa 1 CI)<|Bp (A0 Ae (Aa 2 CI)<|GK pw pB (Aa 3 CI) L.d AK)))) (Ad (A4<|Ci VR Wb Wc Dl (AD (Aa 1 CI) rfl) (Ag<|Bp (AJ (Aa 2 CI)<|Aa 4 CI)))<|Ai (AB<|A3 (Ag<|Bp (Co Ae<|A0 (AD (Aa 1 CI) rfl) (Aa 2 CI) (Aa 4 CI))))))),?_⟩;try dsimp only[av,aw]
  have aZ:start ["self","line","figures","group","k"] [V.ref X.h,V.ref x.p,V.str z]=[some<|.ref X.h,some<|.ref x.p,some<|.str z,none,none]:=rfl;simp only[aZ,WQ,WR];show AL X.h a.ak X.dx _ _ rfl t.t.aA T.hc.cls T.hc.sw rfl ?_;apply AZ X.sd _ (.inr z) rfl rfl (.of t.t.sd);by_cases m:z∈X.groups.map (·.g.pre)
  .obtain ⟨j,g,B,rfl⟩:=JR m;have hv:=t.ok.oP B;have ej:X.S.az[j]?=some g.g:=by change(X.groups.map (·.g))[j]?=_;rw[Va,B];rfl
   have eg:BK X.S g.g.pre=some g.g:=JV gI ej;have gk:=t.ok.gr g<|Vh B;have rk:=t.t.ir B T.gc gk;obtain⟨gdx,gfs,ge,gF⟩:=Bz rk.ins;rw[hv];show AL X.h a.ak X.dx _ _ rfl t.t.aA T.hc.cls T.hc.sw rfl ?_;show Bx X.sd _ (.inr g.g.pre) _ rfl rfl (.of t.t.sd) hv ?_;show EF ge (gF.m _<|(by decide)) ?_;show AL x.p a.Line x.dx _ _ rfl (t.t.ay h) T.lc.cls T.lc.nu rfl ?_;show GB g.p x.l.num a.aT g.ra g.rb g.rc g.g.hs g.g.js g.g.ts rfl ⟨rk,?_⟩;cases ff:Cw g.g.hs g.g.js 0 with
   |none =>
    have O:CQ X.S i x.l g.g.pre=(.tuple [.str "busy",.str x.l.num,.tuple [.str "group",.str g.g.pre,.tuple<|C9 g.g]],Ck X.S i x.l<|.tuple [.str "group",.str g.g.pre,.tuple<|C9 g.g]):=by simp only[CQ,eg,ff]
    rw [O]at q;intro Y s1;have I:=t.same s1;have fO:=rk.same s1;obtain⟨adp,adq,ge1,gF1⟩:=Bz fO.ins;show AZ X.h X.dx _ rfl I.t.aA rfl ?_;show EF ge1 (gF1.m _<|(by decide)) ?_;refine EX g.p a.aT g.ra g.rb g.rc g.g.hs g.g.js g.g.ts rfl ⟨fO,λH2 tp J ntp pC=>?_⟩;show⟨Am,λc H3 nc=>?_⟩;have s3:=nc.same;have e3:=nc.get;have D:=(I.same J).same s3;have td:Cs (.tuple [.str "group",.str g.g.pre,.tuple<|C9 g.g])=true:=by change(true && (true && (bK (C9 g.g) && true)))=true;rw[show bK (C9 g.g)=true from LA _];rfl
    refine⟨X,R,i,x,.ref c,.tuple [.str "group",.str g.g.pre,.tuple<|C9 g.g],rfl,D,h,hd,.tup (.of e3)<|.cons (.str _) (.cons (.str _)<|.cons (.tup (.of<|s3 _ _ pC)<|NT (SI<|hg g.g (Vh ej))) .nil),td,λH4 X4 r b t4 dY iy p4 ib=>?_⟩;exact q H4 X4 r b t4 dY iy ((Af.of s1).trans<|(Af.of J).trans ((Af.of s3).trans p4)) ib
   |some k =>
    have O:CQ X.S i x.l g.g.pre=(.tuple [.str "takes",.str x.l.num,.str g.g.pre,.int k],{ X.S with az:=X.S.az.map λy=>if y.pre=g.g.pre then bX y k x.l.num else y,lns:=X.S.lns.set i { x.l with held:=x.l.held++[(g.g.pre,k)] } }):=by simp only[CQ,eg,ff]
    rw [O]at q;intro Y sx ea ec;have eb1:Y g.rb=some (.lst<|g.g.js.map V.bl):=sx _ _ (by
     intro m;simp only[Vc,VC,or_false]at m;rcases m with e|e
     .exact rk.ab e.symm
     .exact rk.bc e) rk.hb
    obtain⟨a1,p1⟩:=t.t.setG (g':={ g with g:=bX g.g k x.l.num }) B sx (λw m=>by simp only[Vc,VC,or_false]at m;exact m.elim .inl λz=>.inr<|.inr z) rfl rfl ea eb1 ec;have I:HT K a Y { X with groups:=X.groups.set j { g with g:=bX g.g k x.l.num } } R:=⟨a1,t.ok.setG p1 B rfl ⟨by change _=(g.g.hs.set _ _).length;rw[Vm];exact gk.lj,by change(g.g.ts.set _ _).length=(g.g.hs.set _ _).length;rw[Vm,Vm];exact gk.lt,by change(g.g.hs.set _ _).length<=_;rw[Vm];exact gk.z⟩⟩;have l1:Y x.p=some (.ins a.Line x.dx x.fs):=by have z:=I.t.ay h;exact z
    have tG:Y x.h=some (.lst<|x.hv.map V.ref):=by have z:=I.t.iq h;exact z
    have hvl:x.hv.length<=9:=by rwa[(t.ok.lx i x h).pr.len]
    show AL x.p a.Line x.dx _ _ rfl l1 T.lc.cls T.lc.he rfl ?_;refine⟨.inl ⟨rfl,_,.of tG⟩,?_⟩;show⟨Am,λu H2 nu=>?_⟩;have J:=nu.same;have e2:=nu.get;have t2:=I.same J;show CZ x.h _ _ rfl rfl (J _ _ tG) (by rw[UW,U0];omega) ?_;obtain⟨D,p3⟩:=t2.kU h e2 aD;have h3:(X.lines.set i { x with hv:=x.hv++[u],l:={ x.l with held:=x.l.held++[(g.g.pre,k)] } })[i]?=some { x with hv:=x.hv++[u],l:={ x.l with held:=x.l.held++[(g.g.pre,k)] } }:=B1 h;generalize upd H2 _ _=H3 at D p3 ⊢;have l3:=D.t.ay h3;show AL x.p a.Line x.dx _ _ rfl l3 T.lc.cls T.lc.nu rfl ?_;show⟨Am,λb H4 nb=>?_⟩;have s4:=nb.same;have e4:=nb.get;have t4:=D.same s4;refine⟨Am,λr Hr nr=>?_⟩;have p5:=Af.of nr.same;refine q _ _ r b (t4.nw nr) rfl ?_ (p1.trans<|(Af.of J).trans (p3.trans<|(Af.of s4).trans p5))<|.tup (.of<|p5.t e4) (.cons (.str _)<|.cons (.str _) (.cons (.str _)<|.cons (.int _) .nil));have e5:=HX.oR (X:=X) (i:=j) (g:=g) (g':={ g with g:=bX g.g k x.l.num }) (h:=λy=>bX y k x.l.num) t.ok.pre B rfl;have e6:=HX.iu (X:={ X with groups:=X.groups.set j { g with g:=bX g.g k x.l.num } }) (i:=i) (y:={ x with hv:=x.hv++[u],l:={ x.l with held:=x.l.held++[(g.g.pre,k)] } });exact e6.trans<|by rw[e5]
  .have en:BK X.S z=none:=Lz (by change z ∉ (X.groups.map (·.g)).map (·.pre);rwa[Vn]);have O:CQ X.S i x.l z=(.tuple [.str "none",.str x.l.num,.str x.l.ae],Ck X.S i x.l<|.tuple [.str "none",.str x.l.ae]):=by
    simp only[CQ,en]
   rw [O]at q;rw[t.ok.sW z0 m];show 1;ext;exact⟨X,R,i,x,"none",rfl,t,h,hd,λH3 X3 r b D bx bH p3 ib=>q H3 X3 r b D bx bH p3 ib⟩
noncomputable def Gd:List aU:=["1","2","3","4","5","6","7","8","9","0"]
noncomputable def Ef(n:Int):aU:=Gd.getD (n-1).toNat ""
def AfB (h:1<=n/\n<=10):Cd (Gd.map V.str) (n-1)=some (.str<|Ef n):=by
 have B:∀m:Nat,m<10->Cd (Gd.map V.str) (m:Int)=some (.str<|Gd.getD m ""):=(by decide +kernel)
 have e:n-1=((n-1).toNat:Int):=(by omega)
 rw [e];exact B _<|(by omega)
def JY (h:1<=n/\n<=10):(Ef n).length=1:=by
 have B:∀m:Nat,m<10->(Gd.getD m "").length=1:=(by decide +kernel)
 exact B _<|(by omega)
structure TxtG(P:UZ)(w:UU)(K:UT)(mg:aU->Option af)(a:An):Prop extends TxtH P w K mg a where
 pF:mg "FIGURES"=some (.ref a.ju)
 pG:∀H,Bn K H a.ju (Gd.map V.str)
 tH:mg "NoFigure"=some (.ref a.jt)
 abm:Xt K a.jt [.type "ValueError",.type "Exception",.type "BaseException",.type "object"] "ValueError.__new__"=true
def SK(a:An):Sp:=λvs H Q E=>∃n:Int,vs=[.int n]/\if 1<=n/\n<=10 then Q (.str (Ef n)) H else E (.ref a.jt) none H
def Ez(S:PS)(i:Nat)(ln:Ln):List PyData×PS :=
 if ln.ag+1<=10 then([],{ S with lns:=S.lns.set i { ln with ag:=ln.ag+1 } })
 else([.tuple [.str "over",.str ln.num,.str ln.ae]],Ck { S with lns:=S.lns.set i { ln with ag:=ln.ag+1 } } i { ln with ag:=ln.ag+1 } (.tuple [.str "over",.str ln.ae]))
def SM(K:UT)(a:An):Sp:=λvs H Q _=>∃(X:HX)(R:Ax)(i:Nat)(x:LX),vs=[.ref X.h,.ref x.p]/\HT K a H X R/\X.lines[i]?=some x/\bA { X.S with lns:=X.S.lns.set i { x.l with ag:=x.l.ag+1 } } x.l.held /\
 ∀H' X' r xs,HT K a H' X' ((r,.lst (xs.map V.ref))::R)->X'.h=X.h->X'.S=(Ez X.S i x.l).2->Af H H'->BV K H' xs (Ez X.S i x.l).1->Q (.ref r) H'
noncomputable def Ak(ln:Ln):Ln:={ ln with ae:=ln.ae++Ef ln.ag,ag:=0 }
def Dr(S:PS)(i:Nat)(ln:Ln):PyData×PS :=
 let S1:PS:={ S with lns:=S.lns.set i (Ak ln) }
 if ((Ak ln).ae.length:Int)<=S.long-2 then CQ S1 i (Ak ln) (Ak ln).ae
 else if ((Ak ln).ae.length:Int)<S.long then(.tuple [.str "figure",.str ln.num,.str (Ak ln).ae],S1)
 else CP S1 i (Ak ln) (Ak ln).ae
structure JZ(S:PS)(i:Nat)(ln:Ln):Prop where
 p1:ln.ag<=10
 p0:0<=ln.ag
 st:ln.st≠"rests"
 f:ln.ae.length<=100
 hg:∀g∈S.az,NS g
 aD:ln.held.length<=9
 h:bA { S with lns:=S.lns.set i (Ak ln) } ln.held
def SN(K:UT)(a:An):Sp:=λvs H Q E=>∃(X:HX)(R:Ax)(i:Nat)(x:LX),vs=[.ref X.h,.ref x.p]/\HT K a H X R/\X.lines[i]?=some x/\JZ X.S i x.l /\
 (x.l.ag=0->E (.ref a.hJ) none H) /\
 (x.l.ag≠0->∀H' X' r b,HT K a H' X' ((r,.lst [.ref b])::R)->X'.h=X.h->X'.S=(Dr X.S i x.l).2->Af H H'->Is K H' (.ref b) (Dr X.S i x.l).1->Q (.ref r) H')
def LB:AM ["many"] ["many"] (Ab<|top 15):=.of
def SO:Gm (Ab<|top 15) "FIGURES":=.of
def AfC:Gm (Ab<|top 15) "within":=.of
def AfD:Gm (Ab<|top 15) "len":=.of
def AfE:Gm (Ab<|top 15) "NoFigure":=.of
def AfF(F:AE K "figure_of" "figure_of" (top 15) f fd)(T:TxtG P w K mg a)(D:Bt P w K mg base Av 1 "within" ["number","least","most"] Ir):Az P w K mg base (AI P w) 2 f fd ["many"] (SK a):=by
 refine F.aS LB.fs λI A outer s H vs Q E B h=>?_
 .obtain ⟨n,rfl,q⟩:=h;have hu:=B.units;have J:=LB.fs.nd;refine⟨_,(@Ad _ _ _ _ _ (AV (DY<|Dj (A9 D AfC B.d AK<|A0 (Aa 0 LB) Aj (Bo B8 AfD T.aR B0<|Ag (Ea (v:=.ref a.ju) SO T.pF rfl))))<|Ai (DN DM AfE rfl T.abm T.tH<|Ag Ae))<|Ai (AB<|AN AO (Ea (v:=.ref a.ju) SO T.pF rfl) (Ar DZ (Aa 0 LB) Aj) (λ_ _=>rfl))),?_⟩;try dsimp only[av,aw]
  show U4 (Bb _ _ rfl (.inr<|T.pG _) ?_);apply BO n 1 _ rfl;ext;have e:((V1 V.str Gd).length:Int)=10:=rfl;rw[e];by_cases h:1<=n/\n<=10
  .rw[cx h.1,cx h.2];apply BQ;ext;rw[bf h]at q;exact U4<|U6 (Ep _ _ _ _ rfl ⟨rfl,T.pG _,AfB h,q⟩)
  .rw[ck h]at q;have e:(decide (1<=n) && decide (n<=10))=false:=by
    rw [Bool.and_eq_false_iff,decide_eq_false_iff_not,decide_eq_false_iff_not];omega
   rw [e];apply B4;exact⟨(by decide),q⟩
def J0:AM ["self","line"] ["self","line"] (Ab<|Al (top 28) 5):=.of
def AfG:Gm (Ab<|Al (top 28) 5) "len":=.of
def AfH:Gm (Ab<|Al (top 28) 5) "FIGURES":=.of
def AfI(F:AE K "pulse" "Hall.pulse" (Al (top 28) 5) f fd)(T:TxtG P w K mg a)(jN:AR P w K mg base (AI P w) 5 a.ak "no_call" ["self","line","word"] (Lx K a)):Az P w K mg base (AI P w) 6 f fd ["self","line"] (SM K a):=by
 refine F.aS J0.fs λai A outer s H vs Q E hr h=>?_
 .obtain ⟨X,R,i,x,rfl,t,h,hd,q⟩:=h;have jO:=(T.hc.cls);have O:=t.ok.lx i x h;refine⟨_,(@Ad _ _ _ _ _ (P8 (Aa 1 J0) Aj P9)<|Ad (AV (A1 Jk (AD (Aa 1 J0) rfl)<|Bo B8 AfG T.aR B0 (Ag<|Ea (v:=.ref a.ju) AfH T.pF rfl))<|Ai (AB<|CV B3)) (Ai<|AB (A6 jN jO (Aa 0 J0) hr.d BH<|AJ (Aa 1 J0) Ae))),?_⟩;try dsimp only[av,aw]
  show AL x.p a.Line x.dx _ _ rfl (t.t.ay h) T.lc.cls T.lc.pu rfl ?_;show⟨x.dx,_,t.t.ay h,(VL rfl),?_⟩;obtain⟨B,D⟩:=t.bF h { x with l:={ x.l with ag:=x.l.ag+1 } } rfl rfl rfl rfl rfl rfl rfl O.w O.wt;change HT K a (upd H x.p<|.ins a.Line x.dx (A7 "pulses" (.int<|x.l.ag+1) x.fs)) _ _ at B;change Af _ (upd H x.p<|.ins a.Line x.dx (A7 "pulses" (.int<|x.l.ag+1) x.fs))at D;have Y:(X.lines.set i { x with l:={ x.l with ag:=x.l.ag+1 } })[i]?=some { x with l:={ x.l with ag:=x.l.ag+1 } }:=B1 h;generalize upd H _ _=H1 at B D ⊢;have l1:=B.t.ay Y;have J:=HX.iu (X:=X) (i:=i) (y:={ x with l:={ x.l with ag:=x.l.ag+1 } });show AL x.p a.Line x.dx _ _ rfl l1 T.lc.cls T.lc.pu rfl ?_;show U4 (Bb _ _ rfl (.inr<|T.pG _) ?_);have e:((V1 V.str Gd).length:Int)=10:=rfl;rw[e];ext;by_cases I:x.l.ag+1<=10
  .have L:Ez X.S i x.l=([],{ X.S with lns:=X.S.lns.set i { x.l with ag:=x.l.ag+1 } }):=bf I;rw[L]at q;apply DL (cx I);show⟨Am,λr nr=>?_⟩;exact q _ _ r [] (B.new nr) rfl J (D.trans<|.new nr) .nil
  .have L:Ez X.S i x.l=([.tuple [.str "over",.str x.l.num,.str x.l.ae]],Ck { X.S with lns:=X.S.lns.set i { x.l with ag:=x.l.ag+1 } } i { x.l with ag:=x.l.ag+1 }<|.tuple [.str "over",.str x.l.ae]):=ck I;rw[L]at q;apply D4 (cN I);show AZ X.h X.dx _ rfl B.t.aA rfl ?_;show Dv { X with lines:=X.lines.set i { x with l:={ x.l with ag:=x.l.ag+1 } } } R i { x with l:={ x.l with ag:=x.l.ag+1 } } ("over") rfl ⟨B,Y,by rwa[J],λH3 X3 r b t3 bx bH p3 ib=>?_⟩;rw[J]at bH;exact q H3 X3 r [b] t3 bx bH (D.trans p3)<|.one ib rfl
def Dc:AM ["self","line","many"] ["self","line"] (Ab<|Al (top 28) 6):=.of
def AfJ:Gm (Ab<|Al (top 28) 6) "len":=.of
def AfK:Gm (Ab<|Al (top 28) 6) "figure_of":=.of
def AfL:Gm (Ab<|Al (top 28) 6) "NotSo":=.of
def AfM(F:AE K "gap" "Hall.gap" (Al (top 28) 6) f fd)(T:TxtG P w K mg a)(pH:Bt P w K mg base (AI P w) 2 "figure_of" ["many"] (SK a))(abn:AR P w K mg base (AI P w) 6 a.ak "into_group" ["self","line","figures"] (SJ K a))(abo:AR P w K mg base (AI P w) 6 a.ak "to_line" ["self","line","figures"] (SH K a)):Az P w K mg base (AI P w) 7 f fd ["self","line"] (SN K a):=by
 refine F.aS Dc.fs λai A outer s H vs Q E hr h=>?_
 .obtain ⟨X,R,i,x,rfl,t,h,ok,q0,q⟩:=h;have abp:=(T.hc.cls);have abq:=(T.hc.cls);show 4;have nd:=Dc.fs.nd;have lx:=t.ok.lx i x h;refine⟨_,(@Ad _ _ _ _ _ (AV (A1 (B5 hu) (AD (Aa 1 Dc) rfl) Aj)<|Ai (DN DM AfL rfl T.sY T.oQ<|Ag Ae))<|Ad (P8 (Aa 1 Dc) (A9 pH AfK hr.d BH<|Ag (AD (Aa 1 Dc) rfl)) Ad4) (Ad (BM (Aa 1 Dc) Aj rfl)<|Ad (A8 2 Dc<|Bo B8 AfJ T.aR B0 (Ag<|AD (Aa 1 Dc) rfl)) (Ad (AV (A1 Jk (Aa 2 Dc)<|Ar DZ (AD (Aa 0 Dc) rfl) Aj)<|Ai (AB<|A6 abn abp (Aa 0 Dc) hr.d BH (AJ (Aa 1 Dc)<|AD (Aa 1 Dc) rfl)))<|Ad (AV (A1 Jj (Aa 2 Dc)<|AD (Aa 0 Dc) rfl)<|Ai (AB<|CV (Ag<|Fx (A0 Ae (AD (Aa 1 Dc) rfl)<|AD (Aa 1 Dc) rfl)))) (Ai<|AB (A6 abo abq (Aa 0 Dc) hr.d BH<|AJ (Aa 1 Dc) (AD (Aa 1 Dc) rfl)))))),?_⟩;try dsimp only[av,aw]
  show AL x.p a.Line x.dx _ _ rfl (t.t.ay h) T.lc.cls T.lc.pu rfl ?_;ext;by_cases hp:x.l.ag=0
  .refine DL (cx<|congrArg V.int hp) ?_;exact⟨Am,q0 hp⟩
  .have q:=q hp;apply D4 (cN λe=>hp<|V.int.inj e);have pr:1<=x.l.ag/\x.l.ag<=10:=⟨by have:=ok.p0;omega,ok.p1⟩;have fl:=JY pr;show AL x.p a.Line x.dx _ _ rfl (t.t.ay h) T.lc.cls T.lc.di rfl ?_;show AL x.p a.Line x.dx _ _ rfl (t.t.ay h) T.lc.cls T.lc.pu rfl ?_;ext;rw[bf pr];show⟨(by rw[fl,U0];have:=ok.f;omega),?_⟩;refine⟨x.dx,_,t.t.ay h,(VL rfl),?_⟩;show Be x.p a.Line x.dx _ rfl Ao T.lc.cls T.lc.pu (VL rfl) ?_;rw[FX];obtain⟨B,I⟩:=t.bF h { x with l:=Ak x.l } rfl rfl rfl rfl rfl rfl rfl lx.w lx.wt;change HT K a (upd H x.p<|.ins a.Line x.dx (A7 "pulses" (.int 0)<|A7 "dialled_so_far" (.str<|x.l.ae++Ef x.l.ag) x.fs)) _ _ at B;change Af _ (upd H x.p<|.ins a.Line x.dx (A7 "pulses" (.int 0)<|A7 "dialled_so_far" (.str<|x.l.ae++Ef x.l.ag) x.fs))at I;have h1:(X.lines.set i { x with l:=Ak x.l })[i]?=some { x with l:=Ak x.l }:=B1 h;generalize upd H _ _=J at B I ⊢;have L:J x.p=some (.ins a.Line x.dx<|Cj x.l.num x.i x.h x.l.st (Ak x.l).ae 0 (DR x.l.ao) x.wv):=by have z:=B.t.ay h1;exact z
   have x1:J X.h=some (.ins a.ak X.dx<|Hy X.long X.ld X.sd X.qa X.da):=B.t.aA;have D:=HX.iu (X:=X) (i:=i) (y:={ x with l:=Ak x.l });have gl:(Ak x.l).ae.length=x.l.ae.length+1:=by change(x.l.ae++Ef x.l.ag).length=_;rw[Bh,fl]
   show AL x.p a.Line x.dx _ _ rfl L T.lc.cls T.lc.di rfl ?_;refine U6<|D5 ((Ak x.l).ae) rfl (by rw[U0,gl];have:=ok.f;omega) ?_;show AL X.h a.ak X.dx _ _ rfl x1 T.hc.cls T.hc.lo rfl ?_;ext;by_cases O:((Ak x.l).ae.length:Int)<=X.long-2
   .have Y:Dr X.S i x.l=CQ { X.S with lns:=X.S.lns.set i (Ak x.l) } i (Ak x.l) (Ak x.l).ae:=bf O;rw[Y]at q;apply DL (cx O);show AZ X.h X.dx _ rfl x1 rfl ?_;show AL x.p a.Line x.dx _ _ rfl L T.lc.cls T.lc.di rfl ?_;show Dv { X with lines:=X.lines.set i { x with l:=Ak x.l } } R i { x with l:=Ak x.l } ((Ak x.l).ae) rfl ⟨B,h1,by rw[D];exact ok.h,?_,by rw[D];exact ok.hg,ok.aD,λH3 X3 r b t3 bx bH p3 ib=>?_⟩
    .intro e;rw[e]at gl;have:(U3 "").length=0:=rfl;omega
    .rw[D]at bH ib;exact q H3 X3 r b t3 bx bH (I.trans p3) ib
   .refine D4 (cN O) ?_;show AL X.h a.ak X.dx _ _ rfl x1 T.hc.cls T.hc.lo rfl ?_;ext;by_cases c2:((Ak x.l).ae.length:Int)<X.long
    .have Y:Dr X.S i x.l=(.tuple [.str "figure",.str x.l.num,.str (Ak x.l).ae],{ X.S with lns:=X.S.lns.set i (Ak x.l) }):=(ck O).trans<|bf c2;rw[Y]at q;apply DL (cx c2);show AL x.p a.Line x.dx _ _ rfl L T.lc.cls T.lc.nu rfl ?_;show AL x.p a.Line x.dx _ _ rfl L T.lc.cls T.lc.di rfl ?_;show⟨Am,λb nb=>?_⟩;have s4:=(Ah.refl J).upd (o:=.tup [.str "figure",.str x.l.num,.str (Ak x.l).ae]) nb;have e4:(upd J b<|.tup [.str "figure",.str x.l.num,.str (Ak x.l).ae]) b=some (.tup [.str "figure",.str x.l.num,.str (Ak x.l).ae]):=Ao;have t4:=B.same s4;generalize upd J _ _=H4 at s4 e4 t4 ⊢;refine⟨Am,λr nr=>?_⟩;have p5:Af H4 (upd H4 r<|.lst [.ref b]):=.new nr;exact q _ _ r b (t4.new nr) rfl D (I.trans<|(Af.of s4).trans p5)<|.tup (.of<|p5.t e4) (.cons (.str _)<|.cons (.str _) (.cons (.str _) .nil))
    .have Y:Dr X.S i x.l=CP { X.S with lns:=X.S.lns.set i (Ak x.l) } i (Ak x.l) (Ak x.l).ae:=(ck O).trans<|ck c2;rw[Y]at q;apply D4 (cN c2);show AZ X.h X.dx _ rfl x1 rfl ?_;show AL x.p a.Line x.dx _ _ rfl L T.lc.cls T.lc.di rfl ?_;show AL { X with lines:=X.lines.set i { x with l:=Ak x.l } } R i { x with l:=Ak x.l } ((Ak x.l).ae) rfl B h1 (by rw[D];exact ok.h) ok.st (λH3 X3 r b t3 bx bH p3 ib=>?_);rw[D]at bH ib;exact q H3 X3 r b t3 bx bH (I.trans p3) ib
noncomputable def HK(b:Bool):aU:=if b then "stick" else "mend"
noncomputable def CC(S:PS)(w:aU):Option (List V):=if w=U3 "" then some S.sk.hs else(BK S w).map (·.hs)
noncomputable def Cu(S:PS)(b:Bool)(w:aU)(k:Int):PS :=
 if w=U3 "" then { S with sk:={ S.sk with js:=S.sk.js.set k.toNat b } }
 else { S with az:=S.az.map λg=>if g.pre=w then { g with js:=g.js.set k.toNat b } else g }
def SQ(K:UT)(a:An):Sp:=λvs H Q E=>∃(X:HX)(R:Ax)(b:Bool)(z:aU)(k:Int),vs=[.ref X.h,.str (HK b),.str z,.int k]/\HT K a H X R/\Ok z /\
 match CC X.S z with
 |none=>E (.ref a.cf) none H
 |some hs=>if inR k hs=true then ∀H' X' r,HT K a H' X' ((r,.lst (([]:List ar).map V.ref))::R)->X'.h=X.h->X'.S=Cu X.S b z k->Af H H'->Q (.ref r) H' else E (.ref a.cf) none H
section
variable {K:UT}{a:An}{H:Hp}{X:HX}{R:Ax}
def HT.abr (t:HT K a H X R)(sc:GR K a a.bh)(L:F5 K a a.aT)(e:CC X.S z=some hs):
  ∃p C O D Y js ts,C∈a.bw/\(∃dx fs,H p=some (.ins C dx fs)/\Fs fs O D Y)/\C8 K a H p C O D Y hs js ts/\((z=U3 ""/\X.sk.p=p)\/∃(i:Nat)(g:RX),X.groups[i]?=some g/\g.g.pre=z/\g.p=p) /\
   ∀(b:Bool)(k:Int),∃I:HX,I.S=Cu X.S b z k/\I.h=X.h/\HT K a (upd H D<|.lst ((js.set k.toNat b).map V.bl)) I R/\Af H (upd H D<|.lst ((js.set k.toNat b).map V.bl)):=by
 by_cases B:z=U3 ""
 .have s:=t.t.jI sc t.ok.sk;obtain⟨dx,se⟩:=s.ins;have J:X.sk.k.hs=hs:=by
   unfold CC at e;rw[bf B]at e;exact Vq e
  subst J;refine⟨X.sk.p,a.bh,X.sk.ra,X.sk.rb,X.sk.rc,X.sk.k.js,X.sk.k.ts,sc.c.mem,⟨dx,_,se,Li ..⟩,s.r,.inl ⟨B,rfl⟩,λb k=>⟨{ X with sk:={ X.sk with k:={ X.sk.k with js:=X.sk.k.js.set k.toNat b } } },?_,rfl,t.abd (js':=X.sk.k.js.set k.toNat b)<|by rw[Vm],.chg s.hb rfl⟩⟩;unfold Cu;rw[bf B];rfl
 .have gI:(X.S.az.map (·.pre)).Nodup:=by change((X.groups.map (·.g)).map (·.pre)).Nodup;rw[Vn];exact t.ok.pre
  have m:z∈X.groups.map (·.g.pre):=by apply Za;intro m;unfold CC at e;rw[ck B,show BK X.S z=none from Lz<|by change z ∉ (X.groups.map (·.g)).map (·.pre);rwa[Vn]]at e;cases e
  obtain⟨i,g,h,rfl⟩:=Bz<|JR m;have ej:X.S.az[i]?=some g.g:=by change(X.groups.map (·.g))[i]?=_;rw[Va,h];rfl
  have J:g.g.hs=hs:=by unfold CC at e;rw[ck B,show BK X.S g.g.pre=some g.g from JV gI ej]at e;exact Vq e
  subst J;have r:=t.t.ir h L<|t.ok.gr g (Vh h);refine⟨g.p,a.aT,g.ra,g.rb,g.rc,g.g.js,g.g.ts,L.mem,r.ins,r,.inr ⟨i,g,h,rfl,rfl⟩,λb k=>⟨{ X with groups:=X.groups.set i { g with g:={ g.g with js:=g.g.js.set k.toNat b } } },?_,rfl,t.abf h (js':=g.g.js.set k.toNat b)<|by rw[Vm],.chg r.hb rfl⟩⟩;unfold Cu;rw[ck B];exact HX.oR (h:=λy=>{ y with js:=y.js.set k.toNat b }) t.ok.pre h rfl
def SR (e:CC S z=none):z≠U3 ""/\z ∉ S.az.map (·.pre):=by
 unfold CC at e;by_cases B:z=U3 ""
 .rw[bf B]at e;cases e
 .rw[ck B]at e;refine⟨B,λm=>?_⟩;obtain⟨g,mg,D⟩:=Au<|Ve.mp m;unfold BK at e;rw[zy,zx]at e;exact e g mg<|cx D
end
def Ge:AM ["self","word","where","k"] ["self","word","where","k"] (Ab<|Al (top 28) 2):=.of
def AfN(F:AE K "at_switch" "Hall.at_switch" (Al (top 28) 2) f fd)(T:TxtH P w K mg a)(V:AR P w K mg base (AI P w) 1 a.ak "switches_of" ["self","where"] (HH K a))(pI:∀C∈a.bw,AR P w K mg base (AI P w) 3 C "stick" ["self","k"]<|Le K a true)(pJ:∀C∈a.bw,AR P w K mg base (AI P w) 3 C "mend" ["self","k"]<|Le K a false):Az P w K mg base (AI P w) 4 f fd ["self","word","where","k"] (SQ K a):=by
 refine F.aS Ge.fs λai A outer s H vs Q E J h=>?_
 .obtain ⟨X,R,b,z,k,rfl,t,Y,q⟩:=h;have cm:=T.cm;have iB:=(T.hc.cls);have hu:=J.units;have nd:=Ge.fs.nd;refine⟨_,(@Ad _ _ _ _ _ (Ja (A1 (B5 hu) (Aa 1 Ge) Ae) (Ai<|A4 (Nf pI cm (A6 V iB (Aa 0 Ge) J.d BH<|Ag (Aa 2 Ge)) J.d BH<|Ag (Aa 3 Ge)))<|Ai (A4<|Nf pJ cm (A6 V iB (Aa 0 Ge) J.d BH<|Ag (Aa 2 Ge)) J.d BH (Ag<|Aa 3 Ge)))<|Ai (AB<|CV B3)),?_⟩;try dsimp only[av,aw]
  have D:X.S.az.map (·.pre)=X.groups.map (·.g.pre):=by change(X.groups.map (·.g)).map (·.pre)=_;rw[Vn];rfl
  cases eh:CC X.S z with
  |none =>
   rw [eh]at q;obtain⟨z0,zn⟩:=SR eh;rw[D]at zn;cases b;all_goals
    show 1;ext;exact⟨X,R,z,rfl,t,Y,λe=>absurd e z0,λi g L e=>absurd (Ve.mpr ⟨g,Vh L,e⟩) zn,λ_ _=>q⟩
  |some hs =>
   rw [eh]at q;dsimp only at q;obtain⟨p,C,ra,rb,rc,js,ts,mC,⟨dx,fs,ep,F3⟩,rk,O,bb⟩:=t.abr T.sc T.gc eh;have go:∀(cont:VK),cont (.ref p) H->HH K a [.ref X.h,.str z] H cont E:=λcont c=>by
    refine BO X R z rfl ⟨t,Y,λe=>?_,λi g L e=>?_,λn0 n=>?_⟩
    .rcases O with ⟨_,rfl⟩|⟨j,g,I,B,_⟩
     .exact c
     .exact absurd (B.trans e) (t.ok.ne g<|Vh I)
    .rcases O with ⟨B,_⟩|⟨j,g2,I,B,rfl⟩
     .exact absurd (e.trans B) (t.ok.ne g<|Vh L)
     .by_cases ij:i=j
      .subst ij;rw[L]at I;cases I;exact c
      .exact absurd (e.trans B.symm) (F8 t.ok.pre (i:=i) (j:=j) (by rw[Va,L];rfl) (by rw[Va,I];rfl) ij)
    .rcases O with ⟨B,_⟩|⟨j,g2,I,B,_⟩
     .exact absurd B n0
     .exact absurd (Ve.mpr ⟨g2,Vh I,B⟩) n
   cases b;all_goals
    show 1;ext;show 3;apply go _;apply Bx p C dx fs rfl mC ep (F3.m _<|(by decide));show GB p k C ra rb rc hs js ts rfl ⟨rk,?_⟩;by_cases hk:inR k hs=true
    .rw[bf hk]at q ⊢;obtain⟨X',e1,B,t2,p2⟩:=AG<|bb _ k;show⟨Am,λr nr=>?_⟩;exact q _ X' r (t2.new nr) B e1<|p2.trans (.new nr)
    .rw[ck hk]at q ⊢;exact q
inductive LW where
 |lift|b9|gap|bR
noncomputable def LW.wo:LW->aU
 |.lift=>"lift" |.b9=>"pulse" |.gap=>"gap" |.bR=>"hang"
noncomputable def LW.b8:LW->List aU
 |.lift=>["rests","rung"]|.b9=>["dials"]|.gap=>["dials"]|.bR=>["waits","dials","rings","talks","told"]
noncomputable def LW.fits(d:LW)(ln:Ln):Bool:=decide (ln.st∈d.b8) && (match d with|.gap=>decide (ln.ag≠0)|_=>true)
def LW.ok(d:LW)(S:PS)(i:Nat)(ln:Ln):Prop:=match d with
 |.lift=>NQ S i ln
 |.b9=>bA { S with lns:=S.lns.set i { ln with ag:=ln.ag+1 } } ln.held
 |.gap=>JZ S i ln
 |.bR=>JU S i ln
noncomputable def LW.go(d:LW)(S:PS)(i:Nat)(ln:Ln):List PyData×PS:=match d with
 |.lift=>([(CG S i ln).1],(CG S i ln).2)
 |.b9=>Ez S i ln
 |.gap=>([(Dr S i ln).1],(Dr S i ln).2)
 |.bR=>DH S i ln
def SS(K:UT)(a:An):Sp:=λvs H Q E=>∃(X:HX)(R:Ax)(d:LW)(z:aU),vs=[.ref X.h,.str d.wo,.str z]/\HT K a H X R/\Ok z/\X.q.length<1000 /\
 (z ∉ X.S.lns.map (·.num)->E (.ref a.fM) none H) /\
 ∀(i:Nat)(ln:Ln),X.S.lns[i]?=some ln->ln.num=z->Ok ln.st/\(d.fits ln=false->(d=.gap->ln.st∈d.b8->JZ X.S i ln)/\E (.ref a.hJ) none H) /\
  (d.fits ln=true->d.ok X.S i ln/\∀H' X' r xs,HT K a H' X' ((r,.lst (xs.map V.ref))::R)->X'.h=X.h->X'.S=(d.go X.S i ln).2->Af H H'->BV K H' xs (d.go X.S i ln).1->Q (.ref r) H')
def IC(z:aU)(ks:List aU):FE (.str z) (ks.map V.str)=decide (z∈ks):=by
 unfold FE;rw[List.any_map,XD,zh,decide_eq_true_eq];constructor
 .intro B;obtain⟨k,hk,e⟩:=Au B;have D:decide (k=z)=true:=by simpa [D3]using e
  rwa[<-of_decide_eq_true D]
 .exact λh=>⟨z,h,by simp[D3]⟩
def AfO:Cs (CG S i ln).1=true:=by
 unfold CG;split
 .rfl
 .split
  .rfl
  .split<;>rfl
def AfP:Cs (CP S i ln z).1=true:=by
 unfold CP;split
 .rfl
 .split<;>rfl
def AfQ:Cs (CQ S i ln z).1=true:=by
 unfold CQ;split
 .rfl
 .split
  .rename_i g _ _ _
   change(true && (true && ((true && (true && (bK (C9 g) && true))) && true)))=true;rw[show bK (C9 g)=true from LA _];rfl
  .rfl
def NU:Cs (Dr S i ln).1=true:=by
 unfold Dr;dsimp only;split
 .exact AfQ
 .split
  .rfl
  .exact AfP
def Dd:AM ["self","word","number","line"] ["self","word","number"] (Ab<|Al (top 28) 3):=.of
def AfR:Gm (Ab<|Al (top 28) 3) "WAYS":=.of
def AfS:Gm (Ab<|Al (top 28) 3) "NotSo":=.of
def AfT(F:AE K "at_line" "Hall.at_line" (Al (top 28) 3) f fd)(T:TxtG P w K mg a)(dj:AR P w K mg base (AI P w) 1 a.ak "line_of" ["self","number"] (HF K a))(abt:AR P w K mg base Av 3 a.ak "lift" ["self","line"] (SD K a))(abu:AR P w K mg base (AI P w) 6 a.ak "hang" ["self","line"] (SE K a))(abv:AR P w K mg base (AI P w) 6 a.ak "pulse" ["self","line"] (SM K a))(abw:AR P w K mg base (AI P w) 7 a.ak "gap" ["self","line"] (SN K a)):Az P w K mg base (AI P w) 8 f fd ["self","word","number"] (SS K a):=by
 refine F.aS Dd.fs λai A outer s H vs Q E Y h=>?_
 .obtain ⟨X,R,d,z,rfl,t,zk,qz,q0,q⟩:=h;have abx:=(T.hc.cls);have aby:=(T.hc.cls);have abz:=(T.hc.cls);have abA:=(T.hc.cls);have dk:=(T.hc.cls);have hu:=Y.units;have nd:=Dd.fs.nd;obtain⟨w1,w2,w3,w4,kd,sq1,sq2,sq3,sq4⟩:=DW T.b8;have B:X.S.lns.map (·.num)=X.lines.map (·.l.num):=by change(X.lines.map (·.l)).map (·.num)=_;rw[Vn];rfl
  rw [B]at q0;refine⟨_,(@Ad _ _ _ _ _ (A8 3 Dd<|A6 dj dk (Aa 0 Dd) Y.d BH (Ag<|Aa 2 Dd))<|Ad (AV (Em KJ (AD (Aa 3 Dd) rfl) (Aq P w K (Ea (v:=.ref a.gq) AfR T.aba rfl)<|Aa 1 Dd)<|by with_unfolding_all rfl)<|Ai (DN DM AfS rfl T.sY T.oQ<|Ag (Hg<|C3 Ae (C3 (JB<|Aa 1 Dd)<|C3 Ae (C3 (Jr<|AD (Aa 3 Dd) rfl) G9))))) (Ad (AV (A1 (B5 hu) (Aa 1 Dd) Ae)<|Ai (AB<|A6 abt abx (Aa 0 Dd) Y.d AK (Ag<|Aa 3 Dd)))<|Ad (AV (A1 (B5 hu) (Aa 1 Dd) Ae)<|Ai (AB<|A6 abv abz (Aa 0 Dd) Y.d BH (Ag<|Aa 3 Dd))) (Ad (AV (A1 (B5 hu) (Aa 1 Dd) Ae)<|Ai (AB<|A6 abw abA (Aa 0 Dd) Y.d BH (Ag<|Aa 3 Dd)))<|Ai (AB<|A6 abu aby (Aa 0 Dd) Y.d BH (Ag<|Aa 3 Dd))))),?_⟩;try dsimp only[av,aw]
  have aZ:start ["self","word","number","line"] [V.ref X.h,V.str d.wo,V.str z]=[some<|.ref X.h,some<|.str d.wo,some<|.str z,none]:=rfl;simp only[aZ,WQ,WR];show 1;show BO X R z rfl ⟨t,zk,λi x h ez=>?_,q0⟩;have ej:X.S.lns[i]?=some x.l:=by change(X.lines.map (·.l))[i]?=_;rw[Va,h];rfl
  obtain⟨sk,qf,qt⟩:=AU<|q i x.l ej ez;have dR:=JO sk;have e0:VD.length=0:=rfl;have e1:(U3 "no ").length=3:=(by decide +kernel)
  have e2:(U3 " of a line in the way ").length=22:=(by decide +kernel)
  have lw:d.wo.length<=10:=by cases d<;>decide +kernel
  show AL x.p a.Line x.dx _ _ rfl (t.t.ay h) T.lc.cls T.lc.st rfl ?_;ext;have key:∃tw,Ba [((.inr "lift":Ay),V.ref w1),(.inr "pulse",.ref w2),(.inr "gap",.ref w3),(.inr "hang",.ref w4)] (.inr d.wo)=some (.ref tw)/\∀H,Bn K H tw (d.b8.map V.str):=by
   cases d
   .exact ⟨w1,rfl,sq1⟩
   .exact ⟨w2,rfl,sq2⟩
   .exact ⟨w3,rfl,sq3⟩
   .exact ⟨w4,rfl,sq4⟩
  obtain⟨tw,ev,sqw⟩:=Au key;apply Bx a.gq _ (.inr d.wo) _ rfl rfl (.inr kd) ev;refine U4<|Eo tw _ rfl (.inr<|sqw _) rfl (by cases d<;>rfl) ?_;rw[IC];by_cases hw:x.l.st∈d.b8
  .rw[cx hw];cases d with
   |lift =>
    obtain⟨ok,q⟩:=qt (by unfold LW.fits;rw[cx hw];rfl);show 1;ext;exact⟨X,R,i,x,rfl,t,h,qz,ok,λD I r b J L O p ib=>q D I r [b] J L O p<|.one ib AfO⟩
   |b9 =>
    obtain⟨ok,q⟩:=qt (by unfold LW.fits;rw[cx hw];rfl);show 1;ext;exact⟨X,R,i,x,rfl,t,h,ok,λD I r xs J L O p td=>q D I r xs J L O p td⟩
   |gap =>
    show 1;ext;by_cases hp:x.l.ag=0
    .obtain ⟨ok,e⟩:=qf (by unfold LW.fits;rw[cx hw];dsimp only;rw[cN λn=>n hp];rfl);exact⟨X,R,i,x,rfl,t,h,ok rfl hw,λ_=>e,λn=>absurd hp n⟩
    .obtain ⟨ok,q⟩:=qt (by unfold LW.fits;rw[cx hw];dsimp only;rw[cx hp];rfl);exact⟨X,R,i,x,rfl,t,h,ok,λn=>absurd n hp,λ_ D I r b J L O p ib=>q D I r [b] J L O p<|.one ib NU⟩
   |bR =>
    obtain⟨ok,q⟩:=qt (by unfold LW.fits;rw[cx hw];rfl);show 1;ext;exact⟨X,R,i,x,rfl,t,h,qz,ok,λD I r xs J L O p td=>q D I r xs J L O p td⟩
  .rw[cN hw];obtain⟨_,e⟩:=qf (by unfold LW.fits;rw[cN hw];rfl);show⟨(by simp only[Bh,e0,e1,e2,U0];omega),?_⟩;show U4 (C5 _ rfl ⟨(by rw[U0];omega),_,rfl,?_⟩);refine⟨(by simp only[Bh,e0,e1,e2,U0];omega),?_⟩;show⟨(by simp only[Bh,e0,e1,e2,U0];omega),?_⟩;show AL x.p a.Line x.dx _ _ rfl (t.t.ay h) T.lc.cls T.lc.st rfl ?_;show⟨(by rw[U0];omega),?_⟩;show⟨(by simp only[Bh,e0,e1,e2,U0];omega),?_⟩;refine⟨(by simp only[Bh,e0,e1,e2,U0];omega),?_⟩;exact⟨Am,e⟩
inductive Bi where
 |bb (b:Bool) (w:aU) (k:Int)
 |line (d:LW) (z:aU)
noncomputable def Bi.vals:Bi->List V
 |.bb b w k=>[.str (HK b),.str w,.int k]
 |.line d z=>[.str d.wo,.str z]
inductive Er where
 |cH|cJ|dZ
noncomputable def Er.adr(a:An):Er->ar
 |.cH=>a.fM|.cJ=>a.cf|.dZ=>a.hJ
noncomputable def Bi.res(S:PS):Bi->Er ⊕ (List PyData×PS)
 |.bb b w k=>match CC S w with
  |none=>.inl .cJ
  |some hs=>if inR k hs=true then .inr ([],Cu S b w k)else .inl .cJ
 |.line d z=>match S.lns[Bf S.lns z]? with
  |none=>.inl .cH
  |some ln=>if d.fits ln=true then .inr (d.go S (Bf S.lns z) ln)else .inl .dZ
def Bi.pre(S:PS):Bi->Prop
 |.bb _ w _=>Ok w
 |.line d z=>Ok z/\∀ln,S.lns[Bf S.lns z]?=some ln->Ok ln.st/\(d=.gap->ln.st∈d.b8->JZ S (Bf S.lns z) ln)/\(d.fits ln=true->d.ok S (Bf S.lns z) ln)
noncomputable def Dy(S:PS)(dd:ar):PS:={ S with dn:=S.dn++[.ref dd] }
def SU(K:UT)(a:An):Sp:=λvs H Q E=>∃(X:HX)(R:Ax)(d:Bi)(dd:ar),vs=[.ref X.h,.ref dd]/\HT K a H X R/\H dd=some (.tup d.vals)/\d.pre X.S/\X.q.length<1000 /\
 match d.res X.S with
 |.inl e=>∀H',Ah H H'->E (.ref (e.adr a)) none H'
 |.inr r=>Ey r.2/\r.2.dn.length<1000000/\r.1.length<=10/\∀H' X' p xs,HT K a H' X' ((p,.lst (xs.map V.ref))::R)->X'.h=X.h->X'.S=(Cz (Dy r.2 dd)).2->Af H H'->BV K H' xs (r.1++(Cz (Dy r.2 dd)).1)->Q (.ref p) H'
def At.sub (t:At H C)(s:C'.Sublist C):At H C':=⟨λc m=>t.at_ c<|s.subset m,(s.map _).nodup t.nd⟩
def HT.sub (t:HT K a H X R)(s:R'.Sublist R):HT K a H X R':=⟨t.t.sub<|(Xm _).append ((Xm _).append<|(Xm _).append ((Xm _).append s)),t.ok⟩
theorem NV:∀(n:Nat)(S:PS),(aK n S).1.length<=n
 |0,_=>Vb 0
 |n+1,S=>by
  unfold aK;split
  .exact Wn _
  .exact ZC (NV n _)
def HT.oK (t:HT K a H X R)(d':List V):HT K a (upd H X.da<|.lst d') { X with dn:=d' } R/\Af H (upd H X.da<|.lst d'):=by have B:Af H (upd H X.da<|.lst d'):=.chg t.t.dn rfl;exact⟨⟨t.t.oK,⟨t.ok.num,t.ok.pre,t.ok.ne,λi x h=>(t.ok.lx i x h).aj B,t.ok.gr,t.ok.sk⟩⟩,B⟩
def DT:AM ["self","deed","answer"] ["self","deed"] (Ab<|Al (top 28) 1):=.of
def AfU(F:AE K "do" "Hall.do" (Al (top 28) 1) f fd)(T:TxtG P w K mg a)(abB:AR P w K mg base (AI P w) 4 a.ak "at_switch" ["self","word","where","k"] (SQ K a))(abC:AR P w K mg base (AI P w) 8 a.ak "at_line" ["self","word","number"] (SS K a))(abD:AR P w K mg base Av 3 a.ak "tones" ["self"] (Sy K a)):Az P w K mg base (AI P w) 9 f fd ["self","deed"] (SU K a):=by
 refine F.aS DT.fs λai A outer s H vs Q E hr h=>?_
 .obtain ⟨X,R,d,D,rfl,t,cb,pre,qz,q⟩:=h;have abE:=(T.hc.cls);have abF:=(T.hc.cls);have abG:=(T.hc.cls);show 4;have nd:=DT.fs.nd;refine⟨_,(@Ad _ _ _ _ _ (Ja (Em Ig (AN AO (Aa 1 DT) Aj λ_ _=>rfl) (Fx<|AJ Ae Ae)<|by with_unfolding_all rfl) (Ai<|A8 2 DT (A6 abB abE (Aa 0 DT) hr.d BH<|A0 (AN AO (Aa 1 DT) Aj λ_ _=>rfl) (AN AO (Aa 1 DT) Aj λ_ _=>rfl) (AN AO (Aa 1 DT) Aj λ_ _=>rfl)))<|Ai (A8 2 DT<|A6 abC abF (Aa 0 DT) hr.d BH (AJ (AN AO (Aa 1 DT) Aj λ_ _=>rfl)<|AN AO (Aa 1 DT) Aj (λ_ _=>rfl))))<|Ad (A4<|Ci VR Wb Wc Dl (AD (Aa 0 DT) rfl) (Ag<|Aa 1 DT)) (Ai<|AB (Ar BL (Aa 2 DT)<|GK abD abG (Aa 0 DT) hr.d AK))),?_⟩;try dsimp only[av,aw]
  have aZ:start ["self","deed","answer"] [V.ref X.h,V.ref D]=[some<|.ref X.h,some<|.ref D,none]:=rfl;simp only[aZ,WQ,WR];refine NP λC hC=>?_;have rest:∀(Y:List PyData×PS),d.res X.S=.inr Y->∀(L:Hp)(B:HX)(r:ar)(xs:List ar),HT K a L B ((r,.lst<|(xs.map V.ref))::R)->B.h=X.h->B.S=Y.2->Af H L->BV K L xs Y.1->C [some<|.ref X.h,some<|.ref D,some<|.ref r] L:=by
   intro Y J L B r xs t2 eh eS p2 td;rw[J]at q;replace q:=AU q;obtain⟨cT,dz,tz,q⟩:=q;rw[hC,<-eh];have eSd:B.dn=Y.2.dn:=by rw[<-eS];rfl
   show AL B.h a.ak B.dx _ _ rfl t2.t.aA T.hc.cls T.hc.dn rfl ?_;refine⟨.inl ⟨rfl,_,.of t2.t.dn⟩,?_⟩;show CZ B.da _ _ rfl rfl t2.t.dn (by rw[U0,eSd];omega) ?_;obtain⟨t3,p3⟩:=t2.oK<|B.dn++[.ref D];have e3:({ B with dn:=B.dn++[.ref D] }:HX).S=Dy Y.2 D:=by change({ B.S with dn:=B.S.dn++[.ref D] }:PS)=_;rw[eS];rfl
   have q3:Ey (Dy Y.2 D):=⟨cT.nd,cT.ln,cT.num,cT.m0,cT.m1,cT.pl,cT.aD⟩;generalize upd L _ _=H3 at t3 p3 ⊢;have x3:=t3.t.aA;show AZ B.h B.dx _ rfl x3 rfl ?_;show 3;refine CN { B with dn:=B.dn++[.ref D] } _ rfl t3 (by rw[e3];exact q3) λH4 X4 r4 d0 dY iy t4 p4 iC=>?_;rw[e3]at iy iC;have hr4:H4 r4=some (.lst<|d0.map V.ref):=t4.t.rest.hd;have dR:H4 r=some (.lst<|(xs.map V.ref)):=t4.t.rest.tl.hd;have jP:=td.aj<|p3.trans p4;have f1:=jP.len;have f2:=iC.len;have f3:(Cz<|Dy Y.2 D).1.length<=100:=V7 (NV _ _) cT.aD;show U4 (U4<|Be r r4 _ _ rfl rfl dR hr4 (by rw[UW,UW,U0];omega) (λp np=>?_));rw[<-Vg];have t5:=(t4.new (u:=.lst<|(xs++d0).map V.ref) np).sub (R':=(p,.lst<|(xs++d0).map V.ref)::R)<|.cons₂ _ (.cons _<|.cons _ (.refl _));have p5:Af H4 (upd H4 p<|.lst ((xs++d0).map V.ref)):=.new np;exact q _ X4 p (xs++d0) t5 (dY.trans eh) iy (p2.trans<|p3.trans (p4.trans p5))<|(jP.app iC).aj p5
  clear hC
  have atd:∀{H1:Hp}{n:Nat}{v:V},Ah H H1->d.vals[n]?=some v->Bn K H1 D d.vals/\Cd d.vals (n:Int)=some v:=λI e=>⟨.of<|I _ _ cb,FC e⟩;cases d with
  |bb b z k =>
   have O:=q;show U4 (U6<|Bx D _ _ _ rfl rfl (.of cb) rfl ?_);show⟨Am,λu nu=>?_⟩;have I:=(Ah.refl H).upd (o:=.tup [.str "stick",.str "mend"]) nu;have eu:(upd H u<|.tup [.str "stick",.str "mend"]) u=some (.tup [.str "stick",.str "mend"]):=Ao;generalize upd H _ _=H1 at I eu ⊢;refine U4<|Eo u _ rfl (.inr<|.of eu) rfl rfl ?_;have ei:FE (.str<|HK b) [V.str "stick",V.str "mend"]=true:=by cases b<;>rfl
   rw [ei];have t1:=t.same I;have d1:=I _ _ cb;show AZ X.h X.dx _ rfl t1.t.aA rfl ?_;show U4 (U6<|Bx D _ _ _ rfl rfl (.of d1) rfl ?_);show U4 (U6<|Bx D _ _ _ rfl rfl (.of d1) rfl ?_);show U4 (U6<|Bx D _ _ _ rfl rfl (.of d1) rfl ?_);show 3;refine Dv X R b z k rfl ⟨t1,pre,?_⟩;cases eh:CC X.S z with
   |none =>
    have J:Bi.res X.S (.bb b z k)=.inl .cJ:=by simp only[Bi.res,eh]
    rw [J]at O;exact O H1 I
   |some hs =>
    dsimp only;by_cases hk:inR k hs=true
    .have J:Bi.res X.S (.bb b z k)=.inr ([],Cu X.S b z k):=by simp only[Bi.res,eh,bf hk]
     rw [bf hk];intro L B r t2 dh cI p2;exact rest _ J L B r [] t2 dh cI ((Af.of I).trans p2) .nil
    .have J:Bi.res X.S (.bb b z k)=.inl .cJ:=by simp only[Bi.res,eh,ck hk]
     rw [J]at O;rw[ck hk];exact O H1 I
  |line d z =>
   have O:=q;show U4 (U6<|Bx D _ _ _ rfl rfl (.of cb) rfl ?_);show⟨Am,λu nu=>?_⟩;have I:=(Ah.refl H).upd (o:=.tup [.str "stick",.str "mend"]) nu;have eu:(upd H u<|.tup [.str "stick",.str "mend"]) u=some (.tup [.str "stick",.str "mend"]):=Ao;generalize upd H _ _=H1 at I eu ⊢;refine U4<|Eo u _ rfl (.inr<|.of eu) rfl rfl ?_;have ei:FE (.str d.wo) [V.str "stick",V.str "mend"]=false:=by cases d<;>rfl
   rw [ei];have t1:=t.same I;have d1:=I _ _ cb;show AZ X.h X.dx _ rfl t1.t.aA rfl ?_;show U4 (U6<|Bx D _ _ _ rfl rfl (.of d1) rfl ?_);show U4 (U6<|Bx D _ _ _ rfl rfl (.of d1) rfl ?_);show 3;refine Be X R d z rfl t1 pre.1 qz (λzn=>?_) λi ln ej ez=>?_
   .have J:Bi.res X.S (.line d z)=.inl .cH:=by simp only[Bi.res,Ly zn]
    rw [J]at O;exact O H1 I
   .have gH:=t.lg ej;rw[ez]at gH;have iz:X.S.lns[Bf X.S.lns z]?=some ln:=by rw[gH];exact ej
    obtain⟨k1,k2,k3⟩:=AU<|pre.2 ln iz;rw[gH]at k2 k3;refine⟨k1,λhf=>⟨k2,?_⟩,λhf=>⟨k3 hf,λL B r xs t2 dh cI p2 td=>?_⟩⟩
    .have J:Bi.res X.S (.line d z)=.inl .dZ:=by simp only[Bi.res,iz,ck (show ¬d.fits ln=true by rw[hf];exact VG)]
     rw [J]at O;exact O H1 I
    .have J:Bi.res X.S (.line d z)=.inr (d.go X.S i ln):=by simp only[Bi.res,gH,ej,bf hf]
     exact rest _ J L B r xs t2 dh cI ((Af.of I).trans p2) td
def Gf(K:UT)(a:An)(sel:LX->V):Sp:=λvs H Q E=>∃(X:HX)(R:Ax)(z:aU),vs=[.ref X.h,.str z]/\HT K a H X R/\Ok z /\
 (∀(i:Nat)(x:LX),X.lines[i]?=some x->x.l.num=z->Q (sel x) H)/\(z ∉ X.lines.map (·.l.num)->E (.ref a.fM) none H)
def SV(K:UT)(a:An):Sp:=λvs H Q E=>∃(X:HX)(R:Ax)(z:aU),vs=[.ref X.h,.str z]/\HT K a H X R/\Ok z /\
 (∀(i:Nat)(x:LX),X.lines[i]?=some x->x.l.num=z->∀l,H l=none->Q (.ref l) (upd H l (.lst (x.hv.map V.ref))))/\(z ∉ X.lines.map (·.l.num)->E (.ref a.fM) none H)
def ID(K:UT)(a:An)(sel:HX->List V):Sp:=λvs H Q _=>∃(X:HX)(R:Ax),vs=[.ref X.h]/\HT K a H X R/\∀l,H l=none->Q (.ref l) (upd H l (.lst (sel X)))
def NW:AM ["self","line"] ["self","line"] (Ab<|Al (top 28) 18):=.of
def AfV(F:AE K "way" "Hall.way" (Al (top 28) 18) f fd)(T:TxtH P w K mg a)(B:AR P w K mg base (AI P w) 1 a.ak "line_of" ["self","number"] (HF K a)):Az P w K mg base (AI P w) 2 f fd ["self","line"] (Gf K a λx=>.str x.l.st):=by
 refine F.aS NW.fs λV A outer s H vs Q E D h=>?_
 .obtain ⟨X,R,z,rfl,t,I,q,J⟩:=h;have L:=(T.hc.cls);refine⟨_,(@Ai _ _ _<|AB (AD (A6 B L (Aa 0 NW) D.d BH<|Ag (Aa 1 NW)) rfl)),?_⟩;try dsimp only[av,aw]
  show 1;show BO X R z rfl ⟨t,I,λi x h O=>?_,J⟩;exact⟨x.p,a.Line,x.dx,_,_,rfl,t.t.ay h,T.lc.cls,T.lc.st,rfl,q i x h O⟩
def NX:AM ["self","line"] ["self","line"] (Ab<|Al (top 28) 19):=.of
def AfW(F:AE K "figures" "Hall.figures" (Al (top 28) 19) f fd)(T:TxtH P w K mg a)(B:AR P w K mg base (AI P w) 1 a.ak "line_of" ["self","number"] (HF K a)):Az P w K mg base (AI P w) 2 f fd ["self","line"] (Gf K a λx=>.str x.l.ae):=by
 refine F.aS NX.fs λV A outer s H vs Q E D h=>?_
 .obtain ⟨X,R,z,rfl,t,I,q,J⟩:=h;have L:=(T.hc.cls);refine⟨_,(@Ai _ _ _<|AB (AD (A6 B L (Aa 0 NX) D.d BH<|Ag (Aa 1 NX)) rfl)),?_⟩;try dsimp only[av,aw]
  show 1;show BO X R z rfl ⟨t,I,λi x h O=>?_,J⟩;exact⟨x.p,a.Line,x.dx,_,_,rfl,t.t.ay h,T.lc.cls,T.lc.di,rfl,q i x h O⟩
def NY:AM ["self","line"] ["self","line"] (Ab<|Al (top 28) 21):=.of
def AfX(F:AE K "other" "Hall.other" (Al (top 28) 21) f fd)(T:TxtH P w K mg a)(B:AR P w K mg base (AI P w) 1 a.ak "line_of" ["self","number"] (HF K a)):Az P w K mg base (AI P w) 2 f fd ["self","line"] (Gf K a λx=>DR x.l.ao):=by
 refine F.aS NY.fs λV A outer s H vs Q E D h=>?_
 .obtain ⟨X,R,z,rfl,t,I,q,J⟩:=h;have L:=(T.hc.cls);refine⟨_,(@Ai _ _ _<|AB (AD (A6 B L (Aa 0 NY) D.d BH<|Ag (Aa 1 NY)) rfl)),?_⟩;try dsimp only[av,aw]
  show 1;show BO X R z rfl ⟨t,I,λi x h O=>?_,J⟩;exact⟨x.p,a.Line,x.dx,_,_,rfl,t.t.ay h,T.lc.cls,T.lc.fa,rfl,q i x h O⟩
def NZ:AM ["self","line"] ["self","line"] (Ab<|Al (top 28) 22):=.of
def AfY(F:AE K "told_paper" "Hall.told_paper" (Al (top 28) 22) f fd)(T:TxtH P w K mg a)(B:AR P w K mg base (AI P w) 1 a.ak "line_of" ["self","number"] (HF K a)):Az P w K mg base (AI P w) 2 f fd ["self","line"] (Gf K a λx=>x.wv):=by
 refine F.aS NZ.fs λV A outer s H vs Q E D h=>?_
 .obtain ⟨X,R,z,rfl,t,I,q,J⟩:=h;have L:=(T.hc.cls);refine⟨_,(@Ai _ _ _<|AB (AD (A6 B L (Aa 0 NZ) D.d BH<|Ag (Aa 1 NZ)) rfl)),?_⟩;try dsimp only[av,aw]
  show 1;show BO X R z rfl ⟨t,I,λi x h O=>?_,J⟩;exact⟨x.p,a.Line,x.dx,_,_,rfl,t.t.ay h,T.lc.cls,T.lc.wh,rfl,q i x h O⟩
def N0:AM ["self","line"] ["self","line"] (Ab<|Al (top 28) 20):=.of
def AfZ:Gm (Ab<|Al (top 28) 20) "list":=.of
def Af0(F:AE K "holds" "Hall.holds" (Al (top 28) 20) f fd)(T:TxtH P w K mg a)(B:AR P w K mg base (AI P w) 1 a.ak "line_of" ["self","number"] (HF K a)):Az P w K mg base (AI P w) 2 f fd ["self","line"] (SV K a):=by
 refine F.aS N0.fs λV A outer s H vs Q E D h=>?_
 .obtain ⟨X,R,z,rfl,t,I,q,J⟩:=h;have L:=(T.hc.cls);refine⟨_,(@Ai _ _ _<|AB (CO (FH rfl) AfZ T.cR E9<|Ag (AD (A6 B L (Aa 0 N0) D.d BH<|Ag (Aa 1 N0)) rfl))),?_⟩;try dsimp only[av,aw]
  show 1;show BO X R z rfl ⟨t,I,λi x h O=>?_,J⟩;apply AL x.p a.Line x.dx _ _ rfl (t.t.ay h) T.lc.cls T.lc.he rfl;exact .inl ⟨x.h,_,rfl,.inl<|.of (t.t.iq h),q i x h O⟩
def SW:AM ["self"] ["self"] (Ab<|Al (top 28) 25):=.of
def Af1:Gm (Ab<|Al (top 28) 25) "list":=.of
def Af2(F:AE K "waiting" "Hall.waiting" (Al (top 28) 25) f fd)(T:TxtH P w K mg a):Az P w K mg base Av 1 f fd ["self"] (ID K a λX=>X.q.map V.str):=by
 refine F.ok SW.fs λB A outer s H vs Q E D h=>?_
 .obtain ⟨X,R,rfl,t,q⟩:=h;refine⟨_,(@Ai _ _ _<|AB (CO (FH rfl) Af1 T.cR E9<|Ag (AD (Aa 0 SW) rfl))),?_⟩;try dsimp only[av,aw]
  show AL X.h a.ak X.dx _ _ rfl t.t.aA T.hc.cls T.hc.qu rfl ?_;ext;exact .inl ⟨X.qa,_,rfl,.inl<|.of t.t.q,q⟩
def SY:AM ["self"] ["self"] (Ab<|Al (top 28) 27):=.of
def Af3:Gm (Ab<|Al (top 28) 27) "list":=.of
def Af4(F:AE K "deeds" "Hall.deeds" (Al (top 28) 27) f fd)(T:TxtH P w K mg a):Az P w K mg base Av 1 f fd ["self"] (ID K a λX=>X.dn):=by
 refine F.ok SY.fs λB A outer s H vs Q E D h=>?_
 .obtain ⟨X,R,rfl,t,q⟩:=h;refine⟨_,(@Ai _ _ _<|AB (CO (FH rfl) Af3 T.cR E9<|Ag (AD (Aa 0 SY) rfl))),?_⟩;try dsimp only[av,aw]
  show AL X.h a.ak X.dx _ _ rfl t.t.aA T.hc.cls T.hc.dn rfl ?_;ext;exact .inl ⟨X.da,_,rfl,.inl<|.of t.t.dn,q⟩
def S3:AM ["self"] ["self"] (Ab<|Al (top 28) 26):=.of
def Af5:Gm (Ab<|Al (top 28) 26) "AT_SEEKERS":=.of
def Af6(F:AE K "steps" "Hall.steps" (Al (top 28) 26) f fd)(T:TxtH P w K mg a)(B:AR P w K mg base Av 1 a.bh "steps" ["self"] (RS K a)):Az P w K mg base Av 2 f fd ["self"] (ID K a λX=>X.sk.k.wt.map V.int):=by
 refine F.ok S3.fs λO A outer s H vs Q E D h=>?_
 .obtain ⟨X,R,rfl,t,q⟩:=h;have I:=T.sc.c.cls;have sk:=t.t.jI T.sc t.ok.sk;obtain⟨J,L⟩:=sk.ins;refine⟨_,(@Ai _ _ _<|AB (GK B I (Aq P w K (AD (Aa 0 S3) rfl)<|Iq Af5 T.jK) D.d AK)),?_⟩;try dsimp only[av,aw]
  show AL X.h a.ak X.dx _ _ rfl t.t.aA T.hc.cls T.hc.sw rfl ?_;show Bx X.sd _ (.inr "") _ rfl rfl (.of t.t.sd) t.ok.kY ?_;show AZ X.sk.p J _ rfl L rfl ?_;exact⟨X.sk.p,a.bh,X.sk.ra,X.sk.rb,X.sk.rc,X.sk.rs,X.sk.rw,_,_,_,_,_,_,_,rfl,sk,q⟩
noncomputable def AS(S:PS)(z:aU):Option (List V×List Bool×List Int):=if z=U3 "" then some (S.sk.hs,S.sk.js,S.sk.ts) else(BK S z).map λg=>(g.hs,g.js,g.ts)
noncomputable def Eg(S:PS):V->V
 |.int i=>match S.lns[i.toNat]? with
  |none=>.aa
  |some ln=>.str ln.num
 |_=>.aa
def J1(S:PS):Prop:=∀v∈S.sk.hs,v=.aa\/∃i:Nat,v=.int i/\i<S.lns.length
noncomputable def IE(S:PS)(z:aU)(r:List V×List Bool×List Int):List V:=Cy (if z=U3 "" then r.1.map (Eg S)else r.1) (λk=>r.2.1.getD k false) r.1.length
section
variable {K:UT}{a:An}{H:Hp}{X:HX}{R:Ax}
theorem HT.rk (t:HT K a H X R)(sc:GR K a a.bh)(J:F5 K a a.aT)(L:Ok z)(e:AS X.S z=some r):
  ∃p C ra rb rc,C∈a.bw/\C8 K a H p C ra rb rc r.1 r.2.1 r.2.2/\∀(c:VK)(E:XK),c (.ref p) H->HH K a [.ref X.h,.str z] H c E:=by
 have eh:CC X.S z=some r.1:=by
  unfold AS at e;unfold CC;by_cases B:z=U3 ""
  .rw[bf B]at e ⊢;cases e;rfl
  .rw[ck B]at e ⊢;obtain⟨g,e1,D⟩:=Au<|VH.mp e;rw[e1,<-D];rfl
 by_cases B:z=U3 ""
 .have s:=t.t.jI sc t.ok.sk;have I:r=(X.sk.k.hs,X.sk.k.js,X.sk.k.ts):=by
   unfold AS at e;rw[bf B]at e;exact(Vq e).symm
  subst I;refine⟨X.sk.p,a.bh,_,_,_,sc.c.mem,s.r,λc E h=>⟨X,R,z,rfl,t,L,λ_=>h,λi g hi D=>absurd (D.trans B)<|t.ok.ne g (Vh hi),λn0 _=>absurd B n0⟩⟩
 .have gI:(X.S.az.map (·.pre)).Nodup:=by change((X.groups.map (·.g)).map (·.pre)).Nodup;rw[Vn];exact t.ok.pre
  have m:z∈X.groups.map (·.g.pre):=by apply Za;intro m;unfold AS at e;rw[ck B,show BK X.S z=none from Lz<|by change z ∉ (X.groups.map (·.g)).map (·.pre);rwa[Vn]]at e;cases e
  obtain⟨i,g,h,rfl⟩:=Bz<|JR m;have ej:X.S.az[i]?=some g.g:=by change(X.groups.map (·.g))[i]?=_;rw[Va,h];rfl
  have I:r=(g.g.hs,g.g.js,g.g.ts):=by unfold AS at e;rw[ck B,show BK X.S g.g.pre=some g.g from JV gI ej]at e;exact(Vq e).symm
  subst I;have rk:=t.t.ir h J<|t.ok.gr g (Vh h);refine⟨g.p,a.aT,_,_,_,J.mem,rk,λc E hc=>⟨X,R,g.g.pre,rfl,t,L,λe0=>absurd e0 B,λj g2 O D=>?_,λ_ n=>absurd m n⟩⟩;by_cases Y:j=i
  .subst Y;rw[O]at h;cases h;exact hc
  .exact absurd D (F8 t.ok.pre (i:=j) (j:=i) (by rw[Va,O];rfl) (by rw[Va,h];rfl) Y)
def Af7 (e:AS S z=none):z≠U3 ""/\z ∉ S.az.map (·.pre):=by
 apply SR;unfold AS at e;unfold CC;by_cases B:z=U3 ""
 .rw[bf B]at e;cases e
 .rw[ck B]at e ⊢;rw[zy]at e ⊢;exact e
def HT.tI (t:HT K a H X R)(D:Ok z)(e:AS X.S z=none)(c:VK)(h:E (.ref a.cf) none H):HH K a [.ref X.h,.str z] H c E:=by
 obtain⟨I,zn⟩:=Af7 e;have B:X.S.az.map (·.pre)=X.groups.map (·.g.pre):=by change(X.groups.map (·.g)).map (·.pre)=_;rw[Vn];rfl
 rw [B]at zn;exact⟨X,R,z,rfl,t,D,λe=>absurd e I,λi g J e=>absurd (Ve.mpr ⟨g,Vh J,e⟩) zn,λ_ _=>h⟩
end
def S4(K:UT)(a:An):Sp:=λvs H Q E=>∃(X:HX)(R:Ax)(z:aU),vs=[.ref X.h,.str z]/\HT K a H X R/\Ok z /\
 match AS X.S z with
 |none=>E (.ref a.cf) none H
 |some r=>∀l,H l=none->Q (.ref l) (upd H l (.lst (r.2.2.map V.int)))
def S5(K:UT)(a:An):Sp:=λvs H Q E=>∃(X:HX)(R:Ax)(z:aU),vs=[.ref X.h,.str z]/\HT K a H X R/\Ok z/\J1 X.S /\
 match AS X.S z with
 |none=>E (.ref a.cf) none H
 |some r=>∀H' t,Ah H H'->H' t=some (.tup (IE X.S z r))->Q (.ref t) H'
def N1:AM ["self","where"] ["self","where"] (Ab<|Al (top 28) 24):=.of
def Af8(F:AE K "shares" "Hall.shares" (Al (top 28) 24) f fd)(T:TxtH P w K mg a)(I:AR P w K mg base (AI P w) 1 a.ak "switches_of" ["self","where"] (HH K a))(J:∀C∈a.bw,AR P w K mg base Av 1 C "shares" ["self"]<|RC K a):Az P w K mg base (AI P w) 2 f fd ["self","where"] (S4 K a):=by
 refine F.aS N1.fs λai A outer s H vs Q E B h=>?_
 .obtain ⟨X,R,z,rfl,t,D,q⟩:=h;have cm:=T.cm;have L:=(T.hc.cls);refine⟨_,(@Ai _ _ _<|AB (Ng J cm (A6 I L (Aa 0 N1) B.d BH<|Ag (Aa 1 N1)) B.d AK)),?_⟩;try dsimp only[av,aw]
  show 1;ext;show 3;cases er:AS X.S z with
  |none=>rw[er]at q;exact t.tI D er _ q
  |some r =>
   rw [er]at q;obtain⟨p,C,O,V,Y,mC,rk,go⟩:=Pa<|t.rk T.sc T.gc D er;obtain⟨dx,fs,ep,F3⟩:=Bz rk.ins;apply go _ _;apply Bx p C dx fs rfl mC ep (F3.m _<|(by decide));exact⟨p,C,O,V,Y,_,_,_,rfl,rk,q⟩
def Af9(X:HX):(X.gB.map λkv=>kV kv.1)=X.S.lns.map λln=>V.str ln.num:=by change((X.lines.map _).map _)=((X.lines.map (·.l)).map _);rw[Vn,Vn];rfl
def S6:EE ["self","where","switches","holders","numbers"] ["self","where"] (Ab<|Al (top 28) 23):=.of
def S7:Nm (Ab<|Al (top 28) 23) "self":=.of
def S8:Nm (Ab<|Al (top 28) 23) "where":=.of
def N2:Nm (Ab<|Al (top 28) 23) "switches":=.of
def LC:Nm (Ab<|Al (top 28) 23) "holders":=.of
def Aga:Dw (Ab<|Al (top 28) 23) "numbers":=(by walk_at "k")
def Agb:Gm (Ab<|Al (top 28) 23) "paper_of":=.of
def Agc:Gm (Ab<|Al (top 28) 23) "AT_SEEKERS":=.of
def Agd:Gm (Ab<|Al (top 28) 23) "list":=.of
noncomputable def N3:Scope:={ kind:=.function,names:=[(".0",.local),("place",.local),("numbers",.free)],isGenerator:=false,isCoroutine:=false,more:=[] }
def S9:Bl N3 (Ab<|Al (top 28) 23) ["place","numbers"] ["self","where","switches","holders","numbers"] [none,some 4]:=(Bl.mk' rfl `o `o `o `o rfl<|(by decide +kernel))
def N4:Nm N3 "place":=.of
def Age:DF N3 "numbers":=(by walk_at "k")
def Agf(F:AE K "paper" "Hall.paper" (Al (top 28) 23) f fd)(T:TxtH P w K mg a)(iA:AR P w K mg base (AI P w) 1 a.ak "switches_of" ["self","where"] (HH K a))(ie:∀C∈a.bw,AR P w K mg base Av 1 C "holders" ["self"]<|Nn K a)(ig:∀C∈a.bw,AR P w K mg base Av 1 C "stuck" ["self"]<|Nr K a)(ik:Bt P w K mg base Av 1 "paper_of" ["holders","stuck"] (Lh K)):Az P w K mg base (AI P w) 2 f fd ["self","where"] (S5 K a):=by
 refine F.aS S6 λai A outer s H vs Q E Y h=>?_
 .obtain ⟨X,R,z,rfl,t,zk,ho,q⟩:=h;have cm:=T.cm;have iB:=(T.hc.cls);have hu:=Y.units;have nd:=S6.nd;refine⟨_,(@Ad _ _ _ _ _ (Dm 2 nd N2<|A6 iA iB (Ap 0 S7) Y.d BH (Ag<|Ap 1 S8))<|Ad (Dm 3 nd LC<|Ng ie cm (Ap 2 N2) Y.d AK) (Ad (AV (A1 (B5 hu) (Ap 1 S8)<|Iq Agc T.jK)<|Ad (Hm 4 nd Aga<|CO (AdZ rfl) Agd T.cR E9 (Ag<|AD (Ap 0 S7) rfl)) (Ai<|Hl (j:=3) rfl nd rfl (U6 LC.loc) S9 (Dk<|Ap 3 LC) (λcl C fp π s₂ H₂=>(Cf 0 S9.nd N4.comp)) (λcl C fp π s₂ H₂=>GH) (λcl C fp π s₂ H₂=>(Pg (A1 Gw (Ap 0 N4.comp) Cv) Cv<|AN (AcL K rfl) (DE 1 Age.comp) (Ap 0 N4.comp) (λ_ _=>rfl))) (by rfl) (by intro _;rfl) (U6 rfl)))<|Ai (AB<|A9 ik Agb Y.d AK (AJ (Ap 3 LC)<|Ng ig cm (Ap 2 N2) Y.d AK)))),?_⟩;try dsimp only[av,aw]
  have aZ:start ["self","where","switches","holders","numbers"] [V.ref X.h,V.str z]=[some<|.ref X.h,some<|.str z,none,none,none]:=rfl;simp only[aZ,WQ,WR];show 1;ext;show 3;cases er:AS X.S z with
  |none=>rw[er]at q;exact t.tI zk er _ q
  |some r =>
   rw [er]at q;dsimp only at q;obtain⟨p,C,ra,rb,rc,mC,rk,go⟩:=Pa<|t.rk T.sc T.gc zk er;obtain⟨dx,fs,ep,F3⟩:=Bz rk.ins;apply go _ _;show Bx p C dx fs rfl mC ep (F3.m _<|(by decide)) ?_;refine EX p C ra rb rc _ _ _ rfl ⟨rk,λl nl=>?_⟩;have s1:=(Ah.refl H).upd (o:=.lst r.1) nl;have e1:(upd H l<|.lst r.1) l=some (.lst r.1):=Ao;generalize upd H _ _=H1 at s1 e1 ⊢;have t1:=t.same s1;ext;have last:∀(B:Hp)(D:ar)(I:List V),Ah H B->B D=some (.lst I)->I=(if z=U3 "" then r.1.map (Eg X.S)else r.1)->∀(J:Hp)(u:ar),Ah B J->J u=some (.lst<|(Fg r.2.1 r.2.1.length).map V.int)->Lh K [.ref D,.ref u] J Q E0:=by
    intro B D I s3 e3 eh J u O e4;have hl:I.length=r.1.length:=by rw[eh];split<;>simp
    refine Bx D u I _ rfl (O _ _ e3) e4 (by rw[hl];exact rk.z) λH5 tt s5 nt e5=>?_;apply q H5 tt (s3.trans<|O.trans s5);rw[e5,hl];unfold IE;rw[<-eh];exact congrArg (λy=>some<|HO.tup y)<|Si λk hk=>RP<|by rwa[rk.lj]
   by_cases z0:z=U3 ""
   .have ehs:r.1=X.sk.k.hs:=by
     unfold AS at er;rw[bf z0]at er;rw[<-Vq er];rfl
    have ho1:∀v∈r.1,v=.aa\/∃i:Nat,v=.int i/\i<X.S.lns.length:=by rwa[ehs]
    apply DL (cx<|congrArg V.str z0);show AL X.h a.ak X.dx _ _ rfl t1.t.aA T.hc.cls T.hc.li rfl ?_;show Bb X.ld _ rfl (.of t1.t.ld) (λnm nnm=>?_);rw[Af9];have s2:=(Ah.refl H1).upd (o:=.lst<|X.S.lns.map λln=>V.str ln.num) nnm;have e2:(upd H1 nm<|.lst (X.S.lns.map λln=>V.str ln.num)) nm=some (.lst<|X.S.lns.map λln=>V.str ln.num):=Ao;generalize upd H1 _ _=H2 at s2 e2 ⊢;have dI:=s2 _ _ e1;show⟨⟨_,.of dI⟩,λD nD=>?_⟩;refine KS (K:=K) (a:=l) (xs:=r.1) (λi σ B=>∃x,σ=[x,some<|.ref nm]/\Ah H2 B/\B D=some (.lst<|(r.1.take i).map (Eg X.S))) ⟨none,rfl,(Ah.refl H2).upd nD,Ao⟩ (λi σ B _ ⟨_,_,L,_⟩=>.of<|L _ _ dI) ?_ ?_
    .intro i x σ B hi zq;replace zq:=AG zq;obtain⟨x0,rfl,L,hL⟩:=zq;have et:r.1.take (i+1)=r.1.take i++[x]:=by rw[WE,hi];rfl
     have len:((r.1.take i).map<|Eg X.S).length<sizeLine:=by rw[UW,Wg,U0];have:=rk.z;omega
     rcases ho1 x (Vh hi)with rfl|⟨j,rfl,jl⟩
     .show⟨_,hL,len,_,rfl,L.bq nD,?_⟩;rw[Ao,et,Vg];rfl
     .have hj:X.S.lns[j]?=some X.S.lns[j]:=Vi jl;have ej:Eg X.S (.int j)=.str X.S.lns[j].num:=by
       change(match X.S.lns[((j:Nat):Int).toNat]? with|none=>V.aa|some ln=>.str ln.num)=_;rw[XI,hj]
      show U6 (Bx nm _ _ _ rfl rfl (.of<|L _ _ e2) (FC (j:=j)<|by rw[Va,hj];rfl) ?_);refine⟨_,hL,len,_,rfl,L.bq nD,?_⟩;rw[Ao,et,Vg];change some (HO.lst<|_++[_])=some (HO.lst<|_++[Eg X.S<|.int j]);rw[ej]
    .intro σ B zq;replace zq:=AG zq;obtain⟨x0,rfl,L,hL⟩:=zq;rw[Wi]at hL;have s3:Ah H B:=s1.trans<|s2.trans L;have tJ:=rk.same s3;obtain⟨o7,fs3,tE,F33⟩:=Bz tJ.ins;show Bx p C o7 fs3 rfl mC tE (F33.m _<|(by decide)) ?_;refine EX p C ra rb rc _ _ _ rfl ⟨tJ,λJ u O nu e4=>?_⟩;show 3;exact last B D _ s3 hL (by rw[bf z0]) J u O e4
   .refine D4 (cN λe=>z0<|V.str.inj e) ?_;have fO:=rk.same s1;obtain⟨dx1,fs1,dX,F31⟩:=Bz fO.ins;show Bx p C dx1 fs1 rfl mC dX (F31.m _<|(by decide)) ?_;refine EX p C ra rb rc _ _ _ rfl ⟨fO,λJ u O nu e4=>?_⟩;show 3;exact last H1 l r.1 s1 e1 (by rw[ck z0]) J u O e4
noncomputable def BF(S:PS)(p:aU×Int):Option V:=(CC S p.1).bind λhs=>if 0<=p.2 then hs[p.2.toNat]? else none
noncomputable def GU(w:aU)(i:Nat)(z:aU):V:=if w=U3 "" then .int i else .str z
def Agg{w:aU}{i j:Nat}{y z:aU}(n:i≠j)(m:y≠z):GU w i y≠GU w j z:=by
 unfold GU;split
 .exact λe=>n<|Int.ofNat.inj (V.int.inj e)
 .exact λe=>m<|V.str.inj e
def Gg{w:aU}{i:Nat}{z:aU}:GU w i z≠.aa:=by unfold GU;split<;>exact λe=>(nomatch e)
def Ta (e:BF S p=some v):0<=p.2:=by
 unfold BF at e;cases h:CC S p.1 with
 |none=>rw[h]at e;cases e
 |some hs =>
  rw [h]at e;by_cases z:0<=p.2
  .exact z
  .rw[xc,ck z]at e;cases e
def FO (e:BK S z=some g):g∈S.az/\g.pre=z:=⟨zi e,by have:=zj (show S.az.find? (λg=>decide (g.pre=z))=some g from e);exact of_decide_eq_true this⟩
def Jw (e:(if 0<=k then hs[k.toNat]? else none)=some v):inR k hs=true/\hs.getD k.toNat .aa=v:=by
 by_cases z:0<=k
 .rw[bf z]at e;have l:=(Vz.mp e).1;exact⟨F6.mpr ⟨z,(by omega)⟩,by rw[Vt,e];rfl⟩
 .rw[ck z]at e;cases e
def Agh (e:BF S p=some v)(n:v≠.aa):Fj S p.1 p.2:=by
 unfold BF CC at e;unfold Fj;by_cases z:p.1=U3 ""
 .rw[bf z]at e ⊢;obtain⟨a,b⟩:=Jw e;exact⟨a,by rwa[b]⟩
 .rw[ck z]at e ⊢;cases h:BK S p.1 with
  |none=>rw[h]at e;cases e
  |some g =>
   rw [h]at e;obtain⟨a,b⟩:=Jw (hs:=g.hs) e;exact⟨g,(FO h).1,(FO h).2,a,by rwa[b]⟩
def FP{S:PS}{w z:aU}{h:Gr->Gr}(B:∀g,(h g).pre=g.pre):BK { S with az:=S.az.map λg=>if g.pre=w then h g else g } z=(BK S z).map λg=>if z=w then h g else g:=by
 change(S.az.map _).find? _=(S.az.find? _).map _;induction S.az with
 |nil=>rfl
 |cons y l ih =>
  rw [VP,Xb,Xb];have e:(if y.pre=w then h y else y).pre=y.pre:=by split;exact B y;rfl
  rw [e];by_cases c:y.pre=z
  .rw[cx c,<-c];rfl
  .rwa[cN c]
def Tb (g:0<=t.2)(n:p≠t):BF (aC S t.1 t.2) p=BF S p:=by
 have B:∀hs:List V,p.1=t.1->(if 0<=p.2 then(hs.set t.2.toNat .aa)[p.2.toNat]? else none)=(if 0<=p.2 then hs[p.2.toNat]? else none):=λhs e=>by
  by_cases z:0<=p.2
  .rw[bf z,bf z,Ww];intro D;exact n<|Prod.ext e (by omega)
  .rw[ck z,ck z]
 unfold BF CC aC;by_cases z:p.1=U3 ""
 .rw[bf z,bf z];by_cases y:t.1=U3 ""
  .rw[bf y];exact B _<|z.trans y.symm
  .rw[ck y]
 .rw[ck z,ck z];by_cases y:t.1=U3 ""
  .rw[bf y];rfl
  .rw[ck y,FP (h:=λg=>{ g with hs:=g.hs.set t.2.toNat .aa }) λ_=>rfl];cases BK S p.1 with
   |none=>rfl
   |some g =>
    rw [Wh,Wh,xc,Wh,xc];by_cases e:p.1=t.1
    .rw[bf e];exact B _ e
    .rw[ck e]
theorem IF:∀{ts:List (aU×Int)}{S:PS}{p:aU×Int},(∀t∈ts,0<=t.2)->p ∉ ts->BF (au S ts) p=BF S p
 |[],_,_,_,_=>rfl
 |t::ts,S,p,g,n=>(IF (λt m=>g t (Vw _ m)) (λm=>n (Vw _ m))).trans (Tb (g t VJ) λe=>n (e▸VJ))
theorem GV:∀{ts:List (aU×Int)}{S:PS},ts.Nodup->(∀p∈ts,∃v,BF S p=some v/\v≠.aa)->bA S ts
 |[],_,_,_=>trivial
 |t::ts,S,B,h=>by
  obtain⟨v,e,n⟩:=h t VJ;have B:=Vr.mp B;refine⟨Agh e n,GV B.2 λp m=>?_⟩;obtain⟨u,f,k⟩:=h p (Vw _ m);exact⟨u,by rw[Tb (Ta e) (λz=>B.1 (z▸m))];exact f,k⟩
def GW(ns:List aU)(g:Gr):Prop:=∀v∈g.hs,v=.aa\/∃z∈ns,v=.str z
def GW.s (h:GW ns g):NS g:=λv m=>(h v m).imp id λ⟨z,_,e⟩=>⟨z,e⟩
structure WG(S:PS):Prop where
 num:(S.lns.map (·.num)).Nodup
 pre:(S.az.map (·.pre)).Nodup
 ne:∀g∈S.az,g.pre≠U3 ""
 aD:S.lns.length<=60
 pos:0<S.lns.length
 dm:S.q.Nodup
 cq:∀z∈S.q,z∈S.lns.map (·.num)
 m0:0<=S.sk.mark
 m1:S.sk.mark<S.sk.hs.length
 pl:S.sk.places=S.lns.length
 hs:J1 S
 hg:∀g∈S.az,GW (S.lns.map (·.num)) g
 go:∀g∈S.az,Hz g
 so:Iy S.sk
 tx:∀z∈S.lns.map (·.num),Ok z/\0<z.length
 px:∀g∈S.az,Ok g.pre
 lo:2<=S.long
 hi:S.long<=9
 tl:∀z∈S.lns.map (·.num),(z.length:Int)=S.long
 pz:∀g∈S.az,(g.pre.length:Int)<=S.long-2
 dg:∀z∈S.lns.map (·.num),Cg z
def J1.num (h:J1 S)(e:S'.sk.hs=S.sk.hs)(l:S'.lns.length=S.lns.length):J1 S':=λv m=>by rw[l];exact h v<|e▸m
def LD{l B:List Ln}(e:B.map (·.num)=l.map (·.num)):B.length=l.length:=by have:=congrArg Yi e;rwa [UW,UW]at this
def WG.lns (w:WG S)(e:l.map (·.num)=S.lns.map (·.num)):WG { S with lns:=l } :=
 ⟨by change(l.map _).Nodup;rw[e];exact w.num,w.pre,w.ne,by change l.length<=60;rw[LD e];exact w.aD,by change 0<l.length;rw[LD e];exact w.pos,w.dm,λz m=>by change z∈l.map _;rw[e];exact w.cq z m,w.m0,w.m1,by change S.sk.places=(l.length:Int);rw[LD e];exact w.pl,w.hs.num rfl<|LD e,(by change ∀g∈S.az,GW (l.map (·.num)) g;rw[e];exact w.hg),w.go,w.so,(by change ∀z∈l.map (·.num),_;rw[e];exact w.tx),w.px,w.lo,w.hi,(by change ∀z∈l.map (·.num),_;rw[e];exact w.tl),w.pz,(by change ∀z∈l.map (·.num),_;rw[e];exact w.dg)⟩
def WG.dU (w:WG S)(B:q.Nodup)(i:∀z∈q,z∈S.lns.map (·.num)):WG { S with q:=q }:=⟨w.num,w.pre,w.ne,w.aD,w.pos,B,i,w.m0,w.m1,w.pl,w.hs,w.hg,w.go,w.so,w.tx,w.px,w.lo,w.hi,w.tl,w.pz,w.dg⟩
def WG.abH (w:WG S):WG { S with dn:=d }:=⟨w.num,w.pre,w.ne,w.aD,w.pos,w.dm,w.cq,w.m0,w.m1,w.pl,w.hs,w.hg,w.go,w.so,w.tx,w.px,w.lo,w.hi,w.tl,w.pz,w.dg⟩
def WG.pN (w:WG S)(p:k.places=S.sk.places)(B:0<=k.mark)(D:k.mark<k.hs.length)(h:∀v∈k.hs,v=.aa\/∃i:Nat,v=.int i/\i<S.lns.length)(H:Iy k):WG { S with sk:=k }:=⟨w.num,w.pre,w.ne,w.aD,w.pos,w.dm,w.cq,B,D,p.trans w.pl,h,w.hg,w.go,H,w.tx,w.px,w.lo,w.hi,w.tl,w.pz,w.dg⟩
def WG.pO{S:PS}(w:WG S){z:aU}{h:Gr->Gr}(B:∀g,(h g).pre=g.pre)(H:∀g,GW (S.lns.map (·.num)) g->GW (S.lns.map (·.num)) (h g))(I:∀g,Hz g->Hz (h g)):WG { S with az:=S.az.map λg=>if g.pre=z then h g else g }:=by
 have J:(S.az.map λg=>if g.pre=z then h g else g).map (·.pre)=S.az.map (·.pre):=by
  rw [Vn];refine Wq λg _=>?_;change(if g.pre=z then h g else g).pre=g.pre;split
  .exact B g
  .rfl
 have all:∀{p:Gr->Prop},(∀g,p g->p (h g))->(∀g∈S.az,p g)->∀g∈(S.az.map λg=>if g.pre=z then h g else g),p g:=λ{p} f a g m=>by
  obtain⟨y,D,rfl⟩:=Au<|Ve.mp m;split
  .exact f y (a y D)
  .exact a y D
 exact⟨w.num,by change(V1 _<|S.az.map _).Nodup;rw[J];exact w.pre,all (p:=λg=>g.pre≠U3 "") (λg n=>by rwa[B]) w.ne,w.aD,w.pos,w.dm,w.cq,w.m0,w.m1,w.pl,w.hs,all H w.hg,all I w.go,w.so,w.tx,all (p:=λg=>Ok g.pre) (λg n=>by rwa[B]) w.px,w.lo,w.hi,w.tl,all (p:=λg=>(g.pre.length:Int)<=S.long-2) (λg n=>by rwa[B]) w.pz,w.dg⟩
def Gh{α:Type}{l:List α}{i:Nat}{x y:α}(h:y∈l.set i x):y=x\/y∈l:=(xb h).symm
def WG.aC (w:WG S)(z:aU)(k:Int):WG (aC S z k):=by
 unfold Lw.aC;split
 .exact w.pN rfl w.m0 (by change _<((S.sk.hs.set _ _).length:Int);rw[Vm];exact w.m1) (λv m=>(Gh m).elim .inl<|w.hs v) ⟨by rw[Vm];exact w.so.lj,by rw[Vm];exact w.so.lt,by rw[Vm];exact w.so.ls,by rw[Vm];exact w.so.lw,by rw[Vm];exact w.so.z⟩
 .exact w.pO (h:=λg=>{ g with hs:=g.hs.set k.toNat .aa }) (λ_=>rfl) (λg a v m=>(Gh m).elim .inl<|a v) λg a=>⟨by rw[Vm];exact a.lj,by rw[Vm];exact a.lt,by rw[Vm];exact a.z⟩
theorem WG.au:∀(ts:List (aU×Int)){S:PS},WG S->WG (au S ts)
 |[],_,w=>w
 |t::ts,_,w=>WG.au ts (w.aC t.1 t.2)
def WG.bb (w:WG S)(b:Bool)(z:aU)(k:Int):WG (Cu S b z k):=by
 unfold Cu;split
 .exact w.pN rfl w.m0 w.m1 w.hs ⟨by rw[Vm];exact w.so.lj,w.so.lt,w.so.ls,w.so.lw,w.so.z⟩
 .exact w.pO (h:=λg=>{ g with js:=g.js.set k.toNat b }) (λ_=>rfl) (λg a=>a) λg a=>⟨by rw[Vm];exact a.lj,a.lt,a.z⟩
def WG.bX (w:WG S)(z B:aU)(k:Int)(D:B∈S.lns.map (·.num)):WG { S with az:=S.az.map λy=>if y.pre=z then bX y k B else y } :=
 w.pO (h:=λg=>Lw.bX g k B) (λ_=>rfl) (λg a v m=>(Gh m).elim (λe=>.inr ⟨B,D,e⟩)<|a v) λg a=>⟨by change g.js.length=(g.hs.set _ _).length;rw[Vm];exact a.lj,by change(g.ts.set _ _).length=(g.hs.set _ _).length;rw[Vm,Vm];exact a.lt,by change(g.hs.set _ _).length<=1000;rw[Vm];exact a.z⟩
def WG.bG (w:WG S)(B:i<S.lns.length):WG { S with sk:=bG S.sk k i }:=by
 have lt:((S.sk.hs.set k.toNat<|.int i).length:Int)=S.sk.hs.length:=by rw[Vm]
 have D:=w.m0;have H:=w.m1;refine w.pN rfl (Xw _<|(by omega)) (by change(k+1)%(S.sk.hs.length:Int)<((S.sk.hs.set _ _).length:Int);rw[lt];exact Xx _<|(by omega)) (λv m=>(Gh m).elim (λe=>.inr ⟨i,e,B⟩)<|w.hs v) ⟨?_,?_,?_,?_,?_⟩
 .show S.sk.js.length=(S.sk.hs.set _ _).length;rw[Vm];exact w.so.lj
 .show (S.sk.ts.set _ _).length=(S.sk.hs.set _ _).length;rw[Vm,Vm];exact w.so.lt
 .show (S.sk.st.set _ _).length=(S.sk.hs.set _ _).length;rw[Vm,Vm];exact w.so.ls
 .show (S.sk.wt.set _ _).length=(S.sk.hs.set _ _).length;rw[Vm,Vm];exact w.so.lw
 .show (S.sk.hs.set _ _).length<=1000;rw[Vm];exact w.so.z
inductive By where
 |rests|bY|aV|rings|cu|dq|told
noncomputable def By.s:By->aU
 |.rests=>"rests" |.bY=>"waits" |.aV=>"dials" |.rings=>"rings" |.cu=>"rung" |.dq=>"talks" |.told=>"told"
def By.ok(w:By):Ok w.s:=by cases w<;>exact⟨by unfold B6;decide +kernel,(by decide +kernel)⟩
def By.inj{v w:By}(e:v.s=w.s):v=w:=by cases v<;>cases w<;>first|rfl|exact absurd e<|(by decide +kernel)
def Zr(ln:Ln):Prop:=ln.ae=""/\ln.ag=0/\ln.why=.none
def HL(S:PS)(i:Nat)(ln:Ln)(o:By):Prop:=∃(j:Nat)(lo:Ln),S.lns[j]?=some lo/\j≠i/\ln.ao=some lo.num/\lo.ao=some ln.num/\lo.st=o.s
def Wy(S:PS)(i:Nat)(ln:Ln):By->Prop
 |.rests=>ln.held=[]/\ln.ao=none/\ln.num ∉ S.q/\Zr ln
 |.bY=>ln.held=[]/\ln.ao=none/\ln.num∈S.q/\Zr ln
 |.aV=>ln.ao=none/\ln.num ∉ S.q/\(0<=ln.ag/\ln.ag<=10)/\(ln.ae.length:Int)<S.long/\ln.held.length<=ln.ae.length+1
 |.told=>ln.held=[]/\ln.ao=none/\ln.num ∉ S.q
 |.rings=>ln.num ∉ S.q/\HL S i ln .cu
 |.cu=>ln.held=[]/\ln.num ∉ S.q/\HL S i ln .rings
 |.dq=>ln.num ∉ S.q/\HL S i ln .dq
structure Eh(S:PS)(i:Nat)(ln:Ln):Prop where
 nd:ln.held.Nodup
 ow:∀p∈ln.held,BF S p=some (GU p.1 i ln.num)
 wy:∃w:By,ln.st=w.s/\Wy S i ln w
structure WF(S:PS):Prop where
 g:WG S
 l:∀(i:Nat)(ln:Ln),S.lns[i]?=some ln->Eh S i ln
section
variable {S S':PS}{i j:Nat}{ln lo lm:Ln}
def Eh.way{w:By}(h:Eh S i ln)(e:ln.st=w.s):Wy S i ln w:=by obtain⟨v,B,D⟩:=Au h.wy;cases By.inj (e.symm.trans B);exact D
def WG.one(g:WG S)(D:S.lns[i]?=some ln)(B:S.lns[j]?=some lm)(e:ln.num=lm.num):i=j/\ln=lm:=by
 by_cases c:i=j
 .subst c;rw[D]at B;exact⟨rfl,Vq B⟩
 .exact absurd e (Ga g.num D B c)
def WF.bA(w:WF S)(h:S.lns[i]?=some ln):bA S ln.held:=GV (w.l i ln h).nd λp m=>⟨_,(w.l i ln h).ow p m,Gg⟩
def Eh.ge(h:Eh S i ln):∀t∈ln.held,0<=t.2:=λt m=>Ta<|h.ow t m
def WF.apart (w:WF S)(B:S.lns[i]?=some ln)(D:S.lns[j]?=some lm)(n:j≠i)(m:p∈lm.held):p ∉ ln.held:=λH=>by
 have a:=(w.l i ln B).ow p H;rw[(w.l j lm D).ow p m]at a;exact Agg n (Ga w.g.num D B n)<|Vq a
def WF.chg(w:WF S)(g:WG S')(I:Nat->Prop)(D:∀j,¬I j->S'.lns[j]?=S.lns[j]?)(H:∀(i:Nat) (ln:Ln),I i->S.lns[i]?=some ln->∀z,ln.ao=some z->∃(j:Nat) (lo:Ln),I j/\S.lns[j]?=some lo/\lo.num=z)(hq:∀(j:Nat) (lm:Ln),¬I j->S.lns[j]?=some lm->(lm.num∈S'.q↔lm.num∈S.q))(J:∀(j:Nat) (lm:Ln),¬I j->S.lns[j]?=some lm->∀p∈lm.held,BF S' p=BF S p)(hw:S'.long=S.long)(O:∀(i:Nat) (y:Ln),I i->S'.lns[i]?=some y->Eh S' i y):WF S':=by
 refine⟨g,λj lm B=>?_⟩;by_cases c:I j
 .exact O j lm c B
 rw [D j c]at B;have L:=w.l j lm B;obtain⟨v,e,y⟩:=Au L.wy;have q:=hq j lm c B;have ao:∀o,HL S j lm o->HL S' j lm o:=λo ⟨k,lo,hk,ne,f1,f2,V⟩=>by
  refine⟨k,lo,(D k λY=>?_).trans hk,ne,f1,f2,V⟩;obtain⟨i',lo',c',h',e'⟩:=BB<|H k lo Y hk lm.num f2;exact c<|by rwa[<-(w.g.one h' B e').1]
 refine⟨L.nd,λp m=>(J j lm c B p m).trans<|L.ow p m,v,e,?_⟩;cases v with
 |rests=>exact⟨y.1,y.2.1,λz=>y.2.2.1<|q.mp z,y.2.2.2⟩
 |bY=>exact⟨y.1,y.2.1,q.mpr y.2.2.1,y.2.2.2⟩
 |aV=>exact⟨y.1,λz=>y.2.1<|q.mp z,y.2.2.1,by rw[hw];exact y.2.2.2.1,y.2.2.2.2⟩
 |told=>exact⟨y.1,y.2.1,λz=>y.2.2<|q.mp z⟩
 |rings=>exact⟨λz=>y.1<|q.mp z,ao _ y.2⟩
 |cu=>exact⟨y.1,λz=>y.2.1<|q.mp z,ao _ y.2.2⟩
 |dq=>exact⟨λz=>y.1<|q.mp z,ao _ y.2⟩
def WF.iD (w:WF S)(g:WG S')(h:S.lns[i]?=some ln)(fn:ln.ao=none)(B:S'.lns=S.lns.set i y)(hq:∀z,z≠ln.num->(z∈S'.q↔z∈S.q))(D:∀(j:Nat) (lm:Ln),j≠i->S.lns[j]?=some lm->∀p∈lm.held,BF S' p=BF S p)(hw:S'.long=S.long)(hy:Eh S' i y):WF S':=by
 refine w.chg g (·=i) (λj n=>by rw[B,Ww<|Vy n]) (λk lk e hk z f=>?_) (λj lm n H=>hq _<|Ga w.g.num H h n) D hw λk z e hk=>?_
 .subst e;rw[h]at hk;cases hk;rw[fn]at f;cases f
 .subst e;rw[B,B1 h]at hk;cases hk;exact hy
def WF.pP (w:WF S)(g:WG S')(B:S.lns[i]?=some ln)(D:S.lns[j]?=some lo)(n:j≠i)(f1:∀z,ln.ao=some z->z=lo.num)(f2:∀z,lo.ao=some z->z=ln.num)(H:S'.lns=(S.lns.set i y).set j z)(hq:∀x,x≠ln.num->x≠lo.num->(x∈S'.q↔x∈S.q))(I:∀(k:Nat) (lm:Ln),k≠i->k≠j->S.lns[k]?=some lm->∀p∈lm.held,BF S' p=BF S p)(hw:S'.long=S.long)(hy:Eh S' i y)(J:Eh S' j z):WF S':=by
 refine w.chg g (λk=>k=i\/k=j) (λk c=>by rw[H,Ww λe=>c<|.inr e.symm,Ww λe=>c<|.inl e.symm]) (λk lk e hk x f=>?_) (λk lm c hk=>hq _ (Ga w.g.num hk B λe=>c<|.inl e)<|Ga w.g.num hk D λe=>c<|.inr e) (λk lm c hk=>I k lm (λe=>c<|.inl e) (λe=>c<|.inr e) hk) hw λk x e hk=>?_
 .rcases e with rfl|rfl
  .rw[B]at hk;cases hk;exact⟨j,lo,.inr rfl,D,(f1 x f).symm⟩
  .rw[D]at hk;cases hk;exact⟨i,ln,.inl rfl,B,(f2 x f).symm⟩
 .rcases e with rfl|rfl
  .rw[H,Ww n,B1 B]at hk;cases hk;exact hy
  .rw[H,B1 (x:=lo)<|by rwa[Ww<|Vy n]]at hk;cases hk;exact J
def De (h:S.lns[i]?=some ln)(e:y.num=ln.num):(S.lns.set i y).map (·.num)=S.lns.map (·.num):=FL (f:=λx:Ln=>x.num) h e
theorem IG:∀(ts:List (aU×Int))(S:PS),(au S ts).long=S.long
 |[],_=>rfl
 |t::ts,S=>(IG ts _).trans (by unfold aC;split<;>rfl)
end
theorem Tc:∀{l m:List aU},l.Nodup->(∀z∈l,z∈m)->l.length<=m.length
 |[],_,_,_=>Wn _
 |a::l,m,B,h=>by
  have B:=Vr.mp B;have ma:=h a VJ;have:=Tc (l:=l) (m:=m.erase a) B.2 λz D=>(wX (λ(e:z=a)=>B.1 (e▸D))).mpr (h z (Vw _ D));rw[yP ma]at this;have:=wY ma;rw[VX];omega
section
variable {S:PS}{i j:Nat}{ln lo:Ln}
def Eh.jQ(h:Eh S i ln)(m:ln.num∈S.q):ln.st=By.bY.s/\ln.held=[]/\ln.ao=none/\Zr ln:=by
 obtain⟨v,e,y⟩:=Au h.wy;cases v with
 |rests=>exact absurd m y.2.2.1
 |bY=>exact⟨e,y.1,y.2.1,y.2.2.2⟩
 |aV=>exact absurd m y.2.1
 |told=>exact absurd m y.2.2
 |rings=>exact absurd m y.1
 |cu=>exact absurd m y.2.1
 |dq=>exact absurd m y.1
def WF.abI(w:WF S)(h:S.lns[i]?=some ln)(n:ln.st≠By.bY.s):ln.num ∉ S.q:=λm=>n ((w.l i ln h).jQ m).1
def WG.at (g:WG S)(m:z∈S.lns.map (·.num)):∃(i:Nat)(ln:Ln),S.lns[i]?=some ln/\ln.num=z:=by obtain⟨ln,B,D⟩:=Au<|NM m;exact⟨_,ln,B,D⟩
def WG.e9(g:WG S):S.q.length<=60:=by have:=Tc g.dm g.cq;rw[UW]at this;exact V7 this g.aD
def WF.cT(w:WF S):Ey S:=by refine⟨w.g.dm,λz m=>?_,w.g.num,w.g.m0,Z2 w.g.m1,by rw[w.g.pl];exact Int.ofNat_lt.mpr w.g.pos,V7 w.g.e9<|(by decide)⟩;obtain⟨i,ln,h,rfl⟩:=Bz<|w.g.at (w.g.cq z m);exact⟨ln,Vh h,rfl,((w.l i ln h).jQ m).2.1⟩
def WF.dn (w:WF S):WF { S with dn:=d }:=by refine⟨w.g.abH,λi ln h=>⟨(w.l i ln h).nd,(w.l i ln h).ow,?_⟩⟩;obtain⟨v,e,y⟩:=Au<|(w.l i ln h).wy;refine⟨v,e,?_⟩;cases v<;>exact y
def Td{q:List aU}{z:aU}(D:q.Nodup)(n:z ∉ q):(q++[z]).Nodup:=WN.mpr ⟨D,Vr.mpr ⟨(by simp),.nil⟩,λa ma b B e=>n<|by rw[Vl]at B;rwa[<-B,<-e]⟩
def Te{q ns:List aU}{z:aU}(h:∀y∈q,y∈ns)(m:z∈ns):∀y∈q++[z],y∈ns:=λy B=>(Vx.mp B).elim (h y) λe=>by rwa[Vl.mp e]
def Tf{q:List aU}{x z:aU}(n:x≠z):x∈q++[z]↔x∈q:=by simp[n]
def EA(h:S.lns[i]?=some ln):ln.num∈S.lns.map (·.num):=Ve.mpr ⟨ln,Vh h,rfl⟩
def Eh.none (e:y.held=[])(w:∃v:By,y.st=v.s/\Wy S i y v):Eh S i y:=⟨by rw[e];exact .nil,(λp m=>by rw[e]at m;cases m),w⟩
def WF.wait(w:WF S)(h:S.lns[i]?=some ln)(B:ln.held=[])(fn:ln.ao=none)(D:ln.num ∉ S.q):WF (FN S i ln) :=
 w.iD (S':=FN S i ln) (y:=AW ln "waits") ((w.g.lns<|De (y:=AW ln "waits") h rfl).dU (Td w.g.dm D)<|Te (λz m=>by change z∈(S.lns.set i<|AW ln "waits").map _;rw[De (y:=AW ln "waits") h rfl];exact w.g.cq z m) (by change _∈(S.lns.set i<|AW ln "waits").map _;rw[De (y:=AW ln "waits") h rfl];exact EA h)) h fn rfl (λz n=>Tf n) (λ_ _ _ _ _ _=>rfl) rfl
  (.none B ⟨.bY,rfl,B,rfl,V2 _<|Vl.mpr rfl,rfl,rfl,rfl⟩)
def J2(w:WF S)(h:S.lns[j]?=some lo):Bf S.lns lo.num=j:=Lv w.g.num h
def Tg (hs:ln.st≠"rests")(f:ln.ao=some z)(B:S.lns[Bf S.lns z]?=some lo):CG S i ln=(.tuple [.str "talks",.str lo.num,.str ln.num],{ S with lns:=(S.lns.set (Bf S.lns z) { lo with st:="talks" }).set i { ln with st:="talks" } }):=by simp only[CG,ck hs,f,B]
def By.ne{v u:By}(e:ln.st=v.s)(n:v≠u):ln.st≠u.s:=λz=>n<|By.inj (e.symm.trans z)
def WF.lift(w:WF S)(h:S.lns[i]?=some ln)(f:ln.st=By.rests.s\/ln.st=By.cu.s):WF (CG S i ln).2/\NQ S i ln:=by
 have L:=w.l i ln h;rcases f with f|f
 .obtain ⟨J,H,y3,_⟩:=L.way f;refine⟨?_,.inl f⟩;rw[show CG S i ln=_ from bf f];exact w.wait h J H y3
 .obtain ⟨J,H,j,lo,B,D,f1,f2,f3⟩:=L.way f;have O:ln.st≠"rests":=By.ne (u:=.rests) f λe=>(nomatch e);refine⟨?_,.inr ⟨O,j,lo,f1,B,D⟩⟩;have V:=J2 w B;have I:=w.l j lo B;rw[Tg O f1 (by rwa[V]),V];have Y:(S.lns.set j { lo with st:="talks" })[i]?=some ln:=Ee h D;refine w.pP (i:=j) (j:=i) (y:={ lo with st:="talks" }) (z:={ ln with st:="talks" }) (w.g.lns<|by rw[FL (f:=λx:Ln=>x.num) (y:={ ln with st:="talks" }) Y rfl];exact De (y:={ lo with st:="talks" }) B rfl) B h D.symm (λz e=>by rw[f2]at e;exact(Vq e).symm) (λz e=>by rw[f1]at e;exact(Vq e).symm) rfl (λ_ _ _=>.rfl) (λ_ _ _ _ _ _ _=>rfl) rfl ⟨I.nd,I.ow,.dq,rfl,(I.way (w:=.rings) f3).1,i,{ ln with st:="talks" },B1 Y,D.symm,f2,f1,rfl⟩ ⟨L.nd,L.ow,.dq,rfl,H,j,{ lo with st:="talks" },?_,D,f1,f2,rfl⟩;exact Ee (B1 B) D.symm
def WF.aV (w:WF S)(h:S.lns[i]?=some ln)(fn:ln.ao=none)(H:ln.num ∉ S.q)(B:y.num=ln.num)(D:y.held=ln.held)(es:y.st=By.aV.s)(I:y.ao=none)(ep:0<=y.ag/\y.ag<=10)(J:(y.ae.length:Int)<S.long)(L:y.held.length<=y.ae.length+1):WF { S with lns:=S.lns.set i y } :=
 w.iD (w.g.lns<|De h B) h fn rfl (λ_ _=>.rfl) (λ_ _ _ _ _ _=>rfl) rfl ⟨by rw[D];exact(w.l i ln h).nd,λp m=>by rw[B];exact(w.l i ln h).ow p (D▸m),.aV,es,I,by rwa[B],ep,J,L⟩
theorem WF.told (w:WF S)(h:S.lns[i]?=some ln)(fn:ln.ao=none)(H:ln.num ∉ S.q)(B:y.num=ln.num)(D:y.held=ln.held)(I:y.ao=none)(d:PyData):WF (Ck { S with lns:=S.lns.set i y } i y d):=by
 have eq:(au { S with lns:=S.lns.set i y } y.held).q=S.q:=Fn ..;refine w.iD (y:={ y with held:=[],st:="told",why:=d }) (((w.g.lns<|De h B).au y.held).lns ?_) h fn (V6 ..) (λz _=>by change z∈(au { S with lns:=S.lns.set i y } y.held).q↔_;rw[eq]) (λk J n hk p m=>?_) (IG ..)<|.none rfl ⟨.told,rfl,rfl,I,?_⟩
 .rw[Fm];exact FL (f:=λx:Ln=>x.num) (y:={ y with held:=[],st:="told",why:=d }) (B1 h) rfl
 .exact IF (S:={ S with lns:=S.lns.set i y }) (by rw[D];exact(w.l i ln h).ge) (by rw[D];exact w.apart h hk n m)
 .show y.num ∉ (au { S with lns:=S.lns.set i y } y.held).q;rwa[eq,B]
def WF.b9(w:WF S)(h:S.lns[i]?=some ln)(f:ln.st=By.aV.s):WF (Ez S i ln).2/\Lw.bA { S with lns:=S.lns.set i { ln with ag:=ln.ag+1 } } ln.held:=by
 have L:=w.l i ln h;obtain⟨B,D,⟨J,O⟩,H,I⟩:=AU<|L.way f;refine⟨?_,GV L.nd λp m=>⟨_,L.ow p m,Gg⟩⟩;unfold Ez;split
 .exact w.aV h B D rfl rfl f B ⟨by change 0<=ln.ag+1;omega,by assumption⟩ H I
 .exact w.told h B D (y:={ ln with ag:=ln.ag+1 }) rfl rfl B _
end
section
variable {S:PS}{i j:Nat}{ln lo:Ln}
def N5{z:aU}{h:Gr->Gr}(B:∀g,(h g).pre=g.pre)(D:z≠U3 "")(p:aU×Int):BF { S with az:=S.az.map λg=>if g.pre=z then h g else g } p=if p.1=z then(BK S z).bind λg=>if 0<=p.2 then(h g).hs[p.2.toNat]? else none else BF S p:=by
 unfold BF CC;by_cases c:p.1=z
 .rw[bf c,c,ck D,FP B];simp only[if_true];cases BK S z<;>rfl
 .rw[ck c];by_cases y:p.1=U3 ""
  .rw[bf y,bf y]
  .rw[ck y,ck y,FP B];simp only[ck c];cases BK S p.1<;>rfl
def WF.takes(w:WF S)(h:S.lns[i]?=some ln)(fn:ln.ao=none)(nq:ln.num ∉ S.q){y:Ln}(D:y.num=ln.num)(Y:y.held=ln.held)(es:y.st=By.aV.s)(ef:y.ao=none)(ep:0<=y.ag/\y.ag<=10)(el:(y.ae.length:Int)<S.long)(ek:y.held.length+1<=y.ae.length+1){z:aU}{g:Gr}{k:Int}(B:z≠U3 "")(H:BK S z=some g)(jM:Cw g.hs g.js 0=some k) :
  WF { S with az:=S.az.map λg=>if g.pre=z then bX g k y.num else g,lns:=S.lns.set i { y with held:=y.held++[(z,k)] } }:=by
 have L:=w.l i ln h;obtain⟨⟨k0,k1⟩,O⟩:=GQ (YL 0) (zA _) jM;have V:k.toNat<g.hs.length:=(by omega)
 have free:BF S (z,k)=some .aa:=by unfold BF CC;rw[ck B,H];change(if 0<=k then g.hs[k.toNat]? else none)=_;unfold BY at O;rw[WC,decide_eq_true_eq,Vt,Vi V]at O;rw[bf k0,Vi V];exact congrArg some O.1
 have own:∀p:aU×Int,p≠(z,k)->BF { S with az:=S.az.map λg=>if g.pre=z then bX g k y.num else g,lns:=S.lns.set i { y with held:=y.held++[(z,k)] } } p=BF S p:=λp n=>by
  refine(N5 (S:=S) (h:=λg=>bX g k y.num) (λ_=>rfl) B p).trans ?_;by_cases c:p.1=z
  .rw[bf c,H];unfold BF CC;rw[c,ck B,H];change(if 0<=p.2 then(g.hs.set k.toNat _)[p.2.toNat]? else none)=if 0<=p.2 then g.hs[p.2.toNat]? else none
   by_cases I:0<=p.2
   .rw[bf I,bf I,Ww];intro e;exact n<|Prod.ext c (by change p.2=k;omega)
   .rw[ck I,ck I]
  .rw[ck c]
 have nw:∀{j:Nat}{J:Ln}{p:aU×Int},Eh S j J->p∈J.held->p≠(z,k):=λL m e=>by
  have a:=L.ow _ m;rw[e,free]at a;exact Gg (Vq a).symm
 refine w.iD ((w.g.bX z y.num k<|by rw[D];exact EA h).lns<|De (y:={ y with held:=y.held++[(z,k)] }) h D) h fn rfl (λ_ _=>.rfl) (λj J n hj p m=>own p<|nw (w.l j J hj) m) rfl ⟨?_,λp m=>?_,.aV,es,ef,by change y.num ∉ S.q;rwa[D],ep,el,by change(y.held++[(z,k)]).length<=_;rwa[VA]⟩
 .show (y.held++[(z,k)]).Nodup;rw[Y];exact WN.mpr ⟨L.nd,Vr.mpr ⟨(by simp),.nil⟩,λa ma b mb e=>nw L ma<|by rw[e];exact Vl.mp mb⟩
 .have m:p∈y.held++[(z,k)]:=m;rw[Y]at m;rcases Vx.mp m with m|m
  .rw[own p<|nw L m];change _=some (GU p.1 i y.num);rw[D];exact L.ow p m
  .rw[Vl.mp m];refine(N5 (S:=S) (h:=λg=>bX g k y.num) (λ_=>rfl) B (z,k)).trans ?_;rw[bf rfl,H];change(if 0<=k then(g.hs.set k.toNat<|.str y.num)[k.toNat]? else none)=_;rw[bf k0,X7 V];unfold GU;rw[ck B]
def Th (h:1<=n/\n<=10)(x:aU):x++Ef n≠U3 "":=λe=>by
 have:=congrArg XJ e;rw[Bh,JY h]at this;have z:(U3 "").length=0:=rfl;omega
def WF.gap(w:WF S)(h:S.lns[i]?=some ln)(f:ln.st=By.aV.s)(p0:ln.ag≠0):WF (Dr S i ln).2:=by
 obtain⟨B,D,⟨y3,y4⟩,y5,y6⟩:=AU<|(w.l i ln h).way f;have I:1<=ln.ag/\ln.ag<=10:=(by omega)
 have lf:(Ak ln).ae.length=ln.ae.length+1:=by change(ln.ae++Ef ln.ag).length=_;rw[Bh,JY I]
 have told:∀d,WF (Ck { S with lns:=S.lns.set i (Ak ln) } i (Ak ln) d):=λd=>w.told h B D (y:=Ak ln) rfl rfl B d;have hi:=w.g.hi;unfold Dr;dsimp only;split
 .rename_i c
  unfold CQ;split
  .exact told _
  .rename_i g eg
   split
   .exact told _
   .rename_i k ef
    have:=w.takes h B D (y:=Ak ln) rfl rfl f B ⟨YL 0,by change(0:Int)<=10;decide⟩ (by omega) (by change ln.held.length+1<=_;omega) (z:=(Ak ln).ae) (Th I _) eg ef;rwa[show(S.lns.set i<|Ak ln).set i { Ak ln with held:=(Ak ln).held++[((Ak ln).ae,k)] }=_ from V6 ..]
 .split
  .rename_i c
   exact w.aV h B D (y:=Ak ln) rfl rfl f B ⟨YL 0,by change(0:Int)<=10;decide⟩ c<|by change ln.held.length<=_;omega
  .unfold CP;split
   .exact told _
   .rename_i lc hc
    split
    .rename_i hr
     have hc:(S.lns.set i<|Ak ln)[Bf (S.lns.set i<|Ak ln) (Ak ln).ae]?=some lc:=hc;change WF { S with lns:=((S.lns.set i<|Ak ln).set i _).set (Bf (S.lns.set i<|Ak ln) (Ak ln).ae) _ };generalize Bf (S.lns.set i<|Ak ln) (Ak ln).ae=j at hc;have n:j≠i:=λe=>by
      rw [e,B1 h]at hc;rw[<-Vq hc]at hr;exact By.ne (u:=.rests) (ln:=Ak ln) f (λe=>(nomatch e)) hr
     rw [Ww n.symm]at hc;rw[V6];have H:=w.l j lc hc;obtain⟨O,V,Y,c4⟩:=AU<|H.way (w:=.rests) hr;have L:=w.l i ln h;have J:∀y:Ln,(S.lns.set i y)[j]?=some lc:=λy=>Ee hc n.symm;refine w.pP (w.g.lns ?_) h hc n (λz e=>by rw[B]at e;cases e) (λz e=>by rw[V]at e;cases e) rfl (λ_ _ _=>.rfl) (λ_ _ _ _ _ _ _=>rfl) rfl ⟨L.nd,L.ow,.rings,rfl,D,j,{ lc with st:="rung",ao:=some ln.num },B1<|J _,n,rfl,rfl,rfl⟩ ⟨H.nd,H.ow,.cu,rfl,O,Y,i,{ Ak ln with st:="rings",ao:=some lc.num },Ee (B1 h) n,n.symm,rfl,rfl,rfl⟩;rw[FL (f:=λx:Ln=>x.num) (y:={ lc with st:="rung",ao:=some (Ak ln).num }) (J _) rfl];exact De (y:={ Ak ln with st:="rings",ao:=some lc.num }) h rfl
    .exact told _
def WF.pQ(w:WF S)(h:S.lns[i]?=some ln)(f:ln.st=By.aV.s):JZ S i ln:=by have L:=w.l i ln h;obtain⟨H,I,⟨B,D⟩,J,O⟩:=AU<|L.way f;have V:=w.g.hi;exact⟨D,B,By.ne (u:=.rests) f (λe=>(nomatch e)),(by omega),(λg m=>(w.g.hg g m).s),(by omega),GV L.nd λp m=>⟨_,L.ow p m,Gg⟩⟩
def N6(p:aU×Int):BF (aB S ln) p=BF S p:=by unfold aB;split<;>rfl
def J3:(aB S ln).lns=S.lns:=by unfold aB;split<;>rfl
def Agi:(aB S ln).long=S.long:=by unfold aB;split<;>rfl
def WF.aB(w:WF S)(h:S.lns[i]?=some ln):WG (aB S ln)/\ln.num ∉ (Lw.aB S ln).q/\∀z,z≠ln.num->(z∈(Lw.aB S ln).q↔z∈S.q):=by
 unfold Lw.aB;split
 .exact ⟨w.g.dU (w.g.dm.erase _) λz m=>w.g.cq z<|List.mem_of_mem_erase m,λm=>((w.g.dm.mem_erase_iff).mp m).1 rfl,λz n=>wX n⟩
 .rename_i c
  exact⟨w.g,w.abI h c,λ_ _=>.rfl⟩
def WG.ba (g:WG T)(h:T.lns[i]?=some ln):WG (ba T i ln):=(g.au ln.held).lns<|by rw[Fm];exact De (y:=AW { ln with held:=[] } "rests") h rfl
end
section
variable {S:PS}{i j:Nat}{ln lo:Ln}
def WF.pR(w:WF S)(h:S.lns[i]?=some ln)(fn:ln.ao=none)(hw:ln.st="waits"->ln.num∈S.q):WF (DH S i ln).2/\JU S i ln:=by
 have L:=w.l i ln h;obtain⟨g1,D,H⟩:=AU<|w.aB h;have B:CH (Lw.aB S ln) ln=([],Lw.aB S ln):=by simp only[CH,fn]
 have eq:(au (Lw.aB S ln) ln.held).q=(Lw.aB S ln).q:=Fn ..;refine⟨?_,hw,λz e=>(by rw[fn]at e;cases e),by rw[B];exact GV L.nd λp m=>⟨_,(N6 p).trans<|L.ow p m,Gg⟩⟩;unfold DH;rw[B];refine w.iD (S':=ba (Lw.aB S ln) i ln) (y:=AW { ln with held:=[] } "rests") (g1.ba<|by rwa[J3]) h fn (by change(Lw.aB S ln).lns.set i _=_;rw[J3]) (λz n=>by change z∈(au (Lw.aB S ln) ln.held).q↔_;rw[eq];exact H z n) (λk I n hk p m=>?_) ((IG ..).trans Agi)<|.none rfl ⟨.rests,rfl,rfl,rfl,by change ln.num ∉ (au (Lw.aB S ln) ln.held).q;rwa[eq],rfl,rfl,rfl⟩;exact(IF L.ge<|w.apart h hk n m).trans (N6 p)
def WF.left(w:WF S)(h:S.lns[j]?=some lo)(B:lo.num ∉ S.q):∃y:Ln,y.num=lo.num/\y.held=[]/\y.ao=none/\(BJ S j lo).2.lns=S.lns.set j y/\(BJ S j lo).2.long=S.long/\WG (BJ S j lo).2/\(∀p,p ∉ lo.held->BF (BJ S j lo).2 p=BF S p)/\(∀x,x≠lo.num->(x∈(BJ S j lo).2.q↔x∈S.q))/\∀U:PS,U.q=(BJ S j lo).2.q->∃v:By,y.st=v.s/\Wy U j y v:=by
 have L:=w.l j lo h;have eq:(au S lo.held).q=S.q:=Fn ..;have D:WG (CB S j lo):=(w.g.au lo.held).lns (by rw[Fm];exact De (y:={ lo with held:=[] }) h rfl);have H:(CB S j lo).lns[j]?=some { lo with held:=[] }:=B1 h;have own:∀p,p ∉ lo.held->BF (au S lo.held) p=BF S p:=λp n=>IF L.ge n;unfold BJ;split
 .refine ⟨AW { lo with held:=[] } "waits",rfl,rfl,rfl,V6 ..,IG ..,(D.lns<|De (y:=AW { lo with held:=[] } "waits") H rfl).dU ?_ ?_,own,λx n=>?_,λU e=>⟨.bY,rfl,rfl,rfl,?_,rfl,rfl,rfl⟩⟩
  .show ((au S lo.held).q++[lo.num]).Nodup;rw[eq];exact Td w.g.dm B
  .show ∀z∈(au S lo.held).q++[lo.num],z∈((CB S j lo).lns.set j<|AW { lo with held:=[] } "waits").map (·.num);rw[eq,De (y:=AW { lo with held:=[] } "waits") H rfl,show(CB S j lo).lns.map (·.num)=S.lns.map (·.num)from De (y:={ lo with held:=[] }) h rfl];exact Te w.g.cq<|EA h
  .show x∈(au S lo.held).q++[lo.num]↔_;rw[eq];exact Tf n
  .rw[e];exact V2 _<|Vl.mpr rfl
 .refine ⟨AW { lo with held:=[] } "rests",rfl,rfl,rfl,rfl,IG ..,D.lns ?_,own,λx n=>?_,λU e=>⟨.rests,rfl,rfl,rfl,?_,rfl,rfl,rfl⟩⟩
  .rw[show(CB S j lo).lns.map (·.num)=S.lns.map (·.num)from De (y:={ lo with held:=[] }) h rfl];exact De (y:=AW { lo with held:=[] } "rests") h rfl
  .show x∈(au S lo.held).q↔_;rw[eq]
  .rw[e];change lo.num ∉ (au S lo.held).q;rwa[eq]
def WF.tK(w:WF S)(h:S.lns[i]?=some ln)(nw:ln.st≠"waits")(B:S.lns[j]?=some lo)(D:j≠i)(f1:ln.ao=some lo.num)(f2:lo.ao=some ln.num)(nq:ln.num ∉ S.q)(mq:lo.num ∉ S.q):WF (DH S i ln).2/\JU S i ln:=by
 have L:=w.l i ln h;have H:Lw.aB S ln=S:=ck nw;have ei:=J2 w B;have J:CH S ln=([(BJ S j lo).1],(BJ S j lo).2):=by simp only[CH,f1,ei,B]
 obtain⟨y,y1,y2,y3,O,y5,y6,V,Y,y9⟩:=AG<|w.left B mq;have eq:(au (BJ S j lo).2 ln.held).q=(BJ S j lo).2.q:=Fn ..;have hi:(BJ S j lo).2.lns[i]?=some ln:=by rw[O];exact Ee h D
 refine⟨?_,λe=>absurd e nw,λz e=>?_,?_⟩
 .unfold DH;rw[H,J];refine w.pP (S':=ba (BJ S j lo).2 i ln) (i:=j) (j:=i) (y:=y) (z:=AW { ln with held:=[] } "rests") (y6.ba hi) B h D.symm (λz e=>by rw[f2]at e;exact(Vq e).symm) (λz e=>by rw[f1]at e;exact(Vq e).symm) (by change(BJ S j lo).2.lns.set i _=_;rw[O]) (λx I n2=>by change x∈(au (BJ S j lo).2 ln.held).q↔_;rw[eq];exact Y x I) (λk lm I n2 hk p m=>(IF L.ge<|w.apart h hk n2 m).trans<|V p (w.apart B hk I m)) ((IG ..).trans y5) (.none y2<|y9 _ eq)<|.none rfl ⟨.rests,rfl,rfl,rfl,?_,rfl,rfl,rfl⟩;change ln.num ∉ (au (BJ S j lo).2 ln.held).q;rw[eq];exact λm=>nq<|(Y _<|Ga w.g.num h B D.symm).mp m
 .rw[f1]at e;cases e;exact⟨j,lo,B,rfl,D,by rw[H];exact w.bA B⟩
 .rw[H,J];exact GV L.nd λp m=>⟨_,(V p<|w.apart B h D.symm m).trans<|L.ow p m,Gg⟩
def WF.bR(w:WF S)(h:S.lns[i]?=some ln)(f:ln.st∈LW.bR.b8):WF (DH S i ln).2/\JU S i ln:=by
 have L:=w.l i ln h;obtain⟨v,e,y⟩:=Au L.wy;have no:∀u:By,u.s ∉ LW.bR.b8->v≠u:=λu n z=>n (by rwa[<-z,<-e]);cases v with
 |rests=>exact absurd rfl<|no .rests `o
 |cu=>exact absurd rfl<|no .cu `o
 |bY=>exact w.pR h y.2.1 λ_=>y.2.2.1
 |aV=>exact w.pR h y.1 λz=>absurd z<|By.ne (u:=.bY) e λz=>nomatch z
 |told=>exact w.pR h y.2.1 λz=>absurd z<|By.ne (u:=.bY) e λz=>nomatch z
 |rings =>
  obtain⟨q,j,lo,B,D,f1,f2,H⟩:=y;exact w.tK h (By.ne (u:=.bY) e λz=>nomatch z) B D f1 f2 q ((w.l j lo B).way (w:=.cu) H).2.1
 |dq =>
  obtain⟨q,j,lo,B,D,f1,f2,H⟩:=y;exact w.tK h (By.ne (u:=.bY) e λz=>nomatch z) B D f1 f2 q ((w.l j lo B).way (w:=.dq) H).1
def WF.jR (w:WF S)(e:Ex S=some x):WF x.2:=by
 obtain⟨z,r,k,ln,H,e2,B,J,e5,rfl⟩:=HV<|NO w.cT e;generalize Bf S.lns z=i at B ⊢;have il:=(Vz.mp B).1;obtain⟨⟨k0,k1⟩,L⟩:=GQ w.g.m0 (Z2 w.g.m1) e2;have O:k.toNat<S.sk.hs.length:=(by omega)
 obtain⟨l1,l2,l3,l4⟩:=AU<|(w.l i ln B).jQ (by rw[J,H];exact VJ);have nd:=w.g.dm;rw[H]at nd;obtain⟨zr,oU⟩:=Vr.mp nd;have free:BF S ((U3 ""),k)=some .aa:=by change(if 0<=k then S.sk.hs[k.toNat]? else none)=_;unfold BY at L;rw[WC,decide_eq_true_eq,Vt,Vi O]at L;rw[bf k0,Vi O];exact congrArg some L.1
 have own:∀(T:PS),T.az=S.az->T.sk.hs=S.sk.hs.set k.toNat (.int i)->∀p:aU×Int,p≠((U3 ""),k)->BF T p=BF S p:=λT eg es p n=>by
  unfold BF CC BK;rw[eg,es];by_cases c:p.1=U3 ""
  .rw[bf c,bf c];change(if 0<=p.2 then(S.sk.hs.set k.toNat _)[p.2.toNat]? else none)=if 0<=p.2 then S.sk.hs[p.2.toNat]? else none
   by_cases I:0<=p.2
   .rw[bf I,bf I,Ww];intro e;exact n<|Prod.ext c (by change p.2=k;omega)
   .rw[ck I,ck I]
  .rw[ck c,ck c]
 have nw:∀(j:Nat)(D:Ln),S.lns[j]?=some D->∀p∈D.held,p≠((U3 ""),k):=λj D V p m c=>by
  have a:=(w.l j D V).ow p m;rw[c,free]at a;exact Gg (Vq a).symm
 dsimp only;refine w.iD (y:={ AW ln "dials" with held:=ln.held++[((U3 ""),k)] }) (((w.g.bG (k:=k) il).lns<|De (S:=S) (y:={ AW ln "dials" with held:=ln.held++[((U3 ""),k)] }) B rfl).dU oU λy my=>?_) B l3 rfl (λx n=>?_) (λj D n V p m=>by refine own _ ?_ ?_ p λc=>?_;rfl;rfl;exact nw j D V p m c) rfl ?_
 .show y∈(S.lns.set i _).map _;rw[De (y:={ AW ln "dials" with held:=ln.held++[((U3 ""),k)] }) B rfl];exact w.g.cq y<|by rw[H];exact Vw _ my
 .show x∈r↔_;rw[J]at n;rw[H,Vc];exact⟨.inr,λc=>c.resolve_left n⟩
 .have Y:ln.held++[((U3 ""),k)]=[((U3 ""),k)]:=by rw[l2];rfl
  have lo:=w.g.lo;refine⟨by change(ln.held++_).Nodup;rw[Y];exact Vr.mpr ⟨(by simp),.nil⟩,λp m=>?_,.aV,rfl,rfl,?_,⟨YL 0,by change(0:Int)<=10;decide⟩,?_,?_⟩
  .have m:p∈ln.held++[((U3 ""),k)]:=m;rw[Y]at m;rw[Vl.mp m];change(if 0<=k then(S.sk.hs.set k.toNat<|.int i)[k.toNat]? else none)=some (.int i);rw[bf k0,X7 O]
  .show ln.num ∉ r;rw[J];exact zr
  .show ((U3 "").length:Int)<S.long;have:(U3 "").length=0:=rfl;omega
  .show (ln.held++_).length<=(U3 "").length+1;rw[Y];exact Nat.le_add_left 1 _
theorem WF.aK:∀(n:Nat){S:PS},WF S->WF (aK n S).2
 |0,_,w=>w
 |n+1,S,w=>by
  unfold Lw.aK;split
  .exact w
  .rename_i e
   exact WF.aK n (w.jR e)
def WF.abJ(w:WF S):WF (Cz S).2:=WF.aK _ w
def Bi.txt:Bi->Prop
 |.bb _ w _=>Ok w
 |.line _ z=>Ok z
def LW.in{d:LW}(f:d.fits ln=true):ln.st∈d.b8:=by unfold LW.fits at f;rw[WC,decide_eq_true_eq]at f;exact f.1
def LW.tL(f:LW.gap.fits ln=true):ln.ag≠0:=by unfold LW.fits at f;rw[WC]at f;exact of_decide_eq_true f.2
def LW.aV{d:LW}(f:d.fits ln=true)(e:d.b8=[("dials":aU)]):ln.st=By.aV.s:=by have:=LW.in f;rw[e]at this;exact Vl.mp this
def WF.go(w:WF S)(h:S.lns[i]?=some ln){d:LW}(f:d.fits ln=true):WF (d.go S i ln).2/\d.ok S i ln:=by
 cases d with
 |lift =>
  apply w.lift h;have:=LW.in f;rcases Vc.mp this with e|e
  .exact .inl e
  .exact .inr (Vl.mp e)
 |b9=>exact w.b9 h<|LW.aV f rfl
 |gap=>exact⟨w.gap h (LW.aV f rfl)<|LW.tL f,w.pQ h<|LW.aV f rfl⟩
 |bR=>exact w.bR h<|LW.in f
end
noncomputable def Cm(z:aU):Ln:=⟨z,"rests","",0,none,.none,[]⟩
noncomputable def CS(p:aU×Int):Gr:=⟨p.1,U5 p.2.toNat .aa,U5 p.2.toNat false,U5 p.2.toNat 0⟩
noncomputable def HM(n places:Int):Sk:=⟨U5 n.toNat .aa,U5 n.toNat false,U5 n.toNat 0,places,0,U5 n.toNat 0,U5 n.toNat 0⟩
noncomputable def cK(long:Int)(zs:List aU)(n:Int)(gs:List (aU×Int)):PS:=⟨long,zs.map Cm,gs.map CS,HM n zs.length,[],[]⟩
def At.init{H B:Hp}{p:ar}{o o':HO}{C N:Ax}(t:At H ((p,o)::C))(s:CD [p] H B)(ep:B p=some o')(D:∀c∈N,H c.1=none/\B c.1=some c.2)(V:(N.map (·.1)).Nodup):At B ((p,o')::(N++C)):=by
 have I:=Vr.mp t.nd;refine⟨λc m=>?_,Vr.mpr ⟨λm=>?_,?_⟩⟩
 .rcases Vc.mp m with rfl|m
  .exact ep
  .rcases Vx.mp m with m|m
   .exact (D c m).2
   .exact s _ _ (λz=>I.1<|Ve.mpr ⟨c,m,Vl.mp z⟩) (t.at_ c<|Vw _ m)
 .obtain ⟨c,mc,L⟩:=Ve.mp m;rcases Vx.mp mc with mc|mc
  .have:=(D c mc).1;rw[show c.1=p from L,t.hd]at this;cases this
  .exact I.1 (Ve.mpr ⟨c,mc,L⟩)
 .rw[Vg];refine WN.mpr ⟨V,I.2,λx hx y hy e=>?_⟩;obtain⟨c,mc,rfl⟩:=Au<|Ve.mp hx;obtain⟨Y,J,rfl⟩:=Au<|Ve.mp hy;have O:=(D c mc).1;rw[e,t.at_ Y<|Vw _ J]at O;cases O
structure LF(a:An)(H:Hp)(D:ar)(zs:List aU)(i:Nat)(L:List LX)(C:Ax):Prop where
 t:At H ((D,.dK (L.map λx=>(.inr x.l.num,.ref x.p)))::(L.flatMap (Ct a)++C))
 len:L.length=i
 l:L.map (·.l)=(zs.take i).map Cm
 x:∀(j:Nat)(x:LX),L[j]?=some x->x.i=j/\x.hv=[]/\x.wv=.aa
def LF.push{a:An}{H B:Hp}{D x dx l:ar}{zs:List aU}{i:Nat}{L:List LX}{C:Ax}{z:aU}(m:LF a H D zs i L C)(O:zs[i]?=some z)(nd:zs.Nodup)(s:Ah H B)(nx:B x=none)(cU:B dx=none)(fe:dx≠x)(nl:(upd (upd B dx<|.own x) x<|.ins a.Line dx []) l=none) :
  LF a (upd (upd (upd (upd (upd B dx<|.own x) x<|.ins a.Line dx []) l<|.lst []) x<|.ins a.Line dx (Cj z i l "rests" "" 0 .aa .aa)) D<|.dK (BS (L.map λx=>((.inr x.l.num:Ay),V.ref x.p)) (.inr z)<|.ref x)) D zs (i+1) (L++[⟨x,dx,l,i,.aa,[],Cm z⟩]) C:=by
 have no:z ∉ L.map (·.l.num):=λh=>by
  have e:L.map (·.l.num)=zs.take i:=by have:=congrArg (V1 Ln.num) m.l;rw[Vn,Vn]at this;rw[show(λx:LX=>x.l.num)=Ln.num∘(λx:LX=>x.l)from rfl,this,show Ln.num∘Cm=id from rfl,Zh]
  rw [e]at h;obtain⟨j,I,J⟩:=Xa h;rw[Wg]at I;have bO:zs[j]?=some z:=by rw[zB]at J;rw[Vi<|(by omega),J]
  exact F8 nd bO O (by omega) rfl
 have s1:Ah B (upd B dx<|.own x):=(Ah.refl B).upd cU;have t1:=(m.t.same λb o e=>s1 _ _<|s _ _ e).new (b:=x) (u:=.ins a.Line dx []) (by rwa[Aw fe.symm]);have t2:=t1.new (u:=.lst []) nl;have t3:=At.set (P:=[_]) (o':=.ins a.Line dx<|Cj z i l "rests" "" 0 .aa .aa) t2;have t4:=At.set (P:=[_,_]) (o':=.dK<|BS (L.map λx=>((.inr x.l.num:Ay),V.ref x.p)) (.inr z) (.ref x)) t3;have t5:=At.perm (C':=(x,.ins a.Line dx<|Cj z i l "rests" "" 0 .aa .aa)::(l,.lst [])::_) t4<|.swap _ _ _;have Y:=At.swap (P:=[_,_]) (M:=(D,_)::L.flatMap (Ct a)) (R:=C) t5;refine⟨?_,by rw[VA,m.len];rfl,?_,λj y I=>?_⟩
 .have ek:BS (L.map λx=>((.inr x.l.num:Ay),V.ref x.p)) (.inr z) (.ref x)=(L.map λx=>((.inr x.l.num:Ay),V.ref x.p))++[(.inr z,.ref x)]:=KZ _<|HB (f:=λx:LX=>x.l.num) (v:=λx=>V.ref x.p) no;rw[ek]at Y ⊢;rwa[w6,Vg,Vj]
 .rw[Vg,m.l,WE,O,Vg];rfl
 .by_cases lt:j<L.length
  .rw[vS lt]at I;exact m.x j y I
  .have jl:=(Vz.mp I).1;rw[VA,Wa]at jl;have J:j=L.length:=by omega
   subst J;rw[List.getElem?_concat_length]at I;cases I;exact⟨m.len.symm,rfl,rfl⟩
structure LG(a:An)(H:Hp)(G:ar)(gs:List (aU×Int))(i:Nat)(L:List RX)(C:Ax):Prop where
 t:At H ((G,.dK (L.map λx=>(.inr x.g.pre,.ref x.p)))::(L.flatMap (BU a)++C))
 len:L.length=i
 g:L.map (·.g)=(gs.take i).map CS
def LG.push (m:LG a H G O i L C)(Y:O[i]?=some q)(nd:(O.map (·.1)).Nodup)(np:H p=none)(cU:H dx=none)(fe:dx≠p)(s:CD [p] (upd (upd H dx<|.own p) p<|.ins a.aT dx []) J)(ep:J p=some (.ins a.aT dx<|Hs B D I))(na:(upd (upd H dx<|.own p) p<|.ins a.aT dx []) B=none)(nb:(upd (upd H dx<|.own p) p<|.ins a.aT dx []) D=none)(nc:(upd (upd H dx<|.own p) p<|.ins a.aT dx []) I=none)(ea:J B=some (.lst (CS q).hs))(eb:J D=some (.lst<|(CS q).js.map V.bl))(ec:J I=some (.lst<|(CS q).ts.map V.int))(ab:B≠D)(ac:B≠I)(bc:D≠I):
  LG a (upd J G<|.dK (BS (L.map λx=>((.inr x.g.pre:Ay),V.ref x.p)) (.inr q.1)<|.ref p)) G O (i+1) (L++[⟨p,dx,B,D,I,CS q⟩]) C:=by
 have no:q.1 ∉ L.map (·.g.pre):=λh=>by
  have e:L.map (·.g.pre)=(O.take i).map (·.1):=by have:=congrArg (V1 Gr.pre) m.g;rwa[Vn,Vn]at this
  rw [e,List.map_take]at h;obtain⟨j,hj,ej⟩:=Xa h;rw[Wg,UW]at hj;have bO:(O.map (·.1))[j]?=some q.1:=by rw[zB]at ej;rw[Vi<|by rw[UW];omega,ej]
  exact F8 nd bO (j:=i) (y:=q.1) (by rw[Va,Y];rfl) (by omega) rfl
 have s1:Ah H (upd H dx<|.own p):=(Ah.refl H).upd cU;have t1:=(m.t.same s1).new (b:=p) (u:=.ins a.aT dx []) (by rwa[Aw fe.symm]);have t2:=t1.init (N:=[(B,.lst (CS q).hs),(D,.lst<|(CS q).js.map V.bl),(I,.lst<|(CS q).ts.map V.int)]) s ep (λc mc=>by
  simp only[Vc,VC,or_false]at mc;rcases mc with rfl|rfl|rfl
  .exact ⟨na,ea⟩
  .exact ⟨nb,eb⟩
  .exact ⟨nc,ec⟩) (by simp[ab,ac,bc])
 have t3:=At.set (P:=[_,_,_,_]) (o':=.dK<|BS (L.map λx=>((.inr x.g.pre:Ay),V.ref x.p)) (.inr q.1) (.ref p)) t2;have t4:=At.swap (P:=[_,_,_,_]) (M:=(G,_)::L.flatMap (BU a)) (R:=C) t3;refine⟨?_,by rw[VA,m.len];rfl,?_⟩
 .have ek:BS (L.map λx=>((.inr x.g.pre:Ay),V.ref x.p)) (.inr q.1) (.ref p)=(L.map λx=>((.inr x.g.pre:Ay),V.ref x.p))++[(.inr q.1,.ref p)]:=KZ _<|HB (f:=λx:RX=>x.g.pre) (v:=λx=>V.ref x.p) no;rw[ek]at t4 ⊢;rwa[w6,Vg,Vj]
 .rw[Vg,m.g,WE,Y,Vg];rfl
def Ti(K:UT)(a:An):Sp:=λvs H Q _=>∃(h dx pl bz lt gt:ar)(long n:Int)(zs:List aU)(ts:List Pr)(R:Ax),vs=[.ref h,.ref pl]/\At H ((h,.ins a.ak dx [])::R)/\(pl,.ins a.Plan bz (Lr long lt n gt))∈R/\Lq K a.Plan/\H lt=some (.tup (zs.map V.str))/\H gt=some (.tup (ts.map Bw))/\C7 H ts/\zs.Nodup/\(ts.map (·.2.1)).Nodup/\(∀t∈ts,t.2.1≠U3 ""/\0<=t.2.2/\t.2.2<=1000)/\ts.length<=1000/\zs.length<=60/\0<=n/\n<=60 /\
 ∀H' X,X.h=h->X.S=cK long zs n (ts.map (·.2))->HT K a H' X R->Af H H'->Q .aa H'
def At.nw (t:At H C)(n:BI H B l o):At B ((l,o)::C):=by rw[n.e];exact t.new n.n
def At.st(P:Ax){H:Hp}{R:Ax}{h c dx:ar}{kv:List (aU×V)}{nm:aU}{v:V}{N:Hp->Prop}(t:At H (P++(h,.ins c dx kv)::R))(q:∀B D,D=A7 nm v kv->At B (P++(h,.ins c dx D)::R)->Af H B->N B):N (upd H h<|.ins c dx (A7 nm v kv)):=q _ _ rfl (At.set t)<|.chg (t.get<|V2 _ VJ) rfl
def EM:AM ["self","plan"] ["self","plan"] (Ab<|Al (top 28) 0):=.of
def Agj:Gm (Ab<|Al (top 28) 0) "AT_SEEKERS":=.of
def Agk:Gm (Ab<|Al (top 28) 0) "Seekers":=.of
def Agl:Gm (Ab<|Al (top 28) 0) "len":=.of
def Agm:Gm (Ab<|Al (top 28) 0) "enumerate":=.of
noncomputable def LH:Scope:={ kind:=.function,names:=[(".0",.local),("prefix",.local),("many",.local),("Group",.globalImplicit)],isGenerator:=false,isCoroutine:=false,more:=[] }
def N7:Bl LH (Ab<|Al (top 28) 0) ["prefix","many"] ["self","plan"] [none,none]:=(Bl.mk' rfl `o `o `o `o rfl<|(by decide +kernel))
def Tj:Nm LH "prefix":=.of
def Tn:Nm LH "many":=.of
def Agn:Gm LH "Group":=.of
noncomputable def LJ:Scope:={ kind:=.function,names:=[(".0",.local),("place",.local),("number",.local),("Line",.globalImplicit)],isGenerator:=false,isCoroutine:=false,more:=[] }
def N8:Bl LJ (Ab<|Al (top 28) 0) ["place","number"] ["self","plan"] [none,none]:=(Bl.mk' rfl `o `o `o `o rfl<|(by decide +kernel))
def To:Nm LJ "place":=.of
def N9:Nm LJ "number":=.of
def Ago:Gm LJ "Line":=.of
def Agp(F:AE K "__init__" "Hall.__init__" (Al (top 28) 0) f fd)(T:TxtH P w K mg a)(abK:GJ P w K mg base Av 2 a.Line "Line" ["self","number","place"] (Sh a))(abL:GJ P w K mg base Av 2 a.aT "Group" ["self","many"] (Lg K a))(abM:GJ P w K mg base Av 2 a.bh "Seekers" ["self","many","places"] (RR K a)):Az P w K mg base Av 4 f fd ["self","plan"] (Ti K a):=by
 refine F.ok EM.fs λai A outer s H vs Q E hr h=>?_
 .obtain ⟨h,dx,pl,bz,lt,gt,long,n,zs,ts,R,rfl,t,lp,pc,aP,lq,lay,nz,ng,gk,gz,zl,n0,n1,q⟩:=h;show 4;refine⟨_,(@Ad _ _ _ _ _ (BM (Aa 0 EM) (AD (Aa 1 EM) rfl) rfl)<|Ad (BM (Aa 0 EM) (Q7 rfl N8 (AdV Agm T.kI<|Ag (AD (Aa 1 EM) rfl)) (λcl C fp π s₂ H₂=>(Im (X:=Bu _ _ _ cl C fp π s₂ H₂) K rfl 2 rfl (BW (Cf 0 N8.nd To.comp)<|BW (Cf 1 N8.nd N9.comp) D7) rfl rfl)) (λcl C fp π s₂ H₂=>GH) (λcl C fp π s₂ H₂=>(Ap 1 N9.comp)) λcl C fp π s₂ H₂=>(Jz abK Ago.comp hr.d AK<|AJ (Ap 1 N9.comp) (Ap 0 To.comp))) rfl) (Ad (BM (Aa 0 EM) (Q7 rfl N7 (Pu<|AD (Aa 1 EM) rfl) (λcl C fp π s₂ H₂=>(Im (X:=Bu _ _ _ cl C fp π s₂ H₂) K rfl 2 rfl (BW (Cf 0 N7.nd Tj.comp)<|BW (Cf 1 N7.nd Tn.comp) D7) rfl rfl)) (λcl C fp π s₂ H₂=>GH) (λcl C fp π s₂ H₂=>(Ap 0 Tj.comp)) λcl C fp π s₂ H₂=>(Jz abL Agn.comp hr.d AK<|Ag (Ap 1 Tn.comp))) rfl)<|Ad (Cc (VB (VF `x _) hu) (AD (Aa 0 EM) rfl) (Iq Agj T.jK) (Jz abM Agk hr.d AK<|AJ (AD (Aa 1 EM) rfl) (Bo B8 Agl T.aR B0<|Ag (AD (Aa 1 EM) rfl))) rfl) (Ad (BM (Aa 0 EM) (A3 B3) rfl)<|Ai (BM (Aa 0 EM) (A3 B3) rfl)))),?_⟩;try dsimp only[av,aw]
  show AL pl a.Plan bz _ _ rfl (t.tl.get lp) pc.cls pc.l rfl ?_;show Ep h a.ak dx _ rfl ⟨t.hd,T.hc.cls,T.hc.lo,(VL rfl),At.st [] t λH1 k1 e1 t1 p1=>?_⟩;show AL pl a.Plan bz _ _ rfl (t1.tl.get lp) pc.cls pc.n rfl ?_;show Bb lt _ rfl (.of<|p1.t aP) (λD nD=>?_);refine AdW (xs:=zs.map V.str) (λi σ H2=>∃x y L,σ=[x,y]/\LF a H2 D zs i L ((h,.ins a.ak dx k1)::R)/\Af H H2) ⟨none,none,[],rfl,⟨t1.new nD,rfl,rfl,λj x h=>by simp at h⟩,p1.trans<|.new nD⟩ (λi σ H2 _ ⟨_,_,_,_,_,p⟩=>.of<|p.t aP) ?_ ?_
  .rintro i v tt σ H2 hx ⟨x0,y0,L,rfl,m,p2⟩ nt;rw[Va]at hx;obtain⟨z,hz,rfl⟩:=Au<|VH.mp hx;have s3:=(Ah.refl H2).upd (o:=.tup [.int i,.str z]) nt;have O:(upd H2 tt<|.tup [.int i,.str z]) tt=some (.tup [.int i,.str z]):=Ao;generalize upd H2 _ _=H3 at s3 O ⊢;show CN tt _ rfl (.of O) rfl ?_;ext;intro x I nx cU fe;refine Ep x I z i rfl ⟨Ao,λl nl=>⟨rfl,?_⟩⟩;have gw:H3 l=none:=by
    have z1:∀{G:Hp}{b c:ar}{o:HO},(upd G b o) c=none->G c=none:=λ{G b c o} e=>by
     by_cases z:c=b
     .rw[z,Ao]at e;cases e
     .rwa[Aw z]at e
    exact z1<|z1 nl
   have sC:Ah H3 (upd (upd (upd (upd H3 I<|.own x) x<|.ins a.Line I []) l<|.lst []) x<|.ins a.Line I (Cj z i l "rests" "" 0 .aa .aa)):=λb o e=>by
    rwa[Aw<|Cn e nx,Aw<|Cn e gw,Aw<|Cn e nx,Aw<|Cn e cU]
   have r:=m.push hz nz s3 nx cU fe nl;have hD:=sC _ _<|s3 _ _ m.t.hd;show EG _ (.inr z) rfl ⟨hD,?_,_,_,_,rfl,r,p2.trans<|(Af.of s3).trans ((Af.of sC).trans<|.chg hD rfl)⟩;rw[U0,UW,m.len];have:=(Vz.mp hz).1;omega
  .intro σ H2 zq;replace zq:=Dg zq;obtain⟨x0,y0,L,rfl,m,p2⟩:=zq;rw[UW]at m;have ml:=m.l;rw[Wi]at ml;show Ep h a.ak dx k1 rfl ⟨m.t.get<|(by simp),T.hc.cls,T.hc.li,(by rw[e1];exact VL rfl),At.st ((D,_)::L.flatMap (Ct a)) m.t λH3 k3 O t3 p3=>?_⟩;replace p3:=p2.trans p3
   have abN:H3 pl=some (.ins a.Plan bz<|Lr long lt n gt):=t3.get<|V2 _ (Vw _ lp);show AL pl a.Plan bz _ _ rfl abN pc.cls pc.g rfl ?_;refine D5 gt rfl ⟨_,.of<|p3.t lq⟩ λG nG=>?_;refine AdX (xs:=ts.map Bw) (λi σ H4=>∃x y B,σ=[x,y]/\LG a H4 G (ts.map (·.2)) i B ((D,.dK<|L.map λx=>(.inr x.l.num,.ref x.p))::L.flatMap (Ct a)++(h,.ins a.ak dx k3)::R)/\Af H H4) ⟨none,none,[],rfl,⟨t3.new nG,rfl,rfl⟩,p3.trans<|.new nG⟩ (λi σ H4 _ ⟨_,_,_,_,_,p⟩=>.of<|p.t lq) ?_ ?_
   .intro i v σ H4 hx zq;replace zq:=Dg zq;obtain⟨x0,y0,B,rfl,cL,p4⟩:=zq;rw[Va]at hx;obtain⟨J,gZ,rfl⟩:=Au<|VH.mp hx;have g3:=gk J<|Vh gZ;have pC:=p4.t<|lay J (Vh gZ);show⟨J.1,_,rfl,.of pC,rfl,?_⟩;ext;intro x I nx cU fe;refine⟨x,J.2.2,a.aT,I,rfl,Ao,T.gc,g3.2.1,g3.2.2,λH5 ra rb rc s5 e5 na nb nc ea eb ec ab ac bc=>⟨rfl,?_⟩⟩;have r:=cL.push (q:=J.2) (by rw[Va,gZ];rfl) (by rwa[Vn]) nx cU fe s5 e5 na nb nc ea eb ec ab ac bc;have s4:Ah H4 H5:=λb o e=>s5 b o (λz=>by rw[Vl.mp z,nx]at e;cases e) (by rwa[Aw<|Cn e nx,Aw<|Cn e cU]);have hG:=s4 _ _ cL.t.hd;show⟨_,.inr J.2.1,rfl,hG,?_,_,_,_,rfl,r,p4.trans<|(Af.of s4).trans (.chg hG rfl)⟩;rw[U0,UW,cL.len];have:=(Vz.mp gZ).1;omega
   .intro σ H4 zq;replace zq:=Dg zq;obtain⟨x0,y0,B,rfl,cL,p4⟩:=zq;rw[UW]at cL;have gl:=cL.g;rw[show(ts.map (·.2)).take ts.length=ts.map (·.2) by rw[Y5<|by rw[UW];exact Vb _]]at gl;have t4:=cL.t;generalize hdl:(HO.dK<|L.map λx=>((.inr x.l.num:Ay),V.ref x.p))=dl at t4;ext;have jS:At H4 (((G,.dK<|B.map λx=>(.inr x.g.pre,.ref x.p))::(B.flatMap (BU a)++((D,dl)::L.flatMap (Ct a))))++(h,.ins a.ak dx k3)::R):=by
     rwa[Xj,Vj]
    refine Ep h a.ak dx k3 rfl ⟨jS.get<|(by simp),(T.hc.cls),T.hc.sw,(by rw[O,e1];exact VL rfl),At.st _ jS λH5 k5 e5 t5 p5=>?_⟩;replace p5:=p4.trans p5
    have tN:H5 pl=some (.ins a.Plan bz<|Lr long lt n gt):=t5.get<|V2 _ (Vw _ lp);show AL pl a.Plan bz _ _ rfl tN pc.cls pc.s rfl ?_;show AL pl a.Plan bz _ _ rfl tN pc.cls pc.n rfl ?_;show U4 (Bb lt _ rfl (.inr<|.of (p5.t aP)) ?_);ext;rw[UW];intro x I nx cU fe;have t6:=(t5.same<|(Ah.refl H5).upd (o:=.own x) cU).new (b:=x) (u:=.ins a.bh I []) (by rwa[Aw fe.symm]);refine AL x n zs.length a.bh I rfl Ao T.sc n0 (by omega) λH7 ra rb rc rs aY x7 k7 na nb nc ns nw=>⟨rfl,?_⟩;have s7:Ah H5 H7:=λb o e=>x7 b o (λz=>by rw[Vl.mp z,nx]at e;cases e) (by rwa[Aw<|Cn e nx,Aw<|Cn e cU]);obtain⟨kdx,ke⟩:=k7.ins;obtain⟨Y,lA⟩:∃Y:SX,Y=⟨x,kdx,ra,rb,rc,rs,aY,HM n zs.length⟩:=(⟨_,rfl⟩);have t7:At H7 (Ca a Y++(((G,.dK<|B.map λx=>(.inr x.g.pre,.ref x.p))::(B.flatMap (BU a)++((D,dl)::L.flatMap (Ct a))))++(h,.ins a.ak dx k5)::R)):=by
     rw [lA];exact t6.init (N:=[(ra,.lst<|U5 n.toNat .aa),(rb,.lst<|(U5 n.toNat false).map V.bl),(rc,.lst<|(U5 n.toNat 0).map V.int),(rs,.lst<|(U5 n.toNat 0).map V.int),(aY,.lst<|(U5 n.toNat 0).map V.int)]) x7 ke (λc mc=>by
      simp only[Vc,VC,or_false]at mc;rcases mc with rfl|rfl|rfl|rfl|rfl
      .exact ⟨na,k7.ha⟩
      .exact ⟨nb,k7.hb⟩
      .exact ⟨nc,k7.hc⟩
      .exact ⟨ns,k7.gA⟩
      .exact ⟨nw,k7.hw⟩) k7.ap
    have hh7:=s7 _ _<|t5.get (V2 _ VJ);have jT:=s7 _ _<|t5.get (Yt _ VJ);show AL h a.ak dx _ _ rfl hh7 T.hc.cls T.hc.sw (by rw[e5,O,e1];rfl) ?_;show Bb G _ rfl (.inl ⟨_,.inr "",jT,rfl,(by rw[UW,cL.len,U0];omega),rfl⟩) ?_;have nos:Ba (B.map λx=>((.inr x.g.pre:Ay),V.ref x.p)) (.inr<|U3 "")=none:=HB (f:=λx:RX=>x.g.pre) (v:=λx=>V.ref x.p) λmm=>by
     have e:B.map (·.g.pre)=ts.map (·.2.1):=by have:=congrArg (V1 Gr.pre) gl;rwa[Vn,Vn,Vn]at this
     rw [e]at mm;obtain⟨J,mt,et⟩:=Au<|Ve.mp mm;exact(gk J mt).1 et
    rw [KZ _ nos];have t8:=At.set (P:=Ca a Y) (o':=.dK<|(B.map λx=>((.inr x.g.pre:Ay),V.ref x.p))++[(.inr<|U3 "",.ref x)]) t7;have p8:Af H (upd H7 G<|.dK ((B.map λx=>((.inr x.g.pre:Ay),V.ref x.p))++[(.inr<|U3 "",.ref x)])):=p5.trans<|(Af.of s7).trans (.chg jT rfl);generalize upd H7 _ _=H8 at t8 p8 ⊢;generalize hkv:HO.dK ((B.map λx=>((.inr x.g.pre:Ay),V.ref x.p))++[(.inr<|U3 "",.ref x)])=lB at t8;have t9:At H8 ((h,.ins a.ak dx k5)::(D,dl)::(G,lB)::(Ca a Y++(B.flatMap (BU a)++(L.flatMap (Ct a)++R)))):=by
     have u1:At H8 ((Ca a Y++((G,lB)::(B.flatMap (BU a)++((D,dl)::L.flatMap (Ct a)))))++(h,.ins a.ak dx k5)::R):=by rwa[Vj]
     have u2:=u1.front;have u3:At H8 (((h,.ins a.ak dx k5)::(Ca a Y++((G,lB)::B.flatMap (BU a))))++(D,dl)::(L.flatMap (Ct a)++R)):=by rw[Vj,Xj,Vj,Xj]at u2;rwa[Xj,Vj,Xj]
     have u4:=u3.front;have u5:At H8 (((D,dl)::(h,.ins a.ak dx k5)::Ca a Y)++(G,lB)::(B.flatMap (BU a)++(L.flatMap (Ct a)++R))):=by rwa[Xj,Vj,Xj]at u4
     have u6:=u5.front;exact u6.perm<|((xf _ _ _).trans<|zC _ (xf _ _ _)).trans (xf _ _ _)
    show⟨Am,λqa Ha na=>?_⟩;have ta:=t9.nw na;have pa:=p8.trans<|.of na.same;show Ep h a.ak dx k5 rfl ⟨ta.tl.hd,T.hc.cls,T.hc.qu,(by rw[e5,O,e1];exact VL rfl),At.st [_] ta λHb kb eb tb pb=>?_⟩;show⟨Am,λda Hc tO=>?_⟩;have tc:=tb.nw tO;show Ep h a.ak dx kb rfl ⟨tc.tl.tl.hd,T.hc.cls,T.hc.dn,(by rw[eb,e5,O,e1];exact VL rfl),At.st [_,_] tc λHd kd ed td pd=>?_⟩;replace pd:=pa.trans<|pb.trans ((Af.of tO.same).trans pd)
    obtain rfl:kd=Hy long D G qa da:=by rw[ed,eb,e5,O,e1];rfl
    have te:=At.swap (P:=[_,_]) (M:=[_,_,_])<|At.perm (C':=(qa,_)::(da,_)::_) td (.swap _ _ _);have eS:(⟨h,dx,D,G,qa,da,long,L,B,Y,[],[]⟩:HX).S=cK long zs n (ts.map (·.2)):=by change(⟨long,L.map (·.l),B.map (·.g),Y.k,[],[]⟩:PS)=_;rw[ml,gl,lA];rfl
    refine q Hd ⟨h,dx,D,G,qa,da,long,L,B,Y,[],[]⟩ rfl eS ⟨?_,?_⟩ pd
    .subst lA;rwa[<-hkv,<-hdl]at te
    .have en:L.map (·.l.num)=zs:=by
      have:=congrArg (V1 Ln.num) ml;rwa[Vn,Vn,show Ln.num∘Cm=id from rfl,Zh]at this
     have eg:B.map (·.g.pre)=ts.map (·.2.1):=by have:=congrArg (V1 Gr.pre) gl;rwa[Vn,Vn,Vn]at this
     have one:∀g∈B,∃J∈ts,g.g=CS J.2:=λg jU=>by
      have:g.g∈(ts.map (·.2)).map CS:=by rw[<-gl];exact Ve.mpr ⟨g,jU,rfl⟩
      obtain⟨q2,m2,e2⟩:=Au<|Ve.mp this;obtain⟨J,m3,O⟩:=Au<|Ve.mp m2;exact⟨J,m3,by rw[O,e2]⟩
     refine⟨by change(L.map (·.l.num)).Nodup;rwa[en],by change(B.map (·.g.pre)).Nodup;rwa[eg],λg jU=>?_,λj y hj=>?_,λg jU=>?_,?_⟩
     .obtain ⟨J,m3,O⟩:=one g jU;rw[O];exact(gk J m3).1
     .obtain ⟨y1,y2,y3⟩:=m.x j y hj;have:y.l∈zs.map Cm:=by rw[<-ml];exact Ve.mpr ⟨y,Vh hj,rfl⟩
      obtain⟨z,_,ez⟩:=Au<|Ve.mp this;exact⟨y1,by rw[y2,<-ez];trivial,by rw[y3,<-ez];exact .aa,by rw[<-ez];rfl,by rw[<-ez];exact Wn _⟩
     .obtain ⟨J,m3,O⟩:=one g jU;have:=gk J m3;rw[O];exact⟨by simp[CS],by simp[CS],by simp only[CS,VY];omega⟩
     .show Iy Y.k;rw[lA];exact⟨by simp[HM],by simp[HM],by simp[HM],by simp[HM],by simp only[HM,VY];omega⟩
section
variable {S:PS}{i j:Nat}{ln lo:Ln}
theorem LK:∀(ts:List (aU×Int))(S:PS),(au S ts).dn=S.dn
 |[],_=>rfl
 |t::ts,S=>(LK ts _).trans (by unfold aC;split<;>rfl)
def J4:(Ck S i ln d).dn=S.dn:=LK ..
def Agq:(BJ S j lo).2.dn=S.dn:=by unfold BJ;split<;>exact LK ..
def LW.abO(d:LW):(d.go S i ln).2.dn=S.dn/\(d.go S i ln).1.length<=10:=by
 cases d with
 |lift =>
  refine⟨?_,by change 1<=10;decide⟩;change(CG S i ln).2.dn=_;unfold CG;split
  .rfl
  .split
   .rfl
   .split<;>rfl
 |b9 =>
  change(Ez S i ln).2.dn=_/\(Ez S i ln).1.length<=10;unfold Ez;split
  .exact ⟨rfl,by change 0<=10;decide⟩
  .exact ⟨J4,by change 1<=10;decide⟩
 |gap =>
  refine⟨?_,by change 1<=10;decide⟩;change(Dr S i ln).2.dn=_;unfold Dr;dsimp only;split
  .unfold CQ;split
   .exact J4
   .split
    .exact J4
    .rfl
  .split
   .rfl
   .unfold CP;split
    .exact J4
    .split
     .rfl
     .exact J4
 |bR =>
  have B:(aB S ln).dn=S.dn:=by unfold aB;split<;>rfl
  have D:(CH (aB S ln) ln).2.dn=S.dn/\(CH (aB S ln) ln).1.length<=1:=by
   unfold CH;split
   .exact ⟨B,Wn _⟩
   .split
    .exact ⟨B,Wn _⟩
    .exact ⟨Agq.trans B,Vb _⟩
  refine⟨(LK ..).trans D.1,?_⟩;change(CH (aB S ln) ln).1.length+1<=10;omega
def Agr (p:aU×Int):BF (Cu S b z k) p=BF S p:=by
 unfold Cu;by_cases c:z=U3 ""
 .rw[bf c];rfl
 .rw[ck c];refine(N5 (h:=λg=>{ g with js:=g.js.set k.toNat b }) (λ_=>rfl) c p).trans ?_;by_cases e:p.1=z
  .rw[bf e];unfold BF CC;rw[e,ck c];cases BK S z<;>rfl
  .rw[ck e]
def IH:(Cu S b z k).lns=S.lns/\(Cu S b z k).q=S.q/\(Cu S b z k).long=S.long/\(Cu S b z k).dn=S.dn:=by unfold Cu;split<;>exact⟨rfl,rfl,rfl,rfl⟩
def WF.bb(w:WF S)(b:Bool)(z:aU)(k:Int):WF (Cu S b z k) :=
 w.chg (w.g.bb b z k) (λ_=>False) (λ_ _=>by rw[IH.1]) (λ_ _ f=>f.elim) (λ_ _ _ _=>by rw[IH.2.1]) (λ_ _ _ _ p _=>Agr p) IH.2.2.1 λ_ _ f=>f.elim
def WF.res(w:WF S){d:Bi}{r:List PyData×PS}(e:d.res S=.inr r):WF r.2/\r.2.dn=S.dn/\r.1.length<=10:=by
 cases d with
 |bb b z k =>
  unfold Bi.res at e;dsimp only at e;split at e
  .cases e
  .split at e
   .cases e;exact⟨w.bb b z k,IH.2.2.2,Wn _⟩
   .cases e
 |line d z =>
  unfold Bi.res at e;dsimp only at e;split at e
  .cases e
  .split at e
   .rename_i ln h f
    cases e;exact⟨(w.go h f).1,d.abO⟩
   .cases e
def WF.pre(w:WF S){d:Bi}(t:d.txt):d.pre S:=by
 cases d with
 |bb b z k=>exact t
 |line d z =>
  refine⟨t,λln h=>⟨?_,λe m=>?_,λf=>(w.go h f).2⟩⟩
  .obtain ⟨v,e,_⟩:=(w.l _ ln h).wy;rw[e];exact v.ok
  .subst e;exact w.pQ h<|Vl.mp m
def WF.next(w:WF S){d:Bi}{r:List PyData×PS}(e:d.res S=.inr r)(dd:ar):WF (Cz<|Dy r.2 dd).2:=WF.abJ (S:=Dy r.2 dd)<|(w.res e).1.dn (d:=r.2.dn++[V.ref dd])
theorem Tp:∀(n:Nat)(S:PS),(aK n S).2.dn=S.dn
 |0,_=>rfl
 |n+1,S=>by
  unfold aK;split
  .rfl
  .rename_i x e
   refine(Tp n _).trans ?_;unfold Ex at e;split at e
   .cases e
   .split at e
    .cases e
    .split at e
     .cases e
     .cases e;rfl
def WF.abP(w:WF S){d:Bi}{r:List PyData×PS}(e:d.res S=.inr r)(dd:ar):(Cz<|Dy r.2 dd).2.dn=S.dn++[.ref dd]:=(Tp ..).trans<|by change r.2.dn++_=_;rw[(w.res e).2.1]
end
def WF.cK (J:2<=long)(L:long<=9)(O:zs.Nodup)(Y:0<zs.length)(z1:zs.length<=60)(n0:1<=n)(n1:n<=60)(ng:(B.map (·.1)).Nodup)(I:∀p∈B,p.1≠U3 ""/\0<=p.2/\p.2<=10)(zk:∀z∈zs,Ok z/\0<z.length)(pk:∀p∈B,Ok p.1)(zl:∀z∈zs,(z.length:Int)=long)(pl:∀p∈B,(p.1.length:Int)<=long-2)(dg:∀z∈zs,Cg z):WF (cK long zs n B):=by
 have H:((zs.map Cm).map (·.num))=zs:=by rw[Vn];exact Zh zs
 have ep:((B.map CS).map (·.pre))=B.map (·.1):=by rw[Vn];rfl
 have D:∀{α:Type}(x:α),(U5 n.toNat x).length=n.toNat:=λx=>VY;have all:∀{p:Gr->Prop},(∀y∈B,p<|CS y)->∀g∈B.map CS,p g:=λh g m=>by
  obtain⟨y,my,rfl⟩:=Au<|Ve.mp m;exact h y my
 refine⟨⟨by change((zs.map Cm).map _).Nodup;rwa[H],by change((B.map CS).map _).Nodup;rwa[ep],all (p:=λg=>g.pre≠U3 "") λy m=>(I y m).1,by change(zs.map Cm).length<=60;rwa[UW],by change 0<(zs.map Cm).length;rwa[UW],.nil,(λz m=>nomatch m),YL 0,?_,by change(zs.length:Int)=((zs.map Cm).length:Nat);rw[UW],λv m=>.inl (xg.mp m).2,all (p:=GW _) λy m v mv=>.inl (xg.mp mv).2,all (p:=Hz) λy m=>⟨?_,?_,?_⟩,⟨?_,?_,?_,?_,?_⟩,(by change ∀z∈(zs.map Cm).map (·.num),_;rwa[H]),all (p:=λg=>Ok g.pre) λy m=>pk y m,J,L,(by change ∀z∈(zs.map Cm).map (·.num),_;rwa[H]),all (p:=λg=>(g.pre.length:Int)<=long-2) λy m=>pl y m,(by change ∀z∈(zs.map Cm).map (·.num),_;rwa[H])⟩,λi ln h=>?_⟩
 .show (0:Int)<((U5 n.toNat V.aa).length:Nat);rw[D];omega
 .show (U5 _ _).length=(U5 _ _).length;rw[VY,VY]
 .show (U5 _ _).length=(U5 _ _).length;rw[VY,VY]
 .show (U5 _ _).length<=1000;rw[VY];have:=(I y m).2.2;omega
 .show (U5 _ _).length=(U5 _ _).length;rw[D,D]
 .show (U5 _ _).length=(U5 _ _).length;rw[D,D]
 .show (U5 _ _).length=(U5 _ _).length;rw[D,D]
 .show (U5 _ _).length=(U5 _ _).length;rw[D,D]
 .show (U5 _ _).length<=1000;rw[D];omega
 .have h:(zs.map Cm)[i]?=some ln:=h;rw[Va]at h;obtain⟨z,_,rfl⟩:=Au<|VH.mp h;exact .none rfl ⟨.rests,rfl,rfl,rfl,(λm=>nomatch m),rfl,rfl,rfl⟩
inductive Fd where
 |way|ae|ag|ao|why
 deriving DecidableEq
inductive Fl where
 |ax|aE|aM|shr
 deriving DecidableEq
structure VW where
 (w ln q dn sp st:ar) (fa:Fd->ar) (ka:Fl->ar) (long mark:Int) (lns qs:List aU) (ds:List V) (kx:List (Ay×V)) (kf:Fd->List aU) (ff:Fd->aU->V) (kz:Fl->List aU) (la:Fl->aU->ar) (lv:Fl->aU->List V) (du dv:List Int)
noncomputable def dS(zs:List aU)(f:aU->V):List (Ay×V):=zs.map λz=>(.inr z,f z)
noncomputable def up{α β:Type} [DecidableEq α] (f:α->β) (z:α) (v:β):α->β:=λy=>if y=z then v else f y
noncomputable def AX{α β γ:Type} [DecidableEq α] [DecidableEq β] (f:α->β->γ) (d:α) (z:β) (v:γ):α->β->γ:=up f d (up (f d) z v)
noncomputable def VW.kv(W:VW):List (Ay×V):=(.inr "long",.int W.long)::(.inr "lines",.ref W.ln)::(.inr "queue",.ref W.q)::(.inr "mark",.int W.mark)::(.inr "done",.ref W.dn)::(.inr "way",.ref (W.fa .way))::(.inr "figures",.ref (W.fa .ae))::(.inr "many",.ref (W.fa .ag))::(.inr "train",.ref (W.ka .ax))::(.inr "end",.ref (W.fa .ao))::(.inr "why",.ref (W.fa .why))::(.inr "held",.ref (W.ka .aE))::(.inr "stuck",.ref (W.ka .aM))::(.inr "shares",.ref (W.ka .shr))::W.kx
def VW.fc(W:VW)(d:Fd):ar×HO:=(W.fa d,.dK (dS (W.kf d) (W.ff d)))
def VW.kc(W:VW)(d:Fl):ar×HO:=(W.ka d,.dK (dS (W.kz d) λu=>.ref (W.la d u)))
noncomputable def VW.lc(W:VW)(d:Fl):Ax:=(W.kz d).map λu=>(W.la d u,.lst (W.lv d u))
noncomputable def VW.top(W:VW):Ax:=[(W.w,.dK W.kv),(W.ln,.lst (W.lns.map V.str)),(W.q,.lst (W.qs.map V.str)),(W.dn,.lst W.ds),W.fc .way,W.fc .ae,W.fc .ag,W.fc .ao,W.fc .why,W.kc .ax,W.kc .aE,W.kc .aM,W.kc .shr]
noncomputable def VW.C(W:VW)(R:Ax):Ax:=W.top++(W.lc .ax++(W.lc .aE++(W.lc .aM++(W.lc .shr++R))))
section
variable {α β γ:Type} [DecidableEq α] {f:α->β} {y z:α} {v:β}
def FQ:up f z v z=v:=bf rfl
def Fo(n:y≠z):up f z v y=f y:=ck n
def Oa:up f z (f z)=f:=by
 funext y
 by_cases e:y=z
 .rw[e,FQ]
 .rw[Fo e]
def Df [DecidableEq β] {g:α->β->γ} {d:α} {z:β} {v:γ}:AX g d z v d z=v:=by unfold AX;rw[FQ,FQ]
def Ds [DecidableEq β] {g:α->β->γ} {d e:α} {y z:β} {v:γ} (n:¬(e=d/\y=z)):AX g d z v e y=g e y:=by
 unfold AX;by_cases c:e=d
 .subst c;rw[FQ,Fo λe=>n ⟨rfl,e⟩]
 .rw[Fo c]
end
theorem FR{f:aU->V}{z:aU}:∀{zs:List aU},z∈zs->Ba (dS zs f) (.inr z)=some (f z)
 |y::zs,m=>by
  by_cases e:y=z
  .subst e;exact F2 rfl
  .exact (Fb (λc=>e (Xn c))).trans (FR ((Vc.mp m).resolve_left λc=>e c.symm))
theorem J5{f:aU->V}{z:aU}:∀{zs:List aU},z ∉ zs->Ba (dS zs f) (.inr z)=none
 |[],_=>rfl
 |y::zs,m=>(Fb (λc=>m (by rw[<-Xn c];exact VJ))).trans (J5 λc=>m (Vw _ c))
def Ob{f:aU->V}{z:aU}{zs:List aU}(m:z∈zs)(v:V):BS (dS zs f) (.inr z) v=dS zs (up f z v):=by
 unfold BS;rw[KU,FR m,bf<|by rfl];change V1 _ (V1 _ zs)=V1 _ zs;rw[Vn];refine Wq λy _=>?_;change(if (VI y:Ay)=.inr z then _ else _)=((VI y:Ay),up f z v y);unfold up;by_cases e:y=z
 .rw[bf<|congrArg _ e,bf e]
 .rw[ck λc=>e<|Xn c,ck e]
def Ags{f:aU->V}{z:aU}{zs:List aU}(n:z ∉ zs){v:V}:dS zs (up f z v)=dS zs f:=Wq λy m=>by rw[show up f z v y=f y from Fo λe=>n<|e▸m]
def Tq{f:aU->V}{z:aU}{zs:List aU}(n:z ∉ zs)(v:V):BS (dS zs f) (.inr z) v=dS (zs++[z]) (up f z v):=by rw[KZ _<|J5 n];change _=V1 _ (zs++[z]);rw[Vg,show V1 _ zs=dS zs f from Ags n];change _=dS zs f++[(VI z,up f z v z)];rw[FQ]
def J6{zs:List aU}{f:aU->V}(h:zs.length<=1000):(dS zs f).length<sizeLine:=by change(zs.map _).length<_;rw[UW,U0];omega
def At.chg{H:Hp}{C C':Ax}{a:ar}{o':HO}(t:At H C)(fs:C'.map (·.1)=C.map (·.1))(m:(a,o')∈C')(h:∀c∈C',c.1≠a->c∈C):At (upd H a o') C':=by
 have D:(C'.map (·.1)).Nodup:=by rw[fs];exact t.nd
 refine⟨λc mc=>?_,D⟩;by_cases e:c.1=a
 .obtain ⟨i,B⟩:=Zi.mp mc;obtain⟨j,I⟩:=Zi.mp m;by_cases J:i=j
  .rw[J,I]at B;rw[<-Vq B];exact Ao
  .exact absurd e (F8 D (i:=i) (j:=j) (by rw[Va,B];rfl) (by rw[Va,I];rfl) J)
 .rw[Aw e];exact t.at_ c<|h c mc e
section
variable {H H':Hp}{W:VW}{R R':Ax}{d:Fd}{e:Fl}{u z:aU}{l:ar}{o o':HO}
def VW.app:W.C R=W.C []++R:=by unfold VW.C;simp only[V5,Vj]
def VW.pS(m:u∈W.kz e):(W.la e u,.lst<|W.lv e u)∈W.C R:=by have:(W.la e u,HO.lst<|W.lv e u)∈W.lc e:=Ve.mpr ⟨u,m,rfl⟩;cases e<;>simp[VW.C,this]
def VW.of (m:c∈W.C R):c∈W.top\/(∃e u,u∈W.kz e/\c=(W.la e u,.lst<|W.lv e u))\/c∈R:=by
 have f:∀e,c∈W.lc e->∃e u,u∈W.kz e/\c=(W.la e u,.lst<|W.lv e u):=λe m=>by
  obtain⟨u,k,rfl⟩:=Au<|Ve.mp m;exact⟨e,u,k,rfl⟩
 simp only[VW.C,Vx]at m;rcases m with m|m|m|m|m|m
 .exact .inl m
 .exact .inr (.inl<|f _ m)
 .exact .inr (.inl<|f _ m)
 .exact .inr (.inl<|f _ m)
 .exact .inr (.inl<|f _ m)
 .exact .inr (.inr m)
def VW.inT (m:c∈W.top):c∈W.C R:=Yt _ m
def VW.inR (m:c∈R):c∈W.C R:=by rw[VW.app];exact V2 _ m
def At.vw(t:At H (W.C R)):H W.w=some (.dK W.kv):=t.hd
def At.vln(t:At H (W.C R)):H W.ln=some (.lst<|W.lns.map V.str):=t.tl.hd
def At.vq(t:At H (W.C R)):H W.q=some (.lst<|W.qs.map V.str):=t.tl.tl.hd
def At.tP(t:At H (W.C R)):H W.dn=some (.lst W.ds):=t.tl.tl.tl.hd
def At.vf(t:At H (W.C R))(d:Fd):H (W.fa d)=some (.dK<|dS (W.kf d) (W.ff d)):=t.get<|by cases d<;>simp[VW.C,VW.top,VW.fc]
def At.vk(t:At H (W.C R))(e:Fl):H (W.ka e)=some (.dK<|dS (W.kz e) λu=>.ref<|W.la e u):=t.get<|by cases e<;>simp[VW.C,VW.top,VW.kc]
def At.vl(t:At H (W.C R))(m:u∈W.kz e):H (W.la e u)=some (.lst<|W.lv e u):=t.get<|VW.pS m
def At.vr(t:At H (W.C R)):At H R:=by rw[VW.app]at t;exact t.right
def At.pT(t:At H (W.C R))(n:H l=none):At (upd H l o) (W.C ((l,o)::R)):=by have:=t.new (u:=o) n;rw[VW.app]at this ⊢;exact this.back
def At.abQ(t:At H (W.C R))(s:R'.Sublist R):At H (W.C R'):=by rw[VW.app]at t ⊢;exact t.sub<|(Xm _).append s
def At.abR(t:At H (W.C R))(k:Int):At (upd H W.w<|.dK { W with mark:=k }.kv) (VW.C { W with mark:=k } R):=At.set (P:=[]) t
def At.sQ(t:At H (W.C R))(q:List aU):At (upd H W.q<|.lst (q.map V.str)) (VW.C { W with qs:=q } R):=At.set (P:=[_,_]) t
def At.sDn(t:At H (W.C R))(q:List V):At (upd H W.dn<|.lst q) (VW.C { W with ds:=q } R):=At.set (P:=[_,_,_]) t
def At.sF(t:At H (W.C R))(d:Fd)(ks:List aU)(f:aU->V):At (upd H (W.fa d)<|.dK (dS ks f)) (VW.C { W with kf:=up W.kf d ks,ff:=up W.ff d f } R):=by
 cases d
 .exact At.set (P:=[_,_,_,_]) t
 .exact At.set (P:=[_,_,_,_,_]) t
 .exact At.set (P:=[_,_,_,_,_,_]) t
 .exact At.set (P:=[_,_,_,_,_,_,_]) t
 .exact At.set (P:=[_,_,_,_,_,_,_,_]) t
def At.sL(t:At H (W.C R))(m:u∈W.kz e)(vs:List V):At (upd H (W.la e u)<|.lst vs) (VW.C { W with lv:=AX W.lv e u vs } R):=by
 refine t.chg ?_ ?_ λc mc n=>?_
 .simp only[VW.C,VW.lc,Vg,Vn];rfl
 .have z:=VW.pS (W:={ W with lv:=AX W.lv e u vs }) (R:=R) (e:=e) (u:=u) m;rwa[show(VW.lv { W with lv:=AX W.lv e u vs } e u)=vs from Df]at z
 .rcases VW.of mc with m|⟨B,D,m,rfl⟩|m
  .exact VW.inT m
  .rw[show VW.lv { W with lv:=AX W.lv e u vs } B D=W.lv B D from Ds λ⟨a,b⟩=>n<|by rw[a,b]];exact VW.pS m
  .exact VW.inR m
end
noncomputable def CJ(S:PS)(w:aU)(hs:List V):List V:=if w=U3 "" then hs.map (Eg S)else hs
def Ln.vv(ln:Ln):Fd->V
 |.way=>.str ln.st|.ae=>.str ln.ae|.ag=>.int ln.ag|.ao=>DR ln.ao|.why=>.aa
noncomputable def Ln.put(ln:Ln):Fd->V->Ln
 |.way,.str s=>{ ln with st:=s }|.ae,.str s=>{ ln with ae:=s }|.ag,.int n=>{ ln with ag:=n }|.ao,.str z=>{ ln with ao:=some z }|.ao,.aa=>{ ln with ao:=none }|_,_=>ln
noncomputable abbrev PS.aL(S:PS)(i:Nat)(y:Ln):PS:={ S with lns:=S.lns.set i y }
structure J7(K:UT)(H:Hp)(ff:Fd->aU->V)(lt:aU->List V)(ln:Ln):Prop where
 f:∀d,d≠.why->ff d ln.num=ln.vv d
 why:Is K H (ff .why ln.num) ln.why
 wt:Cs ln.why=true
 tr:∃as,lt ln.num=as.map V.ref/\CF H as ln.held
structure Dt(K:UT)(H:Hp)(W:VW)(S:PS):Prop where
 lo:W.long=S.long
 ma:W.mark=S.sk.mark
 q:W.qs=S.q
 ds:W.ds=S.dn
 sp:W.du=S.sk.st
 st:W.dv=S.sk.wt
 kx:W.kx=[(.inr "spots",.ref W.sp),(.inr "steps",.ref W.st)]
 ln:W.lns=S.lns.map (·.num)
 nn:(S.lns.map (·.num)).Nodup
 zs:∀z,z∈W.kz .ax↔z∈S.lns.map (·.num)
 zn:(W.kz .ax).Nodup
 zl:(W.kz .ax).length<=1000
 kf:∀d,W.kf d=W.kz .ax
 us:∀e,e≠.ax->W.kz e=W.kz .aE
 un:(W.kz .aE).Nodup
 ul:(W.kz .aE).length<64
 rz:∀u,u∈W.kz .aE↔(AS S u).isSome=true
 l:∀(i:Nat)(ln:Ln),S.lns[i]?=some ln->J7 K H W.ff (W.lv .ax) ln
 r:∀u r,AS S u=some r->W.lv .aE u=CJ S u r.1/\W.lv .aM u=r.2.1.map V.bl/\W.lv .shr u=r.2.2.map V.int
structure WD(K:UT)(b:ar×ar×List aU)(H:Hp)(W:VW)(S:PS)(R:Ax):Prop where
 t:At H (W.C ((W.sp,.lst (W.du.map V.int))::(W.st,.lst (W.dv.map V.int))::R))
 ok:Dt K H W S
 b:W.w=b.1/\W.ln=b.2.1/\W.lns=b.2.2
section
variable {K:UT}{b:ar×ar×List aU}{H H':Hp}{W W':VW}{S S':PS}{R R':Ax}{i j:Nat}{ln y:Ln}{l:ar}{o o':HO}{u z:aU}{d:Fd}{e:Fl}{v:V}{r r':List V×List Bool×List Int}
def J7.aj (l:J7 K H ff lt ln)(s:Af H H'):J7 K H' ff lt ln:={ l with why:=Is.aj _ l.wt l.why s,tr:=let ⟨B,a,b⟩:=l.tr;⟨B,a,b.aj s⟩ }
def Dt.aj(k:Dt K H W S)(s:Af H H'):Dt K H' W S:={ k with l:=λi ln h=>(k.l i ln h).aj s }
def WD.same(t:WD K b H W S R)(s:Ah H H'):WD K b H' W S R:=⟨t.t.same s,t.ok.aj<|.of s,t.b⟩
def WD.sub(t:WD K b H W S R)(s:R'.Sublist R):WD K b H W S R':=⟨t.t.abQ<|.cons₂ _ (.cons₂ _ s),t.ok,t.b⟩
def WD.vr(t:WD K b H W S R):At H R:=t.t.vr.tl.tl
def At.abS(t:At H (W.C R))(n:H l=none){P:Ax}(e:R=P++R'):At (upd H l o) (W.C (P++(l,o)::R')):=by have:=t.new (u:=o) n;rw[e,VW.app,<-Vj]at this;rw[VW.app,<-Vj];exact this.back
def WD.new(t:WD K b H W S R)(n:BI H H' l o):WD K b H' W S ((l,o)::R):=by rw[n.e];exact⟨t.t.abS n.n (P:=[_,_]) rfl,t.ok.aj<|.new n.n,t.b⟩
def At.pU{P:Ax}(t:At H (W.C (P++(l,o)::R))):At (upd H l o') (W.C (P++(l,o')::R)):=by rw[VW.app,<-Vj]at t ⊢;exact t.set
def WD.set(t:WD K b H W S ((l,o)::R))(k:JM o=false):WD K b (upd H l o') W S ((l,o')::R)/\Af H (upd H l o'):=by have B:Af H (upd H l o'):=.chg t.vr.hd k;exact⟨⟨t.t.pU (P:=[_,_]),t.ok.aj B,t.b⟩,B⟩
def Oc(k:Int):Eg S (.int k)=((S.lns.map (·.num))[k.toNat]?).elim .aa V.str:=by rw[Va];change(match S.lns[k.toNat]? with|none=>V.aa|some ln=>.str ln.num)=_;cases S.lns[k.toNat]?<;>rfl
def Agt(e:S'.lns.map (·.num)=S.lns.map (·.num))(v:V):Eg S' v=Eg S v:=by
 cases v with
 |int k=>rw[Oc,Oc,e]
 |_=>rfl
def Tr(e:S'.lns.map (·.num)=S.lns.map (·.num))(w:aU)(hs:List V):CJ S' w hs=CJ S w hs:=by
 unfold CJ;split
 .exact Wq λv _=>Agt e v
 .rfl
def Dt.fP(k:Dt K H W S)(h:S.lns[i]?=some ln):ln.num∈W.kz .ax:=(k.zs _).mpr<|EA h
def Dt.inf(k:Dt K H W S)(h:S.lns[i]?=some ln)(d:Fd):ln.num∈W.kf d:=by rw[k.kf];exact k.fP h
def Dt.jV(k:Dt K H W S)(B:AS S u=some r)(n:e≠.ax):u∈W.kz e:=by rw[k.us e n,k.rz,B];rfl
def Dt.bF (k:Dt K H W S)(s:Af H H')(h:S.lns[i]?=some ln)(L:y.num=ln.num)(of:∀d z,z≠ln.num->ff d z=W.ff d z)(B:∀e z,z≠ln.num\/e≠.ax->lv e z=W.lv e z)(hy:J7 K H' ff (lv .ax) y):
  Dt K H' { W with ff:=ff,lv:=lv,la:=la } (S.aL i y):=by
 have D:(S.lns.set i y).map (·.num)=S.lns.map (·.num):=De h L;refine { k with ln:=k.ln.trans D.symm,nn:=by change((S.lns.set i y).map _).Nodup;rw[D];exact k.nn,zs:=λz=>by change _↔z∈(S.lns.set i y).map (·.num);rw[D];exact k.zs z,l:=λj J I=>?_,r:=λu r O=>?_ }
 .rcases (Sx (Vz.mp h).1).mp I with ⟨_,rfl⟩|⟨ne,I⟩
  .exact hy
  .have l:=(k.l j J I).aj s;have n:=Ga k.nn I h (Vy ne);exact⟨λd Y=>(of d _ n).trans (l.f d Y),by change Is K H' (ff .why J.num) _;rw[of _ _ n];exact l.why,l.wt,by change ∃as,lv .ax J.num=_/\_;rw[B _ _ (.inl n)];exact l.tr⟩
 .rw[Tr (S:=S) (S':=S.aL i y) D];change lv _ u=_/\lv _ u=_/\lv _ u=_;rw[B .aE u (.inr λe=>(nomatch e)),B .aM u (.inr λe=>(nomatch e)),B .shr u (.inr λe=>(nomatch e))];exact k.r u r O
def Dt.ir (k:Dt K H W S)(O:AS S u=some r)(I:AS S' u=some r')(J:S'.lns=S.lns)(hq:S'.q=S.q)(hd:S'.dn=S.dn)(Y:S'.long=S.long)(hm:W.mark=S'.sk.mark)(hs:W.du=S'.sk.st)(ht:W.dv=S'.sk.wt)(L:∀w,w≠u->AS S' w=AS S w)(B:∀e z,z≠u\/e=.ax->lv e z=W.lv e z)(he:lv .aE u=CJ S u r'.1/\lv .aM u=r'.2.1.map V.bl/\lv .shr u=r'.2.2.map V.int):
  Dt K H { W with lv:=lv } S':=by
 have D:S'.lns.map (·.num)=S.lns.map (·.num):=by rw[J]
 refine { k with lo:=k.lo.trans Y.symm,ma:=hm,q:=k.q.trans hq.symm,ds:=k.ds.trans hd.symm,sp:=hs,st:=ht,ln:=k.ln.trans D.symm,nn:=by rw[D];exact k.nn,zs:=λz=>by rw[D];exact k.zs z,rz:=λw=>?_,l:=λi ln h=>?_,r:=λw s es=>?_ }
 .refine (k.rz w).trans ?_;by_cases c:w=u
  .rw[c,O,I];exact⟨λ_=>rfl,λ_=>rfl⟩
  .rw[L w c]
 .have l:=k.l i ln (by rwa[<-J]);exact { l with tr:=by change ∃as,lv .ax ln.num=_/\_;rw[B _ _<|.inr rfl];exact l.tr }
 .rw[Tr D];by_cases c:w=u
  .subst c;rw[I]at es;cases es;exact he
  .rw[L w c]at es;change lv _ w=_/\lv _ w=_/\lv _ w=_;rw[B _ _<|.inl c,B _ _<|.inl c,B _ _<|.inl c];exact k.r w s es
def HN(h:S.lns[i]?=some ln):(S.aL i y).lns[i]?=some y:=B1 h
def Agu(h:S.lns[i]?=some ln):S.aL i ln=S:=by obtain⟨B,e⟩:=Vz.mp h;change({ S with lns:=S.lns.set i ln }:PS)=S;rw[<-e,List.set_getElem_self]
def WD.at(t:WD K b H W S R)(h:S.lns[i]?=some ln):WD K b H W (S.aL i ln) R:=by rwa[Agu h]
def Ln.lD:(ln.put d v).num=ln.num:=by cases d<;>cases v<;>rfl
def Ln.abT:(ln.put d v).held=ln.held:=by cases d<;>cases v<;>rfl
def Ln.tQ:(ln.put d v).why=ln.why:=by cases d<;>cases v<;>rfl
def Ln.abU (n:d'≠d):(ln.put d v).vv d'=ln.vv d':=by cases d<;>cases v<;>cases d'<;>first|rfl|exact absurd rfl n
end
section
variable {P:UZ}{w:UU}{K:UT}{b:ar×ar×List aU}{H:Hp}{W:VW}{S:PS}{R:Ax}{i:Nat}{ln l0:Ln}{u z:aU}{d:Fd}{e:Fl}{v:V}{r:List V×List Bool×List Int}{C:V->Prop}{D:Hp->Prop}
def WD.fld(t:WD K b H W S R)(c:C v)(e:Ba W.kv (.inr z)=some v:=by rfl):∃a kvs k v,V.ref b.1=.ref a/\V.str z=kV k/\Dq P w K H a kvs/\Ba kvs k=some v/\C v:=⟨_,_,_,_,rfl,rfl,.of<|by rw[<-t.b.1];exact t.t.vw,e,c⟩
def WD.lE(t:WD K b H W S R)(c:C (.int S.long)):∃a kvs k v,V.ref b.1=.ref a/\V.str "long"=kV k/\Dq P w K H a kvs/\Ba kvs k=some v/\C v:=t.fld (v:=.int W.long)<|by rwa[t.ok.lo]
def WD.abV(t:WD K b H W S R)(c:C (.int S.sk.mark)):∃a kvs k v,V.ref b.1=.ref a/\V.str "mark"=kV k/\Dq P w K H a kvs/\Ba kvs k=some v/\C v:=t.fld (v:=.int W.mark)<|by rwa[t.ok.ma]
def WD.tR(t:WD K b H W S R):(Ba (dS (W.kz .aE) λu=>.ref<|W.la .aE u)<|.inr u).isSome=(AS S u).isSome:=by
 by_cases m:u∈W.kz .aE
 .rw[FR m,(t.ok.rz u).mp m];rfl
 .rw[J5 m];cases h:(AS S u).isSome
  .rfl
  .exact absurd ((t.ok.rz u).mpr h) m
def WD.pV(t:WD K b H W S R):(Ba (dS (W.kf .way)<|W.ff .way)<|.inr z).isSome=decide (z∈S.lns.map (·.num)):=by
 rw [t.ok.kf];by_cases m:z∈W.kz .ax
 .rw[FR m,cx<|(t.ok.zs z).mp m];rfl
 .rw[J5 m,cN λc=>m<|(t.ok.zs z).mpr c];rfl
def WD.rF(t:WD K b H W S R)(h:S.lns[i]?=some ln)(c:C (ln.vv d))(n:d≠.why)(ez:ln.num=z):∃a kvs k v,V.ref (W.fa d)=.ref a/\V.str z=kV k/\Dq P w K H a kvs/\Ba kvs k=some v/\C v:=by subst ez;exact⟨_,_,.inr ln.num,_,rfl,rfl,.of<|t.t.vf d,by rw[FR<|t.ok.inf h d,(t.ok.l i ln h).f d n],c⟩
def WD.lF(t:WD K b H W S R)(h:S.lns[i]?=some ln)(c:C (.str ln.st))(ez:ln.num=z:=by rfl):∃a kvs k v,V.ref (W.fa .way)=.ref a/\V.str z=kV k/\Dq P w K H a kvs/\Ba kvs k=some v/\C v:=t.rF h c (λe=>(nomatch e)) ez
def WD.pW(t:WD K b H W S R)(h:S.lns[i]?=some ln)(c:C (.str ln.ae))(ez:ln.num=z:=by rfl):∃a kvs k v,V.ref (W.fa .ae)=.ref a/\V.str z=kV k/\Dq P w K H a kvs/\Ba kvs k=some v/\C v:=t.rF h c (λe=>(nomatch e)) ez
def WD.pX(t:WD K b H W S R)(h:S.lns[i]?=some ln)(c:C (.int ln.ag))(ez:ln.num=z:=by rfl):∃a kvs k v,V.ref (W.fa .ag)=.ref a/\V.str z=kV k/\Dq P w K H a kvs/\Ba kvs k=some v/\C v:=t.rF h c (λe=>(nomatch e)) ez
def WD.tS(t:WD K b H W S R)(h:S.lns[i]?=some ln)(c:C (DR ln.ao))(ez:ln.num=z:=by rfl):∃a kvs k v,V.ref (W.fa .ao)=.ref a/\V.str z=kV k/\Dq P w K H a kvs/\Ba kvs k=some v/\C v:=t.rF h c (λe=>(nomatch e)) ez
def WD.abW(t:WD K b H W S R)(h:S.lns[i]?=some ln)(c:∀v,Is K H v ln.why->C v)(ez:ln.num=z:=by rfl):∃a kvs k v,V.ref (W.fa .why)=.ref a/\V.str z=kV k/\Dq P w K H a kvs/\Ba kvs k=some v/\C v:=by subst ez;exact⟨_,_,.inr ln.num,_,rfl,rfl,.of<|t.t.vf .why,FR<|t.ok.inf h .why,c _ (t.ok.l i ln h).why⟩
def WD.abX(t:WD K b H W S R)(h:S.lns[i]?=some ln)(c:C (.ref<|W.la .ax z))(ez:ln.num=z:=by rfl):∃a kvs k v,V.ref (W.ka .ax)=.ref a/\V.str z=kV k/\Dq P w K H a kvs/\Ba kvs k=some v/\C v:=by subst ez;exact⟨_,_,.inr ln.num,_,rfl,rfl,.of<|t.t.vk .ax,FR<|t.ok.fP h,c⟩
def WD.rRk(t:WD K b H W S R)(B:AS S u=some r)(c:C (.ref<|W.la e u))(n:e≠.ax:=by decide):∃a kvs k v,V.ref (W.ka e)=.ref a/\V.str u=kV k/\Dq P w K H a kvs/\Ba kvs k=some v/\C v:=⟨_,_,.inr u,_,rfl,rfl,.of<|t.t.vk e,FR<|t.ok.jV B n,c⟩
def WD.aE(t:WD K b H W S R)(B:AS S u=some r):H (W.la .aE u)=some (.lst<|CJ S u r.1):=by rw[<-(t.ok.r u r B).1];exact t.t.vl<|t.ok.jV B λe=>(nomatch e)
def WD.aM(t:WD K b H W S R)(B:AS S u=some r):H (W.la .aM u)=some (.lst<|r.2.1.map V.bl):=by rw[<-(t.ok.r u r B).2.1];exact t.t.vl<|t.ok.jV B λe=>(nomatch e)
def WD.shr(t:WD K b H W S R)(B:AS S u=some r):H (W.la .shr u)=some (.lst<|r.2.2.map V.int):=by rw[<-(t.ok.r u r B).2.2];exact t.t.vl<|t.ok.jV B λe=>(nomatch e)
def WD.q(t:WD K b H W S R):H W.q=some (.lst<|S.q.map V.str):=by rw[<-t.ok.q];exact t.t.vq
def WD.dn(t:WD K b H W S R):H W.dn=some (.lst S.dn):=by rw[<-t.ok.ds];exact t.t.tP
def WD.lns(t:WD K b H W S R):H W.ln=some (.lst ((S.lns.map (·.num)).map V.str)):=by rw[<-t.ok.ln];exact t.t.vln
def WD.sp(t:WD K b H W S R):H W.sp=some (.lst<|S.sk.st.map V.int):=by rw[<-t.ok.sp];exact t.t.vr.hd
def WD.st(t:WD K b H W S R):H W.st=some (.lst<|S.sk.wt.map V.int):=by rw[<-t.ok.st];exact t.t.vr.tl.hd
def WD.ax(t:WD K b H W S R)(h:S.lns[i]?=some ln):∃as,H (W.la .ax ln.num)=some (.lst<|as.map V.ref)/\CF H as ln.held:=by obtain⟨as,e,p⟩:=Au<|(t.ok.l i ln h).tr;exact⟨as,by rw[<-e];exact t.t.vl<|t.ok.fP h,p⟩
def WD.abY(t:WD K b H W S R):Ba W.kv (.inr "spots")=some (.ref W.sp):=by unfold VW.kv;rw[t.ok.kx];rfl
def WD.abZ(t:WD K b H W S R):Ba W.kv (.inr "steps")=some (.ref W.st):=by unfold VW.kv;rw[t.ok.kx];rfl
def WD.sF(t:WD K b H W (S.aL i ln) R)(h:S.lns[i]?=some l0)(c:∀I Y,WD K b I Y (S.aL i<|ln.put d v) R->Af H I->D I)(n:d≠.why:=by decide)(ok:(ln.put d v).vv d=v:=by rfl)(ez:ln.num=z:=by rfl):∃a L,V.ref (W.fa d)=.ref a/\Es H a (.str z) v L/\D L:=by
 subst ez;have g:=HN (y:=ln) h;have l:=t.ok.l i ln g;refine Bb (W.fa d) _ rfl (.k (k:=.inr ln.num) (t.t.vf d)<|J6 (by rw[t.ok.kf];exact t.ok.zl)) ?_;rw[Ob<|t.ok.inf g d];have B:Af H (upd H (W.fa d)<|.dK (dS (W.kf d)<|up (W.ff d) ln.num v)):=.chg (t.t.vf d) rfl;have O:=t.t.sF d (W.kf d)<|up (W.ff d) ln.num v;rw[Oa]at O;refine c _ { W with ff:=up W.ff d (up (W.ff d) ln.num v) } ⟨O,?_,t.b⟩ B;have k:=t.ok.bF (i:=i) (y:=ln.put d v) (ff:=up W.ff d<|up (W.ff d) ln.num v) (lv:=W.lv) (la:=W.la) B g Ln.lD (λJ y n=>Ds (g:=W.ff) λe=>n e.2) (λ_ _ _=>rfl) ⟨λJ nd=>?_,?_,?_,?_⟩
 .rw[show(S.aL i ln).aL i (ln.put d v)=S.aL i (ln.put d v) by change({ S with lns:=(S.lns.set i ln).set i (ln.put d v) }:PS)=_;rw[V6]]at k;exact k
 .rw[Ln.lD];by_cases e:J=d
  .subst e;exact(Df (g:=W.ff)).trans ok.symm
  .rw[Ln.abU e];exact(Ds (g:=W.ff) λc=>e c.1).trans (l.f J nd)
 .show Is K _ (up W.ff d (up (W.ff d) ln.num v) .why (ln.put d v).num) (ln.put d v).why;rw[Ln.lD,Ln.tQ,show up W.ff d (up (W.ff d) ln.num v) .why ln.num=W.ff .why ln.num from Ds (g:=W.ff) λc=>n c.1.symm];exact Is.aj _ l.wt l.why B
 .rw[Ln.tQ];exact l.wt
 .rw[Ln.lD,Ln.abT];exact(l.aj B).tr
end
def Od{n:Nat}{k:Int}(B:0<=k)(D:k<n):CY n k=some k.toNat:=by unfold CY;rw[bf B,bf D]
theorem CF.snoc (B:H u=some (.tup [.str p.1,.int p.2])):∀{xs:List ar}{ps:List (aU×Int)},CF H xs ps->CF H (xs++[u]) (ps++[p])
 |[],[],_=>⟨B,trivial⟩
 |[],_::_,h=>h.elim
 |_::_,[],h=>h.elim
 |_::_,_::_,h=>⟨h.1,CF.snoc B h.2⟩
def LL{α:Type}{l B:List α}(h:∀ [DecidableEq α] (x:α),l.count x=B.count x):l.Perm B:=by
 haveI:DecidableEq α:=λa b=>Classical.propDecidable<|a=b
 exact List.perm_iff_count.mpr λx=>h x
def Agv{ks:List aU}{u:aU}{f f':aU->ar×HO}(m:u∈ks)(D:ks.Nodup)(h:∀y,y≠u->f' y=f y):(f u::ks.map f').Perm (f' u::ks.map f):=by obtain⟨A,B,rfl⟩:=List.append_of_mem m;obtain⟨_,H,I⟩:=AU<|WN.mp D;have J:A.map f'=A.map f:=Wq λy m=>h y λe=>I y m u VJ e;have L:B.map f'=B.map f:=Wq λy m=>h y λe=>(Vr.mp H).1<|e▸m;rw[Vg,Vg,VP,VP,J,L];exact((zC _ Z1).trans<|.swap ..).trans (.cons _ Z1.symm)
section
variable {H:Hp}{W:VW}{P R:Ax}{e:Fl}{u:aU}{l:ar}{vs:List V}
def Ts:up (λu=>V.ref<|la e u) u (V.ref l)=λy=>V.ref (AX la e u l e y):=by
 funext y
 by_cases c:y=u
 .rw[c,FQ];change _=V.ref (AX la e u l e u);rw[Df]
 .rw[Fo c];change _=V.ref (AX la e u l e y);rw[Ds λd=>c d.2]
def At.sN(t:At H (W.C (P++(l,.lst vs)::R)))(m:u∈W.kz e)(B:(W.kz e).Nodup):At (upd H (W.ka e)<|.dK (dS (W.kz e)<|up (λu=>.ref<|W.la e u) u (.ref l))) (VW.C { W with la:=AX W.la e u l,lv:=AX W.lv e u vs }<|P++R):=by
 have q:=Agv (f:=λu=>(W.la e u,HO.lst<|W.lv e u)) (f':=λy=>(AX W.la e u l e y,.lst<|AX W.lv e u vs e y)) m B λy n=>by rw[Ds λc=>n c.2,Ds λc=>n c.2]
 rw [Df,Df]at q;rw[Ts];have s:At H ((W.la e u,.lst<|W.lv e u)::(W.top++(VW.lc { W with la:=AX W.la e u l,lv:=AX W.lv e u vs } .ax++(VW.lc { W with la:=AX W.la e u l,lv:=AX W.lv e u vs } .aE++(VW.lc { W with la:=AX W.la e u l,lv:=AX W.lv e u vs } .aM++(VW.lc { W with la:=AX W.la e u l,lv:=AX W.lv e u vs } .shr++(P++R))))))):=by refine t.perm<|LL λx=>?_;have q:=q.count_eq x;unfold VW.C VW.lc;cases e<;>simp only[xh,Z3]at q ⊢<;>dsimp only[AX,up]at q ⊢<;>simp only[reduceCtorEq,if_true,if_false]at q ⊢<;>omega
 cases e
 .exact At.set (P:=[_,_,_,_,_,_,_,_,_]) s.tl
 .exact At.set (P:=[_,_,_,_,_,_,_,_,_,_]) s.tl
 .exact At.set (P:=[_,_,_,_,_,_,_,_,_,_,_]) s.tl
 .exact At.set (P:=[_,_,_,_,_,_,_,_,_,_,_,_]) s.tl
def At.nN(t:At H (W.C (P++(l,.lst vs)::R)))(n:u ∉ W.kz e):At (upd H (W.ka e)<|.dK (dS (W.kz e++[u])<|up (λu=>.ref<|W.la e u) u (.ref l))) (VW.C { W with kz:=up W.kz e<|W.kz e++[u],la:=AX W.la e u l,lv:=AX W.lv e u vs }<|P++R):=by
 have q:(W.kz e++[u]).map (λy=>(AX W.la e u l e y,HO.lst<|AX W.lv e u vs e y))=(W.kz e).map (λu=>(W.la e u,HO.lst<|W.lv e u))++[(l,.lst vs)]:=by
  rw [Vg];refine congr (congrArg _<|Wq λy m=>?_) ?_
  .have c:y≠u:=λc=>n<|c▸m;rw[Ds λd=>c d.2,Ds λd=>c d.2]
  .show [(AX W.la e u l e u,HO.lst<|AX W.lv e u vs e u)]=_;rw[Df,Df]
 rw [Ts];have s:At H (W.top++(VW.lc { W with kz:=up W.kz e<|W.kz e++[u],la:=AX W.la e u l,lv:=AX W.lv e u vs } .ax++(VW.lc { W with kz:=up W.kz e<|W.kz e++[u],la:=AX W.la e u l,lv:=AX W.lv e u vs } .aE++(VW.lc { W with kz:=up W.kz e<|W.kz e++[u],la:=AX W.la e u l,lv:=AX W.lv e u vs } .aM++(VW.lc { W with kz:=up W.kz e<|W.kz e++[u],la:=AX W.la e u l,lv:=AX W.lv e u vs } .shr++(P++R)))))):=by refine t.perm<|LL λx=>?_;have q:=congrArg (List.count x) q;unfold VW.C VW.lc;cases e<;>simp only[xh,Z3,List.count_nil]at q ⊢<;>dsimp only[AX,up]at q ⊢<;>simp only[reduceCtorEq,if_true,if_false]at q ⊢<;>omega
 cases e
 .exact At.set (P:=[_,_,_,_,_,_,_,_,_]) s
 .exact At.set (P:=[_,_,_,_,_,_,_,_,_,_]) s
 .exact At.set (P:=[_,_,_,_,_,_,_,_,_,_,_]) s
 .exact At.set (P:=[_,_,_,_,_,_,_,_,_,_,_,_]) s
end
section
variable {K:UT}{b:ar×ar×List aU}{H H':Hp}{W W':VW}{S S':PS}{R R':Ax}{i j:Nat}{ln l0 y:Ln}{l:ar}{o o':HO}{u z:aU}{e:Fl}{v:V}{d:PyData}{r r':List V×List Bool×List Int}{D:Hp->Prop}{D2:V->Hp->Prop}{k:Int}
def WD.r0{vs:List V}{C:V->Prop}(t:WD K b H W S ((l,.lst (v::vs))::R))(c:C v):∃p xs i x,V.ref l=.ref p/\V.int 0=.int i/\A2 K H p xs/\Cd xs i=some x/\C x:=⟨_,_,0,_,rfl,rfl,.of t.vr.hd,FC (j:=0) rfl,c⟩
def WD.add(t:WD K b H W S R)(n:H l=none)(s:Ah H H')(e:H' l=some o):WD K b H' W S ((l,o)::R):=by
 have a:At H' ((l,o)::W.C ([(W.sp,.lst<|W.du.map V.int),(W.st,.lst<|W.dv.map V.int)]++R)):=⟨λc m=>by
  rcases Vc.mp m with rfl|m
  .exact e
  .exact (t.t.same s).at_ c m,Vr.mpr ⟨t.t.free n,t.t.nd⟩⟩
 rw [VW.app,<-Vj]at a;have a:=a.back;rw[Vj,<-VW.app]at a;exact⟨a,t.ok.aj<|.of s,t.b⟩
def WD.wQ(t:WD K b H W S R)(q:List aU):WD K b (upd H W.q<|.lst (q.map V.str)) { W with qs:=q } { S with q:=q } R/\Af H (upd H W.q<|.lst (q.map V.str)):=by have B:Af H (upd H W.q<|.lst (q.map V.str)):=.chg t.t.vq rfl;exact⟨⟨t.t.sQ q,{ t.ok.aj B with q:=rfl },t.b⟩,B⟩
def WD.tT(t:WD K b H W S R)(n:S.q.length<1000)(c:∀H' W',WD K b H' W' { S with q:=S.q++[z] } R->Af H H'->D H'):∃l xs y,V.ref W.q=.ref l/\[V.str z]=[y]/\H l=some (.lst xs)/\xs.length<sizeLine/\D (upd H l<|.lst (xs++[y])):=by refine CZ _ _ _ rfl rfl t.q (by rw[UW,U0];omega) ?_;obtain⟨B,I⟩:=t.wQ<|S.q++[z];rw[Vg]at B I;exact c _ _ B I
def WD.ab0{q:List aU}(t:WD K b H W S R)(eq:S.q=z::q)(c:∀H' W',WD K b H' W' { S with q:=q } R->Af H H'->D2 (.str z) H'):∃l xs i k y,V.ref W.q=.ref l/\[V.int 0]=[.int i]/\H l=some (.lst xs)/\-(2 ^ 63)<=i/\i<2 ^ 63/\YE i xs.length=some k/\xs[k]?=some y/\D2 y (upd H l<|.lst (xs.eraseIdx k)):=by have h:=t.q;rw[eq]at h;obtain⟨B,I⟩:=t.wQ q;exact⟨_,_,0,0,.str z,rfl,rfl,h,(by decide),(by decide),by rw[VP,VX];unfold YE;simp,rfl,c _ _ B I⟩
def WD.wDn(t:WD K b H W S R)(v:V)(n:S.dn.length<sizeLine)(c:∀H' W',WD K b H' W' { S with dn:=S.dn++[v] } R->Af H H'->D H'):∃l xs y,V.ref W.dn=.ref l/\[v]=[y]/\H l=some (.lst xs)/\xs.length<sizeLine/\D (upd H l<|.lst (xs++[y])):=by have B:Af H (upd H W.dn<|.lst (S.dn++[v])):=.chg t.t.tP rfl;exact BO _ _ _ rfl ⟨rfl,t.dn,n,c _ { W with ds:=S.dn++[v] } ⟨t.t.sDn _,{ t.ok.aj B with ds:=rfl },t.b⟩ B⟩
def WD.ab1(t:WD K b H W S R)(c:∀H' W',WD K b H' W' { S with sk:={ S.sk with mark:=k } } R->Af H H'->D H'):∃a B,V.ref b.1=.ref a/\Es H a (.str "mark") (.int k) B/\D B:=by have hb:=t.t.vw;have I:Af H (upd H W.w<|.dK { W with mark:=k }.kv):=.chg hb rfl;refine⟨b.1,_,rfl,.k (k:=.inr "mark") (kvs:=W.kv) (by rwa[<-t.b.1])<|by unfold VW.kv;rw[t.ok.kx];change 16<sizeLine;decide,?_⟩;rw[show BS W.kv (.inr "mark") (.int k)={ W with mark:=k }.kv by unfold VW.kv;rw[t.ok.kx];rfl,<-t.b.1];refine c _ { W with mark:=k } ⟨t.t.abR k,?_,t.b⟩ I;exact { t.ok.aj I with ma:=rfl }
def WD.wSp(t:WD K b H W S R)(x:Int)(k0:0<=k)(k1:k<S.sk.st.length)(c:∀H' W',WD K b H' W' { S with sk:={ S.sk with st:=S.sk.st.set k.toNat x } } R->Af H H'->D H'):∃p xs i j,V.ref W.sp=.ref p/\V.int k=.int i/\H p=some (.lst xs)/\CY xs.length i=some j/\D (upd H p<|.lst (xs.set j<|.int x)):=by apply Cq t.sp (Od k0<|by rwa[UW]);rw[<-V0];have B:Af H (upd H W.sp<|.lst ((S.sk.st.set k.toNat x).map V.int)):=.chg t.sp rfl;have I:At (upd H W.sp<|.lst ((S.sk.st.set k.toNat x).map V.int)) (VW.C { W with du:=S.sk.st.set k.toNat x } ((W.sp,.lst<|(S.sk.st.set k.toNat x).map V.int)::(W.st,.lst<|W.dv.map V.int)::R)):=At.pU (P:=[]) t.t;exact c _ { W with du:=S.sk.st.set k.toNat x } ⟨I,{ t.ok.aj B with sp:=rfl },t.b⟩ B
def WD.wSt(t:WD K b H W S R)(x:Int)(k0:0<=k)(k1:k<S.sk.wt.length)(c:∀H' W',WD K b H' W' { S with sk:={ S.sk with wt:=S.sk.wt.set k.toNat x } } R->Af H H'->D H'):∃p xs i j,V.ref W.st=.ref p/\V.int k=.int i/\H p=some (.lst xs)/\CY xs.length i=some j/\D (upd H p<|.lst (xs.set j<|.int x)):=by apply Cq t.st (Od k0<|by rwa[UW]);rw[<-V0];have B:Af H (upd H W.st<|.lst ((S.sk.wt.set k.toNat x).map V.int)):=.chg t.st rfl;have I:At (upd H W.st<|.lst ((S.sk.wt.set k.toNat x).map V.int)) (VW.C { W with dv:=S.sk.wt.set k.toNat x } ((W.sp,.lst<|W.du.map V.int)::(W.st,.lst<|(S.sk.wt.set k.toNat x).map V.int)::R)):=At.pU (P:=[_]) t.t;exact c _ { W with dv:=S.sk.wt.set k.toNat x } ⟨I,{ t.ok.aj B with st:=rfl },t.b⟩ B
def WD.iE(t:WD K b H W S R)(J:AS S u=some r)(ne:e≠.ax)(k0:0<=k)(k1:k<(W.lv e u).length)(O:AS S' u=some r')(B:S'.lns=S.lns/\S'.q=S.q/\S'.dn=S.dn/\S'.long=S.long)(I:S.sk.mark=S'.sk.mark/\S.sk.st=S'.sk.st/\S.sk.wt=S'.sk.wt)(Y:∀w,w≠u->AS S' w=AS S w)(he:AX W.lv e u ((W.lv e u).set k.toNat v) .aE u=CJ S u r'.1/\AX W.lv e u ((W.lv e u).set k.toNat v) .aM u=r'.2.1.map V.bl/\AX W.lv e u ((W.lv e u).set k.toNat v) .shr u=r'.2.2.map V.int)(c:∀H' W',WD K b H' W' S' R->Af H H'->W'.la=W.la/\W'.lv .ax=W.lv .ax->D H') :
  ∃p xs i j,V.ref (W.la e u)=.ref p/\V.int k=.int i/\H p=some (.lst xs)/\CY xs.length i=some j/\D (upd H p<|.lst (xs.set j v)):=by
 have m:=t.ok.jV J ne;have hv:=t.t.vl m;have L:Af H (upd H (W.la e u)<|.lst ((W.lv e u).set k.toNat v)):=.chg hv rfl;apply Cq hv (Od k0 k1);refine c _ _ ⟨t.t.sL m<|(W.lv e u).set k.toNat v,(t.ok.aj L).ir J O B.1 B.2.1 B.2.2.1 B.2.2.2 (t.ok.ma.trans I.1) (t.ok.sp.trans I.2.1) (t.ok.st.trans I.2.2) Y (λe' z' n=>Ds λ⟨a,b⟩=>?_) he,t.b⟩ L ⟨rfl,Fo<|Vy ne⟩;rcases n with n|n
 .exact n b
 .exact ne (a▸n)
def WD.tU(t:WD K b H W (S.aL i ln) R)(h:S.lns[i]?=some l0)(iv:Is K H v d)(J:Cs d=true)(c:∀H' W',WD K b H' W' (S.aL i { ln with why:=d }) R->Af H H'->D H')(ez:ln.num=z:=by rfl):∃a L,V.ref (W.fa .why)=.ref a/\Es H a (.str z) v L/\D L:=by
 subst ez;have g:=HN (y:=ln) h;have l:=t.ok.l i ln g;refine Bb (W.fa .why) _ rfl (.k (k:=.inr ln.num) (t.t.vf .why)<|J6 (by rw[t.ok.kf];exact t.ok.zl)) ?_;rw[Ob<|t.ok.inf g .why];have B:Af H (upd H (W.fa .why)<|.dK (dS (W.kf .why)<|up (W.ff .why) ln.num v)):=.chg (t.t.vf .why) rfl;have O:=t.t.sF .why (W.kf .why)<|up (W.ff .why) ln.num v;rw[Oa]at O;refine c _ { W with ff:=up W.ff .why (up (W.ff .why) ln.num v) } ⟨O,?_,t.b⟩ B;have k:=t.ok.bF (i:=i) (y:={ ln with why:=d }) (ff:=up W.ff .why<|up (W.ff .why) ln.num v) (lv:=W.lv) (la:=W.la) B g rfl (λI y n=>Ds (g:=W.ff) λe=>n e.2) (λ_ _ _=>rfl) ⟨λI Y=>?_,?_,J,(l.aj B).tr⟩
 .rw[show(S.aL i ln).aL i { ln with why:=d }=S.aL i { ln with why:=d } by change({ S with lns:=(S.lns.set i ln).set i _ }:PS)=_;rw[V6]]at k;exact k
 .exact (Ds (g:=W.ff) λc=>Y c.1).trans ((l.f I Y).trans<|by cases I<;>rfl)
 .show Is K _ (up W.ff .why (up (W.ff .why) ln.num v) .why ln.num) d;rw[show up W.ff .why (up (W.ff .why) ln.num v) .why ln.num=v from Df (g:=W.ff)];exact Is.aj _ J iv B
def WD.ab2{as:List ar}{p:aU×Int}{a:ar}(t:WD K b H W (S.aL i ln) R)(h:S.lns[i]?=some l0)(I:H (W.la .ax ln.num)=some (.lst<|as.map V.ref))(J:CF H as ln.held)(O:H a=some (.tup [.str p.1,.int p.2]))(n:ln.held.length<=10)(c:∀H' W',WD K b H' W' (S.aL i { ln with held:=ln.held++[p] }) R->Af H H'->D H')(ez:ln.num=z:=by rfl):∃l xs y,V.ref (W.la .ax z)=.ref l/\[V.ref a]=[y]/\H l=some (.lst xs)/\xs.length<sizeLine/\D (upd H l<|.lst (xs++[y])):=by subst ez;have g:=HN (y:=ln) h;have l:=t.ok.l i ln g;refine CZ _ _ _ rfl rfl I (by rw[UW,J.len,U0];omega) ?_;rw[show as.map V.ref++[V.ref a]=(as++[a]).map V.ref by rw[Vg];rfl];have B:Af H (upd H (W.la .ax ln.num)<|.lst ((as++[a]).map V.ref)):=.chg I rfl;refine c _ _ ⟨t.t.sL (t.ok.fP g)<|(as++[a]).map V.ref,?_,t.b⟩ B;have k:=t.ok.bF (i:=i) (y:={ ln with held:=ln.held++[p] }) (ff:=W.ff) (lv:=AX W.lv .ax ln.num<|(as++[a]).map V.ref) (la:=W.la) B g rfl (λ_ _ _=>rfl) (λe' y n=>Ds λ⟨a,b⟩=>n.elim (λn=>n b) λn=>n a) ⟨λL Y=>(l.f L Y).trans (by cases L<;>rfl),Is.aj _ l.wt l.why B,l.wt,as++[a],Df,(J.aj B).snoc<|B.t O⟩;rw[show(S.aL i ln).aL i { ln with held:=ln.held++[p] }=S.aL i { ln with held:=ln.held++[p] } by change({ S with lns:=(S.lns.set i ln).set i _ }:PS)=_;rw[V6]]at k;exact k
def WD.pY (t:WD K b H W (S.aL i ln) ((l,.lst<|as.map V.ref)::R))(h:S.lns[i]?=some l0)(L:CF H as hd)(c:∀H' W',WD K b H' W' (S.aL i { ln with held:=hd }) R->Af H H'->D H')(ez:ln.num=z:=by rfl):∃a I,V.ref (W.ka .ax)=.ref a/\Es H a (.str z) (.ref l) I/\D I:=by subst ez;have g:=HN (y:=ln) h;have lv:=t.ok.l i ln g;refine Bb (W.ka .ax) _ rfl (.k (k:=.inr ln.num) (t.t.vk .ax)<|J6 t.ok.zl) ?_;rw[Ob<|t.ok.fP g];have B:Af H (upd H (W.ka .ax)<|.dK (dS (W.kz .ax)<|up (λu=>.ref<|W.la .ax u) ln.num (.ref l))):=.chg (t.t.vk .ax) rfl;refine c _ _ ⟨t.t.sN (P:=[_,_]) (t.ok.fP g) t.ok.zn,?_,t.b⟩ B;have k:=t.ok.bF (i:=i) (y:={ ln with held:=hd }) (ff:=W.ff) (lv:=AX W.lv .ax ln.num<|as.map V.ref) (la:=AX W.la .ax ln.num l) B g rfl (λ_ _ _=>rfl) (λY y n=>Ds λ⟨a,b⟩=>n.elim (λn=>n b) λn=>n a) ⟨λJ O=>(lv.f J O).trans (by cases J<;>rfl),Is.aj _ lv.wt lv.why B,lv.wt,as,Df,L.aj B⟩;rw[show(S.aL i ln).aL i { ln with held:=hd }=S.aL i { ln with held:=hd } by change({ S with lns:=(S.lns.set i ln).set i _ }:PS)=_;rw[V6]]at k;exact k
end
def Agw(n m:Nat)(h:m<=n):(VN n).map (λ(f:Nat)=>((m:Int)+(f:Int))%(n:Int))=BR m n++BR 0 m:=by
 obtain⟨d,rfl⟩:∃d,n=m+d:=⟨n-m,(by omega)⟩;have D:BR (m:Int) ((m+d:Nat):Int)=(VN d).map λ(f:Nat)=>(m:Int)+(f:Int):=by
  unfold BR;have:(((m+d:Nat):Int)-(m:Int)).toNat=d:=(by omega)
  rw [this]
 have H:BR 0 (m:Int)=(VN m).map λ(f:Nat)=>(f:Int):=by
  unfold BR;have:((m:Int)-0).toNat=m:=(by omega)
  rw [this];exact Wq λk _=>(by omega)
 rw [D,H,Nat.add_comm m d,List.range_add,Vg,Vn];congr 1
 .refine Wq λf B=>?_;have:=We.mp B;rw[zD (by omega)<|(by omega)]
 .refine Wq λf B=>?_;have:=We.mp B;change((m:Int)+((d+f:Nat):Int))%((d+m:Nat):Int)=(f:Int);have e:(m:Int)+((d+f:Nat):Int)=(f:Int)+((d+m:Nat):Int):=by omega
  rw [e,Int.add_emod_right,zD (by omega)<|(by omega)]
def Tt{α:Type}(p:α->Bool)(l:List α)(i:Nat)(v:α)(h:l[i]?=some v):(l.take<|i+1).filter p=(l.take i).filter p++(if p v=true then[v] else[]):=by
 rw [WE,h,ZY];congr 1
 change List.filter p [v]=_;rw[ZZ,Z0]
theorem LM:∀(ns:List Int),YM (ns.map Wd)=true/\XX (ns.map Wd)<=1
 |[]=>⟨rfl,by decide⟩
 |z::zs=>by
  obtain⟨B,D⟩:=LM zs;refine⟨?_,?_⟩
  .show (Zj (.int z) && YM _)=true;rw[B];rfl
  .show max (WH (.int z)) (XX _)<=1;refine xi.mpr ⟨?_,D⟩;simp[WH]
theorem GX:∀zs:List Int,aQ K H (zs.map V.int) (zs.map Wd)
 |[]=>.nil
 |z::zs=>.cons (.int z) (GX zs)
def Tu(ds:List PyData):WH (.tuple ds)=XX ds+1:=by simp[WH]
def J8(ds:List PyData):WH (.list ds)=XX ds+1:=by simp[WH]
def Tv (h:B6 z):Zj (.str z)=true:=by change PyData.strOk z=true;unfold PyData.strOk;rw[<-zo,WL];intro c hc;have:=h c hc;simp only[decide_eq_true_eq];omega
theorem Oe:∀{zs:List aU},(∀z∈zs,B6 z)->YM (zs.map Xc)=true/\XX (zs.map Xc)<=1
 |[],_=>⟨rfl,by decide⟩
 |z::zs,h=>by
  obtain⟨B,D⟩:=Oe λy hy=>h y (Vw _ hy);refine⟨?_,?_⟩
  .show (Zj _ && YM _)=true;rw[Tv (h z VJ),B];rfl
  .show max (WH (.str z)) (XX _)<=1;refine xi.mpr ⟨?_,D⟩;simp[WH]
theorem II:∀zs:List aU,aQ K H (zs.map V.str) (zs.map Xc)
 |[]=>.nil
 |z::zs=>.cons (.str z) (II zs)
def Tw(x y:aU):D3 (.str x) (.str y)=decide (x=y):=by
 by_cases h:x=y
 .subst h;simp[D3]
 .simp [D3,h]
structure Bg(n:Nat)(d:PyData):Prop where
 c:Zj d=true
 k:WH d<=n
theorem J9:∀{ds:List PyData},(∀d∈ds,Bg n d)->YM ds=true/\XX ds<=n
 |[],_=>⟨rfl,Wn _⟩
 |d::ds,h=>by
  obtain⟨B,D⟩:=J9 λe m=>h e (Vw _ m);have:=h d VJ;refine⟨?_,?_⟩
  .show (Zj _ && YM _)=true;rw[this.c,B];rfl
  .show max (WH d) (XX ds)<=n;exact xi.mpr ⟨this.k,D⟩
def Bg.tup{n:Nat}{ds:List PyData}(h:∀d∈ds,Bg n d):Bg (n+1) (.tuple ds):=⟨(J9 h).1,by rw[Tu];exact ZC (J9 h).2⟩
def Bg.lst{n:Nat}{ds:List PyData}(h:∀d∈ds,Bg n d):Bg (n+1) (.list ds):=⟨(J9 h).1,by rw[J8];exact ZC (J9 h).2⟩
def Bg.str (h:B6 z):Bg n (.str z):=⟨Tv h,by simp[WH]⟩
def Bg.int (z:Int):Bg n (.int z):=⟨rfl,by simp[WH]⟩
def Bg.aa:Bg n .none:=⟨rfl,by simp[WH]⟩
def Bg.up (h:Bg n d)(l:n<=m):Bg m d:=⟨h.c,V7 h.k l⟩
def GY{p:PyData->Prop}{a b:PyData}(B:p a)(D:p b):∀d∈[a,b],p d:=λd m=>by
 simp only[Vc,VC,or_false]at m;rcases m with rfl|rfl
 .exact B
 .exact D
def EN{p:PyData->Prop}{a b c:PyData}(B:p a)(D:p b)(H:p c):∀d∈[a,b,c],p d:=λd m=>by
 simp only[Vc,VC,or_false]at m;rcases m with rfl|rfl|rfl
 .exact B
 .exact D
 .exact H
def Tx{p:PyData->Prop}{a b c e:PyData}(B:p a)(D:p b)(H:p c)(I:p e):∀d∈[a,b,c,e],p d:=λd m=>by
 simp only[Vc,VC,or_false]at m;rcases m with rfl|rfl|rfl|rfl
 .exact B
 .exact D
 .exact H
 .exact I
def Agx (h:B6 x)(k:B6 y):B6 (x++y):=λc m=>by
 rw [JJ]at m;exact(Vx.mp m).elim (h c) (k c)
def Agy(n:Int)(h:1<=n/\n<=10):B6 (Ef n):=by
 have B:∀m:Nat,m<10->∀c∈(Gd.getD m "").cps.toList,c<128:=(by decide +kernel)
 exact B (n-1).toNat<|(by omega)
def asc (h:B6 z:=by unfold B6;decide +kernel):B6 z:=h
def IJ:B6 (U3 ""):=λc m=>nomatch (show c∈([]:List Nat)from m)
structure D6(ln:Ln):Prop where
 ae:B6 ln.ae
 held:∀p∈ln.held,B6 p.1
 why:Bg 3 ln.why
def WX(S:PS):Prop:=∀ln∈S.lns,D6 ln
section
variable {S:PS}{i j:Nat}{ln lo:Ln}
def WX.set (h:WX S)(t:D6 y):∀ln∈S.lns.set i y,D6 ln:=λln m=>(Gh m).elim (λe=>e▸t)<|h ln
def D6.turn (t:D6 ln):D6 (AW ln st):=⟨IJ,t.held,.aa⟩
def D6.rest:D6 (AW { ln with held:=[] } st):=⟨IJ,(λp m=>nomatch m),.aa⟩
def WX.get(h:WX S)(e:S.lns[i]?=some ln):D6 ln:=h ln<|Vh e
def WX.jR (h:WX S)(q:Ey S)(e:Ex S=some x)(B:∀z∈S.q,B6 z):WX x.2/\Bg 1 x.1:=by
 obtain⟨z,r,k,ln,D,I,H,J,L,rfl⟩:=HV<|NO q e;refine⟨WX.set h ⟨IJ,λp m=>?_,.aa⟩,.tup<|Tx (.str asc) (.str<|B z (by rw[D];exact VJ)) (.int _) (.int _)⟩;rcases Vx.mp m with m|m
 .exact (h.get H).held p m
 .rw[Vl.mp m];exact IJ
theorem WX.aK:∀(n:Nat){S:PS},WF S->WX S->WX (aK n S).2/\∀d∈(aK n S).1,Bg 1 d
 |0,_,_,h=>⟨h,λd m=>nomatch m⟩
 |n+1,S,w,h=>by
  unfold Lw.aK;split
  .exact ⟨h,λd m=>nomatch m⟩
  .rename_i x e
   obtain⟨B,D⟩:=h.jR w.cT e λz m=>(w.g.tx z (w.g.cq z m)).1.1;obtain⟨H,I⟩:=WX.aK n (w.jR e) B;exact⟨H,λd m=>(Vc.mp m).elim (λc=>c▸D) (I d)⟩
theorem WX.told (h:WX S)(B:B6 y.ae)(hd:Bg 3 d):WX (Ck { S with lns:=S.lns.set i y } i y d):=by change ∀ln∈(S.lns.set i y).set i { y with held:=[],st:="told",why:=d },D6 ln;rw[V6];exact h.set ⟨B,(λp m=>nomatch m),hd⟩
def Agz (h:GW ns g)(B:∀z∈ns,B6 z):∀d∈C9 g,Bg n d:=λd m=>by
 obtain⟨v,D,rfl⟩:=Au<|Ve.mp m;obtain⟨k,_,rfl⟩:=Au<|Ve.mp D;by_cases e:g.hs.getD k .aa=.aa
 .rw[bf e];split
  .exact .str asc
  .exact .str asc
 .rw[ck e];rw[Vt]at e ⊢;cases hk:g.hs[k]? with
  |none=>rw[hk]at e;exact absurd rfl e
  |some u =>
   rw [hk]at e;obtain⟨z,H,rfl⟩:=Au<|(h u<|Vh hk).resolve_left e;exact .str<|B z H
def WX.go(h:WX S)(w:WF S)(e:S.lns[i]?=some ln){d:LW}(f:d.fits ln=true):WX (d.go S i ln).2/\∀x∈(d.go S i ln).1,Bg 4 x:=by
 have t:=h.get e;have num:B6 ln.num:=(w.g.tx _<|EA e).1.1;have one:∀{a:PyData},Bg 4 a->∀x∈[a],Bg 4 x:=λL x m=>by rwa[Vl.mp m]
 cases d with
 |lift =>
  change WX (CG S i ln).2/\∀x∈[(CG S i ln).1],Bg 4 x;unfold CG;split
  .exact ⟨h.set t.turn,one<|.tup (GY (.str asc)<|.str num)⟩
  .split
   .exact ⟨h,one .aa⟩
   .split
    .exact ⟨h,one .aa⟩
    .rename_i z _ lc ec
     have D:=h.get ec;exact⟨λx m=>(Gh m).elim (λc=>c▸⟨t.ae,t.held,t.why⟩)<|h.set (y:={ lc with st:="talks" }) ⟨D.ae,D.held,D.why⟩ x,one<|.tup (EN (.str asc) (.str (w.g.tx _<|EA ec).1.1)<|.str num)⟩
 |b9 =>
  change WX (Ez S i ln).2/\∀x∈(Ez S i ln).1,Bg 4 x;unfold Ez;split
  .exact ⟨h.set ⟨t.ae,t.held,t.why⟩,λx m=>nomatch m⟩
  .exact ⟨h.told (y:={ ln with ag:=ln.ag+1 }) (d:=.tuple [.str "over",.str ln.ae]) t.ae<|.tup (GY (.str asc)<|.str t.ae),one<|.tup (EN (.str asc) (.str num)<|.str t.ae)⟩
 |gap =>
  obtain⟨V,Y,⟨y3,y4⟩,_⟩:=AU<|(w.l i ln e).way (LW.aV f rfl);have p0:=LW.tL f;have B:B6 (Ak ln).ae:=Agx t.ae<|Agy _ (by omega);have none:WX (Ck { S with lns:=S.lns.set i (Ak ln) } i (Ak ln)<|.tuple [.str "none",.str (Ak ln).ae])/\∀x∈[PyData.tuple [.str "none",.str (Ak ln).num,.str (Ak ln).ae]],Bg 4 x:=⟨h.told B<|.tup (GY (.str asc)<|.str B),one<|.tup (EN (.str asc) (.str num)<|.str B)⟩;change WX (Dr S i ln).2/\∀x∈[(Dr S i ln).1],Bg 4 x;unfold Dr;dsimp only;split
  .unfold CQ;split
   .exact none
   .rename_i g eg
    split
    .have pl:Bg 1 (.tuple<|C9 g):=.tup<|Agz (w.g.hg g (FO eg).1) λz m=>(w.g.tx z m).1.1;exact⟨h.told B<|(Bg.tup<|EN (.str asc) (.str B) pl).up `x,one<|(Bg.tup<|EN (.str asc) (.str num) (Bg.tup<|EN (.str asc) (.str B) pl)).up `x⟩
    .refine ⟨?_,one<|.tup (Tx (.str asc) (.str num) (.str B)<|.int _)⟩;change ∀x∈(S.lns.set i<|Ak ln).set i _,D6 x;rw[V6];refine h.set ⟨B,λp m=>?_,t.why⟩;rcases Vx.mp m with m|m
     .exact t.held p m
     .rwa[Vl.mp m]
  .split
   .exact ⟨h.set ⟨B,t.held,t.why⟩,one<|.tup (EN (.str asc) (.str num)<|.str B)⟩
   .unfold CP;split
    .exact none
    .rename_i lc ec
     have mc:=Vh ec;have D:=WX.set (i:=i) h (y:=Ak ln) ⟨B,t.held,t.why⟩ lc mc;split
     .refine ⟨λx m=>(Gh m).elim (λc=>c▸⟨D.ae,D.held,D.why⟩) λm=>?_,one<|.tup (EN (.str asc) (.str num)<|.str B)⟩;exact(Gh m).elim (λc=>c▸⟨B,t.held,t.why⟩) (WX.set (i:=i) h (y:=Ak ln) ⟨B,t.held,t.why⟩ x)
     .have st:B6 lc.st:=by
       rcases Gh mc with c|c
       .rw[c];change B6 ln.st;rw[LW.aV f rfl];exact(By.ok _).1
       .obtain ⟨k,hk⟩:=Zi.mp c;obtain⟨v,O,_⟩:=Au<|(w.l k lc hk).wy;rw[O];exact(By.ok v).1
      have J:Bg 1 (.tuple [.str "line",.str (Ak ln).ae,.str lc.st]):=.tup<|EN (.str asc) (.str B) (.str st);exact⟨h.told B<|J.up `x,one<|(Bg.tup<|EN (.str asc) (.str num) J).up `x⟩
 |bR =>
  have I:WX (aB S ln):=by unfold WX;rwa[J3]
  have H:WX (CH (aB S ln) ln).2/\∀x∈(CH (aB S ln) ln).1,Bg 4 x:=by
   unfold CH;split
   .exact ⟨I,λx m=>nomatch m⟩
   .split
    .exact ⟨I,λx m=>nomatch m⟩
    .rename_i z _ lo eo
     have no:B6 lo.num:=(w.g.tx _<|EA (by rwa[<-J3 (ln:=ln)])).1.1;unfold BJ;split
     .refine ⟨?_,one<|.tup (GY (.str asc)<|.str no)⟩;change ∀x∈((aB S ln).lns.set _ _).set _ _,D6 x;rw[V6];exact I.set D6.rest
     .exact ⟨I.set D6.rest,one<|.tup (GY (.str asc)<|.str no)⟩
  refine⟨H.1.set D6.rest,λx m=>?_⟩;rcases Vc.mp m with rfl|m
  .exact .tup (GY (.str asc)<|.str num)
  .exact H.2 x m
def WX.res(h:WX S)(w:WF S){d:Bi}{r:List PyData×PS}(e:d.res S=.inr r):WX r.2/\∀x∈r.1,Bg 4 x:=by
 cases d with
 |bb b z k =>
  unfold Bi.res at e;dsimp only at e;split at e
  .cases e
  .split at e
   .cases e;refine⟨?_,λx m=>nomatch m⟩;unfold WX;rwa[IH.1]
   .cases e
 |line d z =>
  unfold Bi.res at e;dsimp only at e;split at e
  .cases e
  .split at e
   .rename_i ln hl f
    cases e;exact h.go w hl f
   .cases e
def WX.next(h:WX S)(w:WF S){d:Bi}{r:List PyData×PS}(e:d.res S=.inr r)(dd:ar):WX (Cz<|Dy r.2 dd).2/\Bg 5 (.list<|r.1++(Cz<|Dy r.2 dd).1):=by obtain⟨B,D⟩:=h.res w e;obtain⟨H,I⟩:=WX.aK (Dy r.2 dd).q.length (S:=Dy r.2 dd) ((w.res e).1.dn (d:=r.2.dn++[V.ref dd])) B;exact⟨H,.lst λx m=>(Vx.mp m).elim (D x) λm=>(I x m).up<|(by decide)⟩
end
section
variable {S:PS}{i j:Nat}{ln lo:Ln}
end
local macro_rules | `(tactic| walk_at "h")=>`(tactic| first | assumption | exact HN ‹_›)
local macro_rules | `(tactic| walk_at "p")=>`(tactic| first | assumption | exact Af.refl | exact Af.of ‹_› | (refine Af.trans ?_ (by first | assumption | exact Af.of ‹_›);walk_at "p"))
local macro_rules | `(tactic| walk_at "i")=>`(tactic| first | exact .str _ | exact .int _ | exact .aa | assumption | exact Is.aj _ (by first | rfl | assumption) ‹_› (by walk_at "p") | exact .tup (.of ‹_›) (by walk_at "is"))
local macro_rules | `(tactic| walk_at "is")=>`(tactic| first | exact .nil | exact .cons (by walk_at "i") (by walk_at "is"))
local macro_rules | `(tactic| walk_at "w1")=>`(tactic| first
 | refine WD.lE ‹_› ?_
 | refine WD.abV ‹_› ?_
 | refine WD.fld ‹_› ?_
 | refine WD.fld ‹_› ?_ (WD.abY ‹_›)
 | refine WD.fld ‹_› ?_ (WD.abZ ‹_›)
 | refine WD.lF ‹_› (by walk_at "h") ?_
 | refine WD.pW ‹_› (by walk_at "h") ?_
 | refine WD.pX ‹_› (by walk_at "h") ?_
 | refine WD.tS ‹_› (by walk_at "h") ?_
 | refine WD.abX ‹_› (by walk_at "h") ?_
 | refine WD.rRk ‹_› (by first | assumption | exact bf rfl) ?_
 | refine U6 (WD.r0 ‹_› ?_)
 | refine U4 (U6 ⟨_,_,_,_,rfl,rfl,.of ‹_›,rfl,?_⟩)
 | refine WD.sF ‹_› ‹_› λ_ _ _ _=>?_)
local macro_rules | `(tactic| walk_at "n")=>`(tactic| (refine ⟨Am,λ_ _ n=>?_⟩;have:=WD.new ‹_› n;have:=Af.of n.same))
local macro_rules | `(tactic| walk_at "t")=>`(tactic| (refine ⟨Am,λ_ _ n=>?_⟩;have:=WD.same ‹_› n.same;have:=Af.of n.same;have:=n.get))
local macro_rules | `(tactic| walk_at "w")=>`(tactic| (walk_at"";repeat (walk_at "w1";walk_at"")))
def IK{S:PS}{w:aU}{hs:List V}:(CJ S w hs).length=hs.length:=by unfold CJ;split<;>simp
def AgA{S:PS}{w:aU}{hs:List V}{k:Nat}:(CJ S w hs).set k .aa=CJ S w (hs.set k .aa):=by
 unfold CJ;split
 .rw[V0];rfl
 .rfl
def At.fld{P:UZ}{w:UU}{K:UT}{H:Hp}{W:VW}{R:Ax}{C:V->Prop}{z:aU}{v:V}(t:At H (W.C R))(c:C v)(e:Ba W.kv (.inr z)=some v:=by rfl):∃a kvs k v,V.ref W.w=.ref a/\V.str z=kV k/\Dq P w K H a kvs/\Ba kvs k=some v/\C v:=⟨_,_,_,_,rfl,rfl,.of t.vw,e,c⟩
def At.nF{H:Hp}{W:VW}{R:Ax}{D:Hp->Prop}{d:Fd}{z:aU}{v:V}(t:At H (W.C R))(n:z ∉ W.kf d)(len:(W.kf d).length<=1000)(c:∀B,At B (VW.C { W with kf:=up W.kf d<|W.kf d++[z],ff:=AX W.ff d z v } R)->Af H B->D B):∃a I,V.ref (W.fa d)=.ref a/\Es H a (.str z) v I/\D I:=by refine Bb (W.fa d) _ rfl (.k (k:=.inr z) (t.vf d)<|J6 len) ?_;rw[Tq n];exact c _ (t.sF d _ _)<|.chg (t.vf d) rfl
def At.nL{H:Hp}{W:VW}{P R:Ax}{D:Hp->Prop}{e:Fl}{z:aU}{l:ar}{vs:List V}(t:At H (W.C (P++(l,.lst vs)::R)))(n:z ∉ W.kz e)(len:(W.kz e).length<=1000)(c:∀B,At B (VW.C { W with kz:=up W.kz e<|W.kz e++[z],la:=AX W.la e z l,lv:=AX W.lv e z vs }<|P++R)->Af H B->D B):∃a I,V.ref (W.ka e)=.ref a/\Es H a (.str z) (.ref l) I/\D I:=by refine Bb (W.ka e) _ rfl (.k (k:=.inr z) (t.vk e)<|J6 len) ?_;rw[Tq n];exact c _ (t.nN n)<|.chg (t.vk e) rfl
def Of(K:UT):Sp:=λvs H Q _=>∃(b:ar×ar×List aU)(W:VW)(S:PS)(R:Ax)(i:Nat)(ln:Ln)(st:aU),vs=[.ref b.1,.str ln.num,.str st]/\WD K b H W S R/\S.lns[i]?=some ln/\∀H' W',WD K b H' W' (S.aL i { AW ln st with held:=[] }) R->Af H H'->Q .aa H'
def VW.tV(W:VW)(z:aU)(l:ar):VW:={ W with kf:=λd=>W.kf d++[z],ff:=λd=>up (W.ff d) z ((Cm z).vv d),kz:=up W.kz .ax (W.kz .ax++[z]),la:=AX W.la .ax z l,lv:=AX W.lv .ax z [] }
def Og:Sp:=λvs H Q _=>∃(W:VW)(R:Ax)(z:aU),vs=[.ref W.w,.str z,.str "rests"]/\At H (W.C R)/\z ∉ W.kz .ax/\(∀d,W.kf d=W.kz .ax)/\(W.kz .ax).length<=1000/\∀H' l,At H' ((W.tV z l).C R)->Af H H'->Q .aa H'
def Ei:AM ["world","line","way"] ["world","line","way"] (Ab<|top 46):=.of
def AgB(F:AE K "_law_begin" "_law_begin" (top 46) f fd):Az P w K mg base Av 1 f fd ["world","line","way"] λvs H Q E=>Og vs H Q E\/Of K vs H Q E:=by
 refine F.ok Ei.fs (λai A outer s H vs Q E hr h=>?_) λvs H Q E h=>by rcases h with ⟨_,_,_,rfl,_⟩|⟨_,_,_,_,_,_,_,rfl,_⟩<;>rfl
 .show 4;refine⟨_,(@Ad _ _ _ _ _ (Cc (VB (VF `x _) hu) (Aq P w K (Aa 0 Ei) Ae) (Aa 1 Ei) (Aa 2 Ei) rfl)<|Ad (Cc (VB (VF `x _) hu) (Aq P w K (Aa 0 Ei) Ae) (Aa 1 Ei) Ae rfl) (Ad (Cc (VB (VF `x _) hu) (Aq P w K (Aa 0 Ei) Ae) (Aa 1 Ei) Aj rfl)<|Ad (Cc (VB (VF `x _) hu) (Aq P w K (Aa 0 Ei) Ae) (Aa 1 Ei) (A3 B3) rfl) (Ad (Cc (VB (VF `x _) hu) (Aq P w K (Aa 0 Ei) Ae) (Aa 1 Ei) Cv rfl)<|Ai (Cc (VB (VF `x _) hu) (Aq P w K (Aa 0 Ei) Ae) (Aa 1 Ei) Cv rfl)))),?_⟩;try dsimp only[av,aw]
  rcases h with ⟨W,R,z,rfl,t,L,O,le,q⟩|⟨b,W,S,R,i,ln,st,rfl,t,h,q⟩
  .have B:∀d,z ∉ W.kf d:=λd=>by rwa[O]
   have D:∀d,(W.kf d).length<=1000:=λd=>by rwa[O]
   show t.fld ?_;show t.nF (B .way) (D .way) λH1 V p1=>?_;show V.fld ?_;show V.nF (B .ae) (D .ae) λH2 Y p2=>?_;show Y.fld ?_;show Y.nF (B .ag) (D .ag) λH3 t3 p3=>?_;show⟨Am,λl H4 I=>?_⟩;have J:=t3.pT (o:=.lst []) I.n;rw[<-I.e]at J;show J.fld ?_;show J.nL (P:=[]) L le λH5 t5 p5=>?_;show t5.fld ?_;show t5.nF (B .ao) (D .ao) λH6 t6 p6=>?_;show t6.fld ?_;show t6.nF (B .why) (D .why) λH7 t7 p7=>?_;have p4:=Af.of I.same;refine q H7 l ?_ (by walk_at "p");unfold VW.tV;rw[show(λd=>W.kf d++[z])=up (up (up (up (up W.kf .way<|W.kf .way++[z]) .ae<|W.kf .ae++[z]) .ag<|W.kf .ag++[z]) .ao<|W.kf .ao++[z]) .why (W.kf .why++[z]) by funext d;cases d<;>rfl,show(λd=>up (W.ff d) z<|(Cm z).vv d)=AX (AX (AX (AX (AX W.ff .way z<|.str "rests") .ae z<|.str "") .ag z<|.int 0) .ao z .aa) .why z .aa by funext d;cases d<;>rfl];exact t7
  .have t:=t.at h;left;walk_at "n";left;refine WD.pY ‹_› h (as:=[]) (hd:=[]) trivial λ_ _ _ _=>?_;left;refine WD.tU ‹_› h (d:=.none) .aa rfl λ_ _ t _=>?_;exact q _ _ t<|by walk_at "p"
def WG.gr (g:WG S)(m:x∈S.az)(e:x.pre=z):BK S z=some x:=by obtain⟨i,h⟩:=Zi.mp m;rw[<-e];exact JV g.pre h
def Tz{S:PS}(g:WG S){w:aU}{k:Int}(h:Fj S w k):∃r,AS S w=some r/\0<=k/\k<r.1.length:=by
 unfold Fj at h;unfold AS;by_cases c:w=U3 ""
 .rw[bf c]at h ⊢;exact⟨_,rfl,F6.mp h.1⟩
 .rw[ck c]at h ⊢;obtain⟨x,m,e,B,_⟩:=AG h;rw[g.gr m e];exact⟨_,rfl,F6.mp B⟩
def Oh{S:PS}(g:WG S){w:aU}{r:List V×List Bool×List Int}(B:AS S w=some r){n:Nat}{v:V}(h:r.1[n]?=some v):∃D,(CJ S w r.1)[n]?=some D/\((v=.aa/\D=.aa)\/v≠.aa/\∃z,D=.str z/\0<z.length/\Ok z):=by
 unfold AS at B;unfold CJ;by_cases c:w=U3 ""
 .rw[bf c]at B;cases B;rw[bf c,Va,h];refine C5 _ rfl ?_;rcases g.hs v (Vh h)with rfl|⟨i,rfl,I⟩
  .exact .inl ⟨rfl,rfl⟩
  .have e:S.lns[i]?=some S.lns[i]:=Vi I;have:=g.tx _<|EA e;refine .inr ⟨(λe=>(nomatch e)),S.lns[i].num,?_,this.2,this.1⟩;change(match S.lns[((i:Nat):Int).toNat]? with|none=>V.aa|some ln=>.str ln.num)=_;rw[XI,e]
 .rw[ck c]at B ⊢;obtain⟨x,ex,rfl⟩:=Au<|VH.mp B;refine⟨v,h,?_⟩;rcases g.hg x (FO ex).1 v (Vh h)with rfl|⟨z,H,rfl⟩
  .exact .inl ⟨rfl,rfl⟩
  .exact .inr ⟨(λe=>(nomatch e)),z,rfl,(g.tx z H).2,(g.tx z H).1⟩
def LN{S:PS}(g:WG S){w:aU}{r:List V×List Bool×List Int}(B:AS S w=some r):r.2.1.length=r.1.length/\r.2.2.length=r.1.length/\r.1.length<=1000:=by
 unfold AS at B;by_cases c:w=U3 ""
 .rw[bf c]at B;cases B;exact⟨g.so.lj,g.so.lt,g.so.z⟩
 .rw[ck c]at B;obtain⟨x,ex,rfl⟩:=Au<|VH.mp B;have:=g.go x (FO ex).1;exact⟨this.lj,this.lt,this.z⟩
def AgC(S:PS)(w:aU)(k:Int):(aC S w k).q=S.q/\(aC S w k).dn=S.dn/\(aC S w k).long=S.long/\(aC S w k).sk.mark=S.sk.mark/\(aC S w k).sk.st=S.sk.st/\(aC S w k).sk.wt=S.sk.wt:=by unfold aC;split<;>exact⟨rfl,rfl,rfl,rfl,rfl,rfl⟩
def AgD{S:PS}{w:aU}{k:Int}{r:List V×List Bool×List Int}(B:AS S w=some r):AS (aC S w k) w=some (r.1.set k.toNat .aa,r.2.1,r.2.2)/\∀u,u≠w->AS (aC S w k) u=AS S u:=by
 unfold AS at B ⊢;unfold aC;by_cases c:w=U3 ""
 .rw[bf c]at B;cases B;refine⟨by rw[bf c,bf c],λu n=>?_⟩;rw[bf c,ck λd=>n<|d.trans c.symm,ck λd=>n<|d.trans c.symm];rfl
 .rw[ck c]at B;obtain⟨g,D,rfl⟩:=Au<|VH.mp B;refine⟨?_,λu n=>?_⟩
  .rw[ck c,ck c,FP (h:=λg=>{ g with hs:=g.hs.set k.toNat .aa }) λ_=>rfl,D];simp only[Wh,if_true]
  .rw[ck c,FP (h:=λg=>{ g with hs:=g.hs.set k.toNat .aa }) λ_=>rfl];by_cases d:u=U3 ""
   .rw[bf d,bf d]
   .rw[ck d,ck d];cases BK S u with
    |none=>rfl
    |some g=>rw[Wh,ck n]
section
variable {K:UT}{b:ar×ar×List aU}{H:Hp}{W:VW}{S:PS}{R:Ax}{u:aU}{k:Int}{r:List V×List Bool×List Int}{D:Hp->Prop}
def WD.free(t:WD K b H W S R)(g:WG S)(hw:Fj S u k)(c:∀B I,WD K b B I (aC S u k) R->Af H B->I.la=W.la/\I.lv .ax=W.lv .ax->D B):∃p xs i j,V.ref (W.la .aE u)=.ref p/\V.int k=.int i/\H p=some (.lst xs)/\CY xs.length i=some j/\D (upd H p<|.lst (xs.set j .aa)):=by obtain⟨r,J,O,Y⟩:=AG<|Tz g hw;obtain⟨r1,r2⟩:=AgD (k:=k) J;obtain⟨f1,f2,f3,f4,f5,f6⟩:=AU<|AgC S u k;obtain⟨L,e2,e3⟩:=AU<|t.ok.r u r J;exact t.iE J `x O (by rw[L,IK];exact Y) r1 ⟨Sr ..,f1,f2,f3⟩ ⟨f4.symm,f5.symm,f6.symm⟩ r2 ⟨by rw[Df,L];exact AgA,e2,e3⟩ c
end
def Oi(K:UT):Sp:=λvs H Q _=>∃(b:ar×ar×List aU)(W:VW)(S:PS)(R:Ax)(i:Nat)(ln:Ln),vs=[.ref b.1,.str ln.num]/\WD K b H W S R/\WG S/\S.lns[i]?=some ln/\bA S ln.held/\∀H' W',WD K b H' W' (CB S i ln) R->Af H H'->Q .aa H'
def Oj(K:UT):Sp:=λvs H Q _=>∃(b:ar×ar×List aU)(W:VW)(S:PS)(R:Ax)(u:aU)(k:Int)(r:List V×List Bool×List Int),vs=[.ref b.1,.str u,.int k]/\WD K b H W S R/\WG S/\AS S u=some r/\0<=k/\k<r.1.length/\Q (.bl (BY r.1 r.2.1 k)) H
def Ol(K:UT):Sp:=λvs H Q _=>∃(b:ar×ar×List aU)(W:VW)(S:PS)(R:Ax)(i:Nat)(ln:Ln)(v:V)(d:PyData),vs=[.ref b.1,.str ln.num,v]/\WD K b H W S R/\WG S/\S.lns[i]?=some ln/\bA S ln.held/\Is K H v d/\Cs d=true/\∀H' W',WD K b H' W' (Ck S i ln d) R->Af H H'->Q .aa H'
def Om(K:UT):Sp:=λvs H Q _=>∃(b:ar×ar×List aU)(W:VW)(S:PS)(R:Ax)(u:aU)(r:List V×List Bool×List Int),vs=[.ref b.1,.str u]/\WD K b H W S R/\WG S/\AS S u=some r/\∀H' t,Ah H H'->H' t=some (.tup (IE S u r))->Q (.ref t) H'
def Fp:AM ["world","line","where","k"] ["world","line"] (Ab<|top 47):=.of
def AgE(F:AE K "_law_freed" "_law_freed" (top 47) f fd):Az P w K mg base Av 1 f fd ["world","line"] (Oi K):=by
 refine F.ok Fp.fs λai A outer s H vs Q E hr h=>?_
 .obtain ⟨b,W,S,R,i,ln,rfl,t,g,h,ha,q⟩:=h;show 4;have nd:=Fp.fs.nd;obtain⟨as,ea,pr⟩:=Au<|(t.ok.l i ln h).tr;have tl:=t.t.vl<|t.ok.fP h;rw[ea]at tl;refine⟨_,(@Ad _ _ _ _ _ (CM VZ rfl (Dk<|Aq P w K (Aq P w K (Aa 0 Fp) Ae) (Aa 1 Fp)) (FZ rfl<|BW (B9 2 Fp) (BW (B9 3 Fp) D7))<|Ai (El Cv<|Fw (Aq P w K (Aq P w K (Aa 0 Fp) Ae)<|Aa 2 Fp) (Aa 3 Fp) D0))<|Ai (Cc (VB (VF `x _) hu) (Aq P w K (Aa 0 Fp) Ae) (Aa 1 Fp) (A3 B3) rfl)),?_⟩;try dsimp only[av,aw]
  left;refine⟨⟨_,.of tl⟩,D8 (K:=K) (a:=W.la .ax ln.num) (xs:=as.map V.ref) (λn σ I=>∃u v D,σ=[some<|.ref b.1,some<|.str ln.num,u,v]/\WD K b I D (au S<|ln.held.take n) R/\Af H I/\D.la=W.la/\D.lv .ax=W.lv .ax) ⟨none,none,W,rfl,t,.refl,rfl,rfl⟩ (λn σ I _ ⟨_,_,D,_,B,_,J,L⟩=>?_) ?_ ?_⟩
  .have z:=B.t.vl<|B.ok.fP (i:=i) (by rw[Fm];exact h);rw[J,L,ea]at z;exact .of z
  .intro n v σ I hn O;replace O:=Gk O;obtain⟨u0,v0,D,rfl,B,Y,J,L⟩:=O;rw[Va]at hn;obtain⟨pt,hp,rfl⟩:=Au<|VH.mp hn;obtain⟨p,hk,et⟩:=Au<|(pr.aj Y).at hp;have hw:=NK ha hk;have g2:=g.au<|ln.held.take n;obtain⟨r,er,_⟩:=Au<|Tz g2 hw;left;refine CN pt _ rfl (.of et) rfl ?_;left;refine B.free g2 hw λH3 W3 t3 p3 e3=>?_;have oT:ln.held.take (n+1)=ln.held.take n++[p]:=by rw[WE,hk];rfl
   exact⟨_,_,W3,rfl,by rw[oT,NJ];exact t3,Y.trans p3,e3.1.trans J,e3.2.trans L⟩
  .intro σ I O;replace O:=Dg O;obtain⟨u0,v0,D,rfl,B,Y,_⟩:=O;rw[UW,pr.len,Wi]at B;have h2:(au S ln.held).lns[i]?=some ln:=by rw[Fm];exact h
   have B:=B.at h2;ext;walk_at "n";left;refine WD.pY ‹_› h2 (as:=[]) (hd:=[]) trivial λH3 W3 t _=>q H3 W3 ?_ (by walk_at "p");rw[show CB S i ln=(au S ln.held).aL i { ln with held:=[] } by unfold CB;rw[<-Fm ln.held S]];exact t
def HP:AM ["world","where","k"] ["world","where","k"] (Ab<|top 48):=.of
def AgF(F:AE K "_law_free_at" "_law_free_at" (top 48) f fd):Az P w K mg base Av 1 f fd ["world","where","k"] (Oj K):=by
 refine F.ok HP.fs λO A outer s H vs Q E Y h=>?_
 .obtain ⟨b,W,S,R,u,k,r,rfl,t,g,B,k0,k1,q⟩:=h;obtain⟨l1,_,_⟩:=AU<|LN g B;obtain⟨v,hv⟩:∃v,r.1[k.toNat]?=some v:=⟨_,Vi<|(by omega)⟩;obtain⟨c,hc⟩:∃c,r.2.1[k.toNat]?=some c:=⟨_,Vi<|(by omega)⟩;have I:∀{l:List V}{x:V},l[k.toNat]?=some x->Cd l k=some x:=λh=>by have:=FC h;rwa [show((k.toNat:Nat):Int)=k by omega]at this
  obtain⟨v',J,L⟩:=Au<|Oh g B hv;rw[show BY r.1 r.2.1 k=(decide (v=.aa) && !c) by unfold BY;rw[Vt,Vt,hv,hc];rfl]at q;refine⟨_,(@Ai _ _ _<|AB (Pf (K8 Gw (AN AO (Aq P w K (Aq P w K (Aa 0 HP) Ae)<|Aa 1 HP) (Aa 2 HP) λ_ _=>rfl) Cv)<|Mh (Mi<|AN AO (Aq P w K (Aq P w K (Aa 0 HP) Ae)<|Aa 1 HP) (Aa 2 HP) (λ_ _=>rfl)))),?_⟩;try dsimp only[av,aw]
  left;refine U6<|Cq (.of<|t.aE B) (I J) ?_;rcases L with ⟨D,rfl⟩|⟨D,z,rfl,_⟩
  .left;refine U6<|Bx _ _ k _ rfl rfl (.of<|t.aM B) (I<|by rw[Va,hc];rfl) ?_;rw[D]at q;exact⟨_,rfl,q⟩
  .rw[cN D]at q;ext;rwa[ck λc=>absurd (of_decide_eq_true c) λe=>(nomatch e)]
def GZ:AM ["world","line","why"] ["world","line","why"] (Ab<|top 51):=.of
def AgG:Gm (Ab<|top 51) "_law_freed":=.of
def AgH(F:AE K "_law_ended" "_law_ended" (top 51) f fd)(J:Bt P w K mg base Av 1 "_law_freed" ["world","line"] (Oi K)):Az P w K mg base Av 2 f fd ["world","line","why"] (Ol K):=by
 refine F.ok GZ.fs λai A outer s H vs Q E D h=>?_
 .obtain ⟨b,W,S,R,i,ln,v,d,rfl,t,g,h,L,O,I,q⟩:=h;have hu:=D.units;refine⟨_,(@Ad _ _ _ _ _ (A4<|A9 J AgG D.d AK (AJ (Aa 0 GZ)<|Aa 1 GZ))<|Ad (Cc (VB (VF `x _) hu) (Aq P w K (Aa 0 GZ) Ae) (Aa 1 GZ) Ae rfl) (Ai<|Cc (VB (VF `x _) hu) (Aq P w K (Aa 0 GZ) Ae) (Aa 1 GZ) (Aa 2 GZ) rfl)),?_⟩;try dsimp only[av,aw]
  ext;show 3;refine EH b W S R i ln rfl ⟨t,g,h,L,λV Y B p1=>?_⟩;have B:WD K b V Y ((au S ln.held).aL i { ln with held:=[] }) R:=by unfold CB at B;rwa[<-Fm ln.held S]at B
  have h1:(au S ln.held).lns[i]?=some ln:=by rwa[Fm]
  left;rename_i p2
  refine WD.tU ‹_› h1 (Is.aj _ I O<|p1.trans p2) I λH3 W3 t3 p3=>q H3 W3 ?_ (by walk_at "p");rw[show Ck S i ln d=(au S ln.held).aL i { ln with held:=[],st:="told",why:=d } by unfold Ck CB;dsimp only[PS.aL];rw[<-Fm ln.held S]];exact t3
def DU:AM ["world","where","told","k","word"] ["world","where"] (Ab<|top 50):=.of
def AgI:Gm (Ab<|top 50) "tuple":=.of
def AgJ:Gm (Ab<|top 50) "range":=.of
def AgK:Gm (Ab<|top 50) "len":=.of
def AgL:Gm (Ab<|top 50) "int":=.of
def AgM(F:AE K "_law_paper" "_law_paper" (top 50) f fd)(T:TxtH P w K mg a):Az P w K mg base Av 1 f fd ["world","where"] (Om K):=by
 refine F.ok DU.fs λai A outer s H vs Q E hr h=>?_
 .obtain ⟨b,W,S,R,u,r,rfl,t,g,D,q⟩:=h;show 4;have nd:=DU.fs.nd;obtain⟨l1,_,l3⟩:=AU<|LN g D;refine⟨_,(@Ad _ _ _ _ _ (A8 2 DU<|A3 B3)<|Ad (CM VZ rfl (Hk AgJ T.cQ<|Ag (Bo B8 AgK T.aR B0<|Ag (Aq P w K (Aq P w K (Aa 0 DU) Ae)<|Aa 1 DU))) (B9 3 DU)<|Ad (A8 4 DU<|AN AO (A3<|AJ Ae Ae) (CO MW AgL T.nS My<|Ag (AN AO (Aq P w K (Aq P w K (Aa 0 DU) Ae)<|Aa 1 DU) (Aa 3 DU) λ_ _=>rfl)) (λ_ _=>rfl)) (Ai<|A4 (Ci VR Wb Wc Dl (Aa 2 DU)<|Ag (Ad3 (AN AO (Aq P w K (Aq P w K (Aa 0 DU) Ae)<|Aa 1 DU) (Aa 3 DU) λ_ _=>rfl)<|Mh (Aa 4 DU))))) (Ai<|AB (CO KG AgI T.jv KL<|Ag (Aa 2 DU)))),?_⟩;try dsimp only[av,aw]
  show⟨Am,λl H1 J=>?_⟩;have t1:=t.same J.same;left;refine U4<|Bb _ _ rfl (.inl<|.of (t1.aE D)) ?_;rw[IK];show⟨by omega,by omega,Jh (n:=r.1.length) (λi σ Y=>∃x y,σ=[some<|.ref b.1,some<|.str u,some<|.ref l,x,y]/\Ah H Y/\Y l=some (.lst<|Cy (CJ S u r.1) (λk=>r.2.1.getD k false) i)) ⟨none,none,rfl,J.same,J.get⟩ ?_ ?_⟩
  .intro i σ Y hi zq;replace zq:=BB zq;obtain⟨x,y,rfl,L,hL⟩:=zq;simp only[YK];have t2:=t.same L;obtain⟨v,hv⟩:∃v,r.1[i]?=some v:=⟨_,Vi hi⟩;obtain⟨c,hc⟩:∃c,r.2.1[i]?=some c:=⟨_,Vi<|(by omega)⟩;obtain⟨v',a1,a2⟩:=Au<|Oh g D hv;show⟨Am,λl2 H2 O=>?_⟩;have t3:=t2.same O.same;have bJ:=O.same _ _ hL;left;refine U6<|Bx _ _ i _ rfl rfl (.of<|t3.aM D) (FC<|by rw[Va,hc];rfl) ?_;show U6 (C5 c rfl ?_);show U6 (Bx l2 _ _ (.str (if c then "stuck" else "free")) rfl rfl (.of O.get) (by cases c<;>rfl) ?_);show⟨.inl ⟨rfl,_,.of bJ⟩,?_⟩;left;refine U6<|Cq (.of<|t3.aE D) (FC a1) ?_;have I:∀x,x=(if v'=.aa then(if c=true then V.str "stuck" else V.str "free")else v')->∃x1 y1,([some<|.ref b.1,some<|.str u,some<|.ref l,some<|.int i,some<|.str (if c then "stuck" else "free")]:St)=[some<|.ref b.1,some<|.str u,some<|.ref l,x1,y1]/\Ah H (upd H2 l<|.lst (Cy (CJ S u r.1) (λk=>r.2.1.getD k false) i++[x]))/\(upd H2 l<|.lst (Cy (CJ S u r.1) (λk=>r.2.1.getD k false) i++[x])) l=some (.lst<|Cy (CJ S u r.1) (λk=>r.2.1.getD k false) (i+1)):=λx e=>⟨_,_,rfl,(L.trans O.same).bq J.n,by rw[Ao,Nt,Vt,Vt,a1,hc,e];rfl⟩;have B:(Cy (CJ S u r.1) (λk=>r.2.1.getD k false) i).length<sizeLine:=by unfold Cy;rw[UW,Xu,U0];omega
   rcases a2 with ⟨z1,rfl⟩|⟨z1,z,rfl,z0,zk⟩
   .refine C5 false rfl ?_;rw[ck VG];ext;exact⟨l,_,_,rfl,rfl,bJ,B,I _<|by cases c<;>rfl⟩
   .refine ⟨true,⟨by have z20:=zk.2;rw[U0];omega,by have:((z.length:Int) != 0)=true:=(bne_iff_ne ..).mpr (by omega);exact this.symm⟩,?_⟩;rw[bf rfl];ext;exact⟨l,_,_,rfl,rfl,bJ,B,I _<|by rw[ck λe=>(nomatch e)]⟩
  .intro σ H2 zq;replace zq:=BB zq;obtain⟨x,y,rfl,L,hL⟩:=zq;show EG l _ rfl (.inl ⟨.of hL,λtt nt=>q _ tt (L.upd nt) ?_⟩);rw[Ao];rfl
def FT:AS S (U3 "")=some (S.sk.hs,S.sk.js,S.sk.ts):=bf rfl
def AgN{S:PS}{i:Nat}{ln:Ln}(h:S.lns[i]?=some ln):Eg S (.int i)=.str ln.num:=by rw[Oc,XI,Va,h];rfl
def TB(zs:List aU):(zs.map V.str).all D1=true:=by rw[WL];intro y B;obtain⟨_,_,rfl⟩:=Au<|Ve.mp B;rfl
section
variable {K:UT}{b:ar×ar×List aU}{H:Hp}{W:VW}{S:PS}{R:Ax}{i:Nat}{ln:Ln}{u:aU}{k:Int}{D:Hp->Prop}
def TC:∀w,w≠U3 ""->AS { S with sk:=s } w=AS S w:=λw n=>by unfold AS;rw[ck n,ck n];rfl
def WD.ab3(t:WD K b H W S R)(h:S.lns[i]?=some ln)(k0:0<=k)(k1:k<S.sk.hs.length)(c:∀B I,WD K b B I { S with sk:={ S.sk with hs:=S.sk.hs.set k.toNat (.int i) } } R->Af H B->D B):∃p xs a j,V.ref (W.la .aE<|U3 "")=.ref p/\V.int k=.int a/\H p=some (.lst xs)/\CY xs.length a=some j/\D (upd H p<|.lst (xs.set j<|.str ln.num)):=by obtain⟨J,L,O⟩:=AU<|t.ok.r _ _ FT;exact t.iE FT `x k0 (by rwa[J,IK]) (S':={ S with sk:={ S.sk with hs:=S.sk.hs.set k.toNat (.int i) } }) FT ⟨rfl,rfl,rfl,rfl⟩ ⟨rfl,rfl,rfl⟩ TC ⟨by rw[Df,J];unfold CJ;rw[bf rfl,bf rfl,V0,AgN h],L,O⟩ λB I t p _=>c B I t p
def WD.ab4(t:WD K b H W S R)(x:Int)(k0:0<=k)(k1:k<S.sk.ts.length)(c:∀B I,WD K b B I { S with sk:={ S.sk with ts:=S.sk.ts.set k.toNat x } } R->Af H B->D B):∃p xs a j,V.ref (W.la .shr<|U3 "")=.ref p/\V.int k=.int a/\H p=some (.lst xs)/\CY xs.length a=some j/\D (upd H p<|.lst (xs.set j<|.int x)):=by obtain⟨L,O,J⟩:=AU<|t.ok.r _ _ FT;exact t.iE FT `x k0 (by rwa[J,UW]) (S':={ S with sk:={ S.sk with ts:=S.sk.ts.set k.toNat x } }) FT ⟨rfl,rfl,rfl,rfl⟩ ⟨rfl,rfl,rfl⟩ TC ⟨L,O,by rw[Df,J,V0]⟩ λB I t p _=>c B I t p
end
def TF(K:UT):Sp:=λvs H Q _=>∃(b:ar×ar×List aU)(W:VW)(S:PS)(R:Ax),vs=[.ref b.1]/\WD K b H W S R/\WF S/\∀H' W' r xs,WD K b H' W' (Cz S).2 ((r,.lst (xs.map V.ref))::R)->Af H H'->BV K H' xs (Cz S).1->Q (.ref r) H'
def TH:EE ["world","told","many","some","line","place","went"] ["world"] (Ab<|top 49):=.of
def EB:Dw (Ab<|top 49) "world":=(by walk_at "k")
def LO:Nm (Ab<|top 49) "told":=.of
def Oo:Dw (Ab<|top 49) "many":=(by walk_at "k")
def EO:Nm (Ab<|top 49) "some":=.of
def IL:Nm (Ab<|top 49) "line":=.of
def Oq:Nm (Ab<|top 49) "place":=.of
def Ot:Nm (Ab<|top 49) "went":=.of
def TK:Gm (Ab<|top 49) "len":=.of
def AgO:Gm (Ab<|top 49) "range":=.of
noncomputable def LP:Scope:={ kind:=.function,names:=[(".0",.local),("k",.local),("_law_free_at",.globalImplicit),("world",.free)],isGenerator:=false,isCoroutine:=false,more:=[] }
def TL:Bl LP (Ab<|top 49) ["k","world"] ["world","told","many","some","line","place","went"] [none,some 0]:=(Bl.mk' rfl `o `o `o `o rfl<|(by decide +kernel))
def Ou:Nm LP "k":=.of
def AgP:DF LP "world":=(by walk_at "k")
def AgQ:Gm LP "_law_free_at":=.of
noncomputable def LQ:Scope:={ kind:=.function,names:=[(".0",.local),("far",.local),("many",.free),("world",.free)],isGenerator:=false,isCoroutine:=false,more:=[] }
def TM:Bl LQ (Ab<|top 49) ["far","many","world"] ["world","told","many","some","line","place","went"] [none,some 2,some 0]:=(Bl.mk' rfl `o `o `o `o rfl<|(by decide +kernel))
def TN:Nm LQ "far":=.of
def AgR:DF LQ "many":=(by walk_at "k")
def AgS:DF LQ "world":=(by walk_at "k")
def AgT(F:AE K "_law_tones" "_law_tones" (top 49) f fd)(T:TxtH P w K mg a)(iF:Bt P w K mg base Av 1 "_law_free_at" ["world","where","k"] (Oj K)):Az P w K mg base Av 2 f fd ["world"] (TF K):=by
 refine F.ok TH λai A outer s H vs Q E hr h=>?_
 .obtain ⟨b,W0,J,R,rfl,t0,lG,q⟩:=h;show 4;have nd:=TH.nd;have ls0:=lG.g.so.ls;have zz0:=lG.g.so.z;refine⟨_,(@Ad _ _ _ _ _ (Dm 1 nd LO<|A3 B3)<|Ad (Hm 2 nd Oo<|Bo B8 TK T.aR B0 (Ag<|Aq P w K (AQ 0 EB) Ae)) (Ad (Pq VZ (A1 (E8 hu) (Aq P w K (AQ 0 EB) Ae)<|A3 B3)<|Ad (Hl (j:=3) rfl nd rfl (U6 EO.loc) TM (Hk AgO T.cQ<|Ag (AQ 2 Oo)) (λcl C fp π s₂ H₂=>(Cf 0 TM.nd TN.comp)) (λcl C fp π s₂ H₂=>GH) (λcl C fp π s₂ H₂=>(Ar BC (Ar BL (Aq P w K (DE 2 AgS.comp) Ae)<|Ap 0 TN.comp)<|DE 1 AgR.comp)) (by rfl) (by intro _;rfl)<|U6 rfl) (Ad (Hl (j:=3) rfl nd rfl (U6 EO.loc) TL (Dk<|Ap 3 EO) (λcl C fp π s₂ H₂=>(Cf 0 TL.nd Ou.comp)) (λcl C fp π s₂ H₂=>(GI<|Dj (A9 iF AgQ.comp hr.d AK<|A0 (DE 1 AgP.comp) Ae (Ap 0 Ou.comp)))) (λcl C fp π s₂ H₂=>(Ap 0 Ou.comp)) (by rfl) (by intro _;rfl)<|U6 rfl)<|Ad (AV (A1 (B5 hu) (Ap 3 EO)<|A3 B3)<|Ai (AB<|Ap 1 LO)) (Ad (Dm 4 nd IL<|Ci VR zt zu Qs (Aq P w K (AQ 0 EB) Ae) (Ag Aj))<|Ad (Dm 5 nd Oq<|Ci VR PySem.F.slot_list_index PySem.F.type_list_index Ad1 (Aq P w K (AQ 0 EB) Ae) (Ag<|Ap 4 IL)) (Ad (Dm 6 nd Ot<|Ar BC (Ar DZ (Ap 5 Oq)<|AN AO (Aq P w K (AQ 0 EB) Ae) (AN AO (Ap 3 EO) Aj λ_ _=>rfl) (λ_ _=>rfl)) (Bo B8 TK T.aR B0<|Ag (Aq P w K (AQ 0 EB) Ae)))<|Ad (El (Ap 5 Oq)<|Fw (Aq P w K (AQ 0 EB) Ae) (AN AO (Ap 3 EO) Aj λ_ _=>rfl) D0) (Ad (Jd (Aq P w K (AQ 0 EB) Ae) (AN AO (Ap 3 EO) Aj λ_ _=>rfl) JA (Ap 6 Ot) Je D0)<|Ad (Cc (VB (VF `x _) hu) (AQ 0 EB) Ae (Ar BC (Ar BL (AN AO (Ap 3 EO) Aj λ_ _=>rfl) Aj)<|AQ 2 Oo) rfl) (Ad (El (Ap 4 IL)<|Fw (Aq P w K (Aq P w K (AQ 0 EB) Ae) Ae) (AN AO (Ap 3 EO) Aj λ_ _=>rfl) D0)<|Ad (Jd (Aq P w K (Aq P w K (AQ 0 EB) Ae) Ae) (AN AO (Ap 3 EO) Aj λ_ _=>rfl) JA Aj Je D0) (Ad (Cc (VB (VF `x _) hu) (Aq P w K (AQ 0 EB) Ae) (Ap 4 IL) Ae rfl)<|Ad (Cc (VB (VF `x _) hu) (Aq P w K (AQ 0 EB) Ae) (Ap 4 IL) (A3<|Ag (Bp<|AJ Ae (AN AO (Ap 3 EO) Aj λ_ _=>rfl))) rfl) (Ai<|A4 (Ci VR Wb Wc Dl (Ap 1 LO)<|Ag (Bp<|Co Ae (A0 (Ap 4 IL) (AN AO (Ap 3 EO) Aj λ_ _=>rfl)<|Ap 6 Ot)))))))))))<|Ai (AB<|Ap 1 LO))),?_⟩;try dsimp only[av,aw]
  have aZ:start ["world","told","many","some","line","place","went"] [V.ref b.1]=[some<|.ref b.1,none,none,none,none,none,none]:=rfl;simp only[aZ,WQ,WR];show⟨Am,λr H1 n1=>?_⟩;have t1:=t0.new n1;left;refine U4<|Bb _ _ rfl (.inl<|.of t1.sp) ?_;rw[UW,ls0];show⟨λm σ H2=>∃x3 x4 x5 x6 W2 B xs tl,σ=[some<|.ref b.1,some<|.ref r,some<|.int J.sk.hs.length,x3,x4,x5,x6]/\WD K b H2 W2 B ((r,.lst<|(xs.map V.ref))::R)/\WF B/\B.sk.hs.length=J.sk.hs.length/\Af H H2/\BV K H2 xs tl/\m=B.q.length/\xs.length+m<=100/\Cz J=(tl++(aK m B).1,(aK m B).2),⟨J.q.length,none,none,none,none,W0,J,[],[],rfl,t1,lG,rfl,.of n1.same,.nil,rfl,by have:=lG.g.e9;simp only[ZN];omega,rfl⟩,?_⟩;intro m σ H2 O;obtain⟨x3,x4,x5,x6,W2,B,xs,tl,rfl,t2,L,bZ,p2,gC,rfl,eO,Y⟩:=O;obtain⟨ly,dp⟩:=Oe λz hz=>(L.g.tx z<|L.g.cq z hz).1.1;left;refine⟨Am,λle H3 n3=>?_⟩;have t3:=t2.same n3.same;refine U4 ⟨.list<|B.q.map Xc,.list [],.lst (.of t3.q)<|II B.q,.lst (.of n3.get) .nil,ly,rfl,(by rw[J8];omega),?_⟩;cases eq:B.q with
  |nil =>
   have e0:Cz J=(tl,B):=by rw[Y,eq];change(tl++[],B)=_;rw[V5]
   ext;exact q H3 W2 r xs (by rw[e0];exact t3) (p2.trans<|.of n3.same)<|by rw[e0];exact gC.aj<|.of n3.same
  |cons z rr =>
   rw [show Yo (.list<|(z::rr).map Xc) (.list [])=false from rfl];rw[eq]at Y eO;show B4 ?_;refine⟨_,λσ' H' h=>h,?_⟩;show⟨by omega,by omega,λD nD=>?_⟩;have m0:=L.g.m0;have m1:=L.g.m1;refine JC (lo:=0) (n:=J.sk.hs.length) (λi σ' H'=>∃x,σ'=[x,some<|.int J.sk.hs.length,some<|.ref b.1]/\Ah H3 H'/\H' D=some (.lst<|((VN i).map λ(f:Nat)=>(B.sk.mark+(f:Int))%(J.sk.hs.length:Int)).map V.int)) ⟨none,rfl,(Ah.refl H3).upd nD,Ao⟩ ?_ ?_
   .intro i σ' H' hi O;replace O:=AG O;obtain⟨x,rfl,sm,hL⟩:=O;simp only[YK];have t4:=t3.same sm;left;refine⟨_,hL,(by rw[UW,UW,Xu,U0];omega),_,rfl,sm.bq nD,?_⟩;rw[Ao,Zf,Vg,Vg];rfl
   intro σ' H4 O;replace O:=AG O;obtain⟨x,rfl,s4,hL⟩:=O;have t4:=t3.same s4;obtain⟨mk,pZ⟩:=Y9 m0;have qb:=Agw J.sk.hs.length mk (by omega);rw[pZ]at hL;generalize hO:(VN J.sk.hs.length).map (λ(f:Nat)=>((mk:Int)+(f:Int))%(J.sk.hs.length:Int))=ord at hL qb;have bS:Cw B.sk.hs B.sk.js B.sk.mark=(ord.filter<|BY B.sk.hs B.sk.js).head?:=by unfold Cw;rw[pZ,bZ,<-qb,zE]
   have ads:ord.length=J.sk.hs.length:=by rw[<-hO,UW,Xu]
   show⟨⟨_,.of hL⟩,λD2 iG=>?_⟩;refine KS (K:=K) (a:=D) (xs:=ord.map V.int) (λi σ' H'=>∃x,σ'=[x,some<|.ref b.1]/\Ah H4 H'/\H' D2=some (.lst<|((ord.take i).filter<|BY B.sk.hs B.sk.js).map V.int)) ⟨none,rfl,(Ah.refl H4).upd iG,Ao⟩ (λi σ H' _ ⟨_,_,sm,_⟩=>.of<|sm _ _ hL) ?_ ?_
   .intro i y σ' H' hi O;replace O:=AG O;obtain⟨x,rfl,sm,bJ⟩:=O;rw[Va]at hi;obtain⟨kk,hk,rfl⟩:=Au<|VH.mp hi;obtain⟨I,k1⟩:=RQ (n:=B.sk.hs.length) (by omega) (by omega) (show kk∈_ by rw[bZ,pZ,<-qb];exact Vh hk);have tf:=Tt (BY B.sk.hs B.sk.js) ord i kk hk;have fl:=V7 (Zg (BY B.sk.hs B.sk.js)<|ord.take i)<|zF i ord;ext;show 3;refine FG b W2 B _ (U3 "") kk _ rfl ⟨t4.same sm,L.g,FT,I,k1,?_⟩;cases hf:BY B.sk.hs B.sk.js kk with
    |false =>
     rw [hf]at tf;refine C5 false rfl<|BQ ⟨_,rfl,sm,?_⟩;rw[bJ,tf,ck<|(by decide),V5]
    |true =>
     rw [hf]at tf;refine C5 true rfl<|B4 ?_;show⟨_,bJ,(by rw[UW,U0];omega),_,rfl,sm.bq iG,?_⟩;rw[Ao,tf,bf rfl,Vg];rfl
   intro σ' H5 O;replace O:=AG O;obtain⟨x',rfl,s5,bJ⟩:=O;rw[UW,Wi]at bJ;show⟨Am,λle2 H6 n6=>?_⟩;have t6:=t4.add iG (s5.trans n6.same)<|n6.same _ _ bJ;have p6:Af H2 H6:=.of<|((n3.same.trans s4).trans s5).trans n6.same;cases tX:ord.filter (BY B.sk.hs B.sk.js) with
   |nil =>
    rw [tX]at t6 bS;have et:Ex B=none:=by unfold Ex;rw[eq];dsimp only;rw[bS];rfl
    have e0:Cz J=(tl,B):=by rw[Y];change(tl++(aK (rr.length+1) B).1,(aK (rr.length+1) B).2)=_;unfold aK;rw[et];dsimp only;rw[V5]
    refine U4 ⟨.list [],.list [],.lst (.of t6.vr.hd) .nil,.lst (.of n6.get) .nil,rfl,rfl,(by decide),?_⟩;ext;exact q H6 W2 r xs (by rw[e0];exact t6.sub<|.cons _ (.refl _)) (p2.trans p6)<|by rw[e0];exact gC.aj p6
   |cons I rest =>
    rw [tX]at t6 bS;have bS:Cw B.sk.hs B.sk.js B.sk.mark=some I:=bS;obtain⟨⟨d3,iH⟩,_⟩:=GQ m0 (Z2 m1) bS;obtain⟨gK,tY⟩:=LM (I::rest);refine U4 ⟨.list<|(I::rest).map Wd,.list [],.lst (.of t6.vr.hd)<|GX (I::rest),.lst (.of n6.get) .nil,gK,rfl,(by rw[J8];omega),?_⟩;rw[show Yo (.list<|(I::rest).map Wd) (.list [])=false from rfl];have tZ:z∈B.q:=by rw[eq];exact VJ
    obtain⟨ln,i1,i2⟩:=Au<|NM (L.g.cq z tZ);generalize hi:Bf B.lns z=i at i1;subst i2;obtain⟨q1,q2,q3,q4⟩:=AU<|(L.l i ln i1).jQ tZ;have et:=Sw eq bS (by rw[hi];exact i1);rw[hi]at et;have aI:∀{l:List Int},l.length=B.sk.hs.length->Cd (l.map V.int) I=some (.int<|l.getD I.toNat 0):=λ{l} hl=>by
     rw [<-show((I.toNat:Nat):Int)=I by omega];exact FC<|by rw[Va,XI,Vt,Vi<|(by omega)];rfl
    obtain⟨so1,ua,kT,ub,_⟩:=L.g.so;left;refine⟨.inl ⟨rfl,_,.of t6.q⟩,?_⟩;show t6.ab0 eq λH7 W7 t7 p7=>?_;left;refine⟨.inl ⟨rfl,_,.of t7.lns⟩,?_⟩;show Ep _ _ (.str ln.num) i rfl ⟨rfl,t7.lns,rfl,TB _,⟨.str ln.num,by rw[Va,Va,i1];rfl,by rw[Tw];exact cx rfl⟩,λm y hm hy=>?_,?_⟩
    .rw[Va,Va]at hy;obtain⟨_,e0,rfl⟩:=Au<|VH.mp hy;obtain⟨lm,e1,rfl⟩:=Au<|VH.mp e0;rw[Tw];exact cN<|Ga L.g.num e1 i1 (by omega)
    left;refine U6<|Cq (.of t7.sp) (aI kT) ?_;left;refine U4<|Bb _ _ rfl (.inl<|.of t7.lns) ?_;rw[show((((B.lns.map (·.num)).map V.str).length:Nat):Int)=B.sk.places by rw[UW,UW,L.g.pl]];refine CN _ _ rfl rfl (by rw[L.g.pl];have:=L.g.pos;omega) ?_;left;refine t7.wSp i d3 (by rw[kT];exact iH) λH8 W8 t8 p8=>?_;left;refine Be _ _ I _ rfl rfl d3 (.of t8.st) (aI ub) ?_;show t8.wSt _ d3 (by rw[ub];exact iH) λH9 W9 t9 p9=>?_;left;refine t9.ab1 λcV W10 iI uc=>?_;left;refine iI.ab3 i1 d3 iH λfj W11 ud p11=>?_;left;refine Be _ _ I _ rfl rfl d3 (.of<|ud.shr FT) (aI ua) ?_;show ud.ab4 _ d3 (by rw[ua];exact iH) λfQ W12 iJ qc=>?_;have iJ:=iJ.at i1;left;rename_i p13
    refine⟨Am,λu ue gL=>?_⟩;have t14:=WD.same ‹_› gL.same;refine⟨Am,λl H15 qd=>?_⟩;have t15:=t14.new qd;have p15:=Af.of<|gL.same.trans qd.same;left;refine t15.pY i1 (as:=[u]) (hd:=[(U3 "",I)]) ⟨qd.same _ _ gL.get,trivial⟩ λH16 W16 uf p16=>?_;show⟨.inl ⟨rfl,_,.of uf.vr.tl.hd⟩,?_⟩;left;refine⟨Am,λv jW qe=>?_⟩;have ug:=(uf.same qe.same).sub<|.cons _ (.refl _);show CZ r _ _ rfl rfl ug.vr.hd (by rw[UW,U0];rw[VX]at eO;omega) ?_;obtain⟨qg,uh⟩:=ug.set (o':=.lst<|(xs++[v]).map V.ref) rfl;rw[show(xs.map V.ref++[V.ref v])=(xs++[v]).map V.ref by rw[Vg];rfl];have p17:=Af.of qe.same;have pA:Af H2 jW:=by walk_at "p"
    have eL:({ AW ln "dials" with held:=ln.held++[((U3 ""),I)] }:Ln)={ ln with st:="dials",held:=[(U3 "",I)] }:=by unfold AW;rw[q2,q3,q4.1,q4.2.1,q4.2.2];rfl
    have qg:WD K b (upd jW r<|.lst ((xs++[v]).map V.ref)) W16 { B with q:=rr,lns:=B.lns.set i { AW ln "dials" with held:=ln.held++[((U3 ""),I)] },sk:=bG B.sk I i } ((r,.lst<|(xs++[v]).map V.ref)::R):=by rw[eL];unfold bG;rw[bZ];exact qg
    refine  ⟨rr.length,YA _,_,_,_,_,_,_,xs++[v],tl++[.tuple [.str "tone",.str ln.num,.int I,.int<|((i:Int)-B.sk.st.getD I.toNat 0)%B.sk.places]],rfl,qg,L.jR et,(by change(B.sk.hs.set _ _).length=_;rw[Vm];exact bZ),p2.trans<|pA.trans uh,((gC.aj pA).app<|.one (.tup (.of qe.get)<|.cons (.str _) (.cons (.str _)<|.cons (.int _) (.cons (.int _) .nil))) rfl).aj uh,rfl,(by rw[VA,Wa];rw[VX]at eO;omega),?_⟩;have jM:∀n,aK (n+1) B=_:=λn=>by unfold aK;rw[et]
    rw [Y,VX,jM,Vj];rfl
def AgU (h:1<=n/\n<=10):(toString (n%10):aU)=Ef n:=by
 have B:n=1\/n=2\/n=3\/n=4\/n=5\/n=6\/n=7\/n=8\/n=9\/n=10:=(by omega)
 rcases B with rfl|rfl|rfl|rfl|rfl|rfl|rfl|rfl|rfl|rfl<;>decide +kernel
def AgV(n:Nat):BR 0 (n:Int)++BR 0 0=(VN n).map λ(k:Nat)=>(k:Int):=by unfold BR;simp
structure TxtW(P:UZ)(w:UU)(K:UT)(mg:aU->Option af)(a:An):Prop extends TxtG P w K mg a where
 ui:mg "str"=none
noncomputable abbrev PS.fR(S:PS)(z:aU)(h:Gr->Gr):PS:={ S with az:=S.az.map λg=>if g.pre=z then h g else g }
def TQ (B:∀g,(h g).pre=g.pre)(D:z≠U3 "")(H:BK S z=some g):AS (S.fR z h) z=some ((h g).hs,(h g).js,(h g).ts)/\∀u,u≠z->AS (S.fR z h) u=AS S u:=by
 unfold AS;refine⟨?_,λu n=>?_⟩
 .rw[ck D,FP B,H];simp only[Wh,if_true]
 .by_cases d:u=U3 ""
  .rw[bf d,bf d]
  .rw[ck d,ck d,FP B];cases BK S u with
   |none=>rfl
   |some g=>rw[Wh,ck n]
def AgW{S:PS}{z:aU}{h h':Gr->Gr}(B:∀g,(h g).pre=g.pre):(S.fR z h).fR z h'=S.fR z λg=>h' (h g):=by
 apply congrArg (λl=>({ S with az:=l }:PS));change V1 _ (V1 _ _)=_;rw[Vn];refine Wq λg _=>?_;change(if (if g.pre=z then h g else g).pre=z then _ else _)=_;by_cases c:g.pre=z
 .simp only[c,if_true,B]
 .simp only[c,if_false]
section
variable {K:UT}{b:ar×ar×List aU}{H:Hp}{W:VW}{S:PS}{R:Ax}{z:aU}{k:Int}{g:Gr}{D:Hp->Prop}
def LR(B:z≠U3 "")(I:BK S z=some g):AS S z=some (g.hs,g.js,g.ts):=by unfold AS;rw[ck B,I];rfl
def WD.ab5(t:WD K b H W S R)(I:z≠U3 "")(L:BK S z=some g)(v:V)(k0:0<=k)(k1:k<g.hs.length)(c:∀B J,WD K b B J (S.fR z λg=>{ g with hs:=g.hs.set k.toNat v }) R->Af H B->D B):∃p xs a j,V.ref (W.la .aE z)=.ref p/\V.int k=.int a/\H p=some (.lst xs)/\CY xs.length a=some j/\D (upd H p<|.lst (xs.set j v)):=by have O:=LR I L;obtain⟨Y,e2,e3⟩:=AU<|t.ok.r _ _ O;obtain⟨r1,r2⟩:=TQ (h:=λg=>{ g with hs:=g.hs.set k.toNat v }) (λ_=>rfl) I L;exact t.iE O `x k0 (by rwa[Y,IK]) r1 ⟨rfl,rfl,rfl,rfl⟩ ⟨rfl,rfl,rfl⟩ r2 ⟨by rw[Df,Y];unfold CJ;rw[ck I,ck I],e2,e3⟩ λB J t p _=>c B J t p
def WD.ab6(t:WD K b H W S R)(J:z≠U3 "")(L:BK S z=some g)(x:Gr->Int)(k0:0<=k)(k1:k<g.ts.length)(c:∀B I,WD K b B I (S.fR z λg=>{ g with ts:=g.ts.set k.toNat (x g) }) R->Af H B->D B):∃p xs a j,V.ref (W.la .shr z)=.ref p/\V.int k=.int a/\H p=some (.lst xs)/\CY xs.length a=some j/\D (upd H p<|.lst (xs.set j<|.int (x g))):=by have O:=LR J L;obtain⟨e1,e2,Y⟩:=AU<|t.ok.r _ _ O;obtain⟨r1,r2⟩:=TQ (h:=λg=>{ g with ts:=g.ts.set k.toNat (x g) }) (λ_=>rfl) J L;exact t.iE O `x k0 (by rwa[Y,UW]) r1 ⟨rfl,rfl,rfl,rfl⟩ ⟨rfl,rfl,rfl⟩ r2 ⟨e1,e2,by rw[Df,Y,V0]⟩ λB I t p _=>c B I t p
end
def TR(K:UT):Sp:=λvs H Q _=>∃(b:ar×ar×List aU)(W:VW)(S:PS)(R:Ax)(i:Nat)(ln:Ln),vs=[.ref b.1,.str ln.num]/\WD K b H W S R/\WF S/\S.lns[i]?=some ln/\ln.st=By.aV.s/\ln.ag≠0 /\
 ∀H' W' c,WD K b H' W' (Dr S i ln).2 R->Af H H'->Is K H' (.ref c) (Dr S i ln).1->Q (.ref c) H'
def TU:EE ["world","line","figures","some","why"] ["world","line"] (Ab<|top 52):=.of
def CT:Dw (Ab<|top 52) "world":=(by walk_at "k")
def Dz:Nm (Ab<|top 52) "line":=.of
def CK:Dw (Ab<|top 52) "figures":=(by walk_at "k")
def IM:Nm (Ab<|top 52) "some":=.of
def IP:Nm (Ab<|top 52) "why":=.of
def Ov:Gm (Ab<|top 52) "_law_ended":=.of
def Ow:Gm (Ab<|top 52) "len":=.of
def AgX:Gm (Ab<|top 52) "_law_paper":=.of
def AgY:Gm (Ab<|top 52) "range":=.of
def AgZ:Gm (Ab<|top 52) "str":=.of
noncomputable def Ka:Scope:={ kind:=.function,names:=[(".0",.local),("k",.local),("_law_free_at",.globalImplicit),("figures",.free),("world",.free)],isGenerator:=false,isCoroutine:=false,more:=[] }
def TV:Bl Ka (Ab<|top 52) ["k","world","figures"] ["world","line","figures","some","why"] [none,some 0,some 2]:=(Bl.mk' rfl `o `o `o `o rfl<|(by decide +kernel))
def Ox:Nm Ka "k":=.of
def Ag0:DF Ka "world":=(by walk_at "k")
def Ag1:DF Ka "figures":=(by walk_at "k")
def Ag2:Gm Ka "_law_free_at":=.of
def Ag3(F:AE K "_law_gap" "_law_gap" (top 52) f fd)(T:TxtW P w K mg a)(iF:Bt P w K mg base Av 1 "_law_free_at" ["world","where","k"] (Oj K))(fS:Bt P w K mg base Av 2 "_law_ended" ["world","line","why"] (Ol K))(iK:Bt P w K mg base Av 1 "_law_paper" ["world","where"] (Om K)):Az P w K mg base Av 3 f fd ["world","line"] (TR K):=by
 refine F.ok TU λai A outer s H vs Q E hr h=>?_
 .obtain ⟨b,W,S,R,i,ln,rfl,t,wf,h,ev,p0,q⟩:=h;show 4;have nd:=TU.nd;obtain⟨y1,y2,⟨y3,y4⟩,y5,y6⟩:=AU<|(wf.l i ln h).way ev;have hp:1<=ln.ag/\ln.ag<=10:=by omega
  have hi9:=wf.g.hi;have uj:=wf.g.lo;have ef:(Ak ln).ae=ln.ae++Ef ln.ag:=rfl;have lf:(Ak ln).ae.length=ln.ae.length+1:=by rw[ef,Bh,JY hp]
  have iL:(Ak ln).ae≠U3 "":=Th hp _;have t:=t.at h;refine⟨_,(@Ad _ _ _ _ _ (Hm 2 nd CK<|Ar BL (Aq P w K (Aq P w K (AQ 0 CT) Ae)<|Ap 1 Dz) (CO AaY AgZ T.ui QK<|Ag (Ar BC (Aq P w K (Aq P w K (AQ 0 CT) Ae)<|Ap 1 Dz) Aj)))<|Ad (Cc (VB (VF `x _) hu) (Aq P w K (AQ 0 CT) Ae) (Ap 1 Dz) (AQ 2 CK) rfl) (Ad (Cc (VB (VF `x _) hu) (Aq P w K (AQ 0 CT) Ae) (Ap 1 Dz) Aj rfl)<|Ad (AV (A1 (B5 hu) (Bo B8 Ow T.aR B0<|Ag (AQ 2 CK))<|Ar DZ (Aq P w K (AQ 0 CT) Ae) Aj)<|Ai (AB<|Bp (A0 Ae (Ap 1 Dz)<|AQ 2 CK))) (Ad (AV (PW.pt<|Fv (Hn P w K (AQ 2 CK)<|Aq P w K (AQ 0 CT) Ae) (Gp<|Hn P w K (AQ 2 CK) (Aq P w K (AQ 0 CT) Ae)))<|Ad (A4<|A9 fS Ov hr.d AK (A0 (AQ 0 CT) (Ap 1 Dz)<|Bp (AJ Ae<|AQ 2 CK))) (Ai<|AB (Bp<|A0 Ae (Ap 1 Dz) (AQ 2 CK))))<|Ad (AV (A1 Jj (Bo B8 Ow T.aR B0<|Ag (AQ 2 CK))<|Aq P w K (AQ 0 CT) Ae)<|Ad (Hl (j:=3) rfl nd rfl (U6 IM.loc) TV (Hk AgY T.cQ<|Ag (Bo B8 Ow T.aR B0<|Ag (Aq P w K (Aq P w K (AQ 0 CT) Ae)<|AQ 2 CK))) (λcl C fp π s₂ H₂=>(Cf 0 TV.nd Ox.comp)) (λcl C fp π s₂ H₂=>(GI<|Dj (A9 iF Ag2.comp hr.d AK<|A0 (DE 1 Ag0.comp) (DE 2 Ag1.comp) (Ap 0 Ox.comp)))) (λcl C fp π s₂ H₂=>(Ap 0 Ox.comp)) (by rfl) (by intro _;rfl)<|U6 rfl) (Ad (AV (A1 (B5 hu) (Ap 3 IM)<|A3 B3)<|Ad (Dm 4 nd IP<|Bp (A0 Ae (AQ 2 CK)<|A9 iK AgX hr.d AK (AJ (AQ 0 CT)<|AQ 2 CK))) (Ad (A4<|A9 fS Ov hr.d AK (A0 (AQ 0 CT) (Ap 1 Dz)<|Ap 4 IP))<|Ai (AB<|Bp (A0 Ae (Ap 1 Dz)<|Ap 4 IP))))<|Ad (El (Ap 1 Dz)<|Fw (Aq P w K (Aq P w K (AQ 0 CT) Ae)<|AQ 2 CK) (AN AO (Ap 3 IM) Aj λ_ _=>rfl) D0) (Ad (Jd (Aq P w K (Aq P w K (AQ 0 CT) Ae)<|AQ 2 CK) (AN AO (Ap 3 IM) Aj λ_ _=>rfl) JA Aj Je D0)<|Ad (A4<|Ci VR Wb Wc Dl (Aq P w K (Aq P w K (AQ 0 CT) Ae)<|Ap 1 Dz) (Ag<|Bp (AJ (AQ 2 CK)<|AN AO (Ap 3 IM) Aj (λ_ _=>rfl)))) (Ai<|AB (Bp<|Co Ae (A0 (Ap 1 Dz) (AQ 2 CK)<|AN AO (Ap 3 IM) Aj (λ_ _=>rfl))))))) (Ad (AV (A1 (E8 hu) (Aq P w K (Aq P w K (AQ 0 CT) Ae)<|AQ 2 CK) Ae)<|Ad (Dm 4 nd IP<|Bp (A0 Ae (AQ 2 CK)<|Aq P w K (Aq P w K (AQ 0 CT) Ae) (AQ 2 CK))) (Ad (A4<|A9 fS Ov hr.d AK (A0 (AQ 0 CT) (Ap 1 Dz)<|Ap 4 IP))<|Ai (AB<|Bp (A0 Ae (Ap 1 Dz)<|Ap 4 IP))))<|Ad (Cc (VB (VF `x _) hu) (Aq P w K (AQ 0 CT) Ae) (AQ 2 CK) Ae rfl) (Ad (Cc (VB (VF `x _) hu) (Aq P w K (AQ 0 CT) Ae) (AQ 2 CK) (Ap 1 Dz) rfl)<|Ad (Cc (VB (VF `x _) hu) (Aq P w K (AQ 0 CT) Ae) (Ap 1 Dz) Ae rfl) (Ad (Cc (VB (VF `x _) hu) (Aq P w K (AQ 0 CT) Ae) (Ap 1 Dz) (AQ 2 CK) rfl)<|Ai (AB<|Bp (A0 Ae (Ap 1 Dz)<|AQ 2 CK)))))))),?_⟩;try dsimp only[av,aw]
  have aZ:start ["world","line","figures","some","why"] [V.ref b.1,V.str ln.num]=[some<|.ref b.1,some<|.str ln.num,none,none,none]:=rfl;simp only[aZ,WQ,WR];left;refine⟨(by
   have qh:ln.ag%10=0\/ln.ag%10=1\/ln.ag%10=2\/ln.ag%10=3\/ln.ag%10=4\/ln.ag%10=5\/ln.ag%10=6\/ln.ag%10=7\/ln.ag%10=8\/ln.ag%10=9:=by omega
   rcases qh with e|e|e|e|e|e|e|e|e|e<;>rw[e]<;>decide),?_⟩
  rw [show(toString (ln.ag%10):aU)=Ef ln.ag from AgU hp];refine U4<|U6 (CN _ _ rfl rfl (by rw[JY hp,U0];omega) ?_);rw[<-ef];left;rename_i H1 _ _ p1 _ _ H2 W2 I p2 _ _
  obtain⟨B,iM⟩:∃B:PS,B=S.aL i (Ak ln):=(⟨_,rfl⟩);have I:WD K b H2 W2 B R:=by rwa[iM]
  have Y:B.lns[i]?=some (Ak ln):=by rw[iM];exact B1 h
  have g1:WG B:=by rw[iM];exact wf.g.lns<|De (y:=Ak ln) h rfl
  have iN:bA B (Ak ln).held:=by rw[iM];exact(wf.pQ h ev).h
  have lo1:B.long=S.long:=by rw[iM]
  have fm:Dr S i ln=if ((Ak ln).ae.length:Int)<=S.long-2 then CQ B i (Ak ln) (Ak ln).ae else if ((Ak ln).ae.length:Int)<S.long then(.tuple [.str "figure",.str ln.num,.str (Ak ln).ae],B)else CP B i (Ak ln) (Ak ln).ae:=by rw[iM];rfl
  refine U6<|D5 _ rfl (by rw[U0];omega) ?_;show I.lE ?_;rw[lo1];ext;by_cases cA:((Ak ln).ae.length:Int)=S.long-1
  .rw[fm,ck<|(by omega),bf<|(by omega)]at q;rw[show decide (V.int ((Ak ln).ae.length:Int)=(λi j=>V.int<|i-j) S.long 1)=true from cx<|congrArg V.int cA];apply B4;ext;walk_at "t";exact q _ _ _ ‹_› (by walk_at "p")<|by walk_at "i"
  rw [show decide (V.int ((Ak ln).ae.length:Int)=(λi j=>V.int<|i-j) S.long 1)=false from cN λe=>cA<|V.int.inj e];apply BQ;show I.fld ?_;apply AZ _ _ (.inr (Ak ln).ae) rfl rfl (.of<|I.t.vk .aE);rw[I.tR,show(AS B (Ak ln).ae).isSome=(BK B (Ak ln).ae).isSome by unfold AS;rw[ck iL,yq]];by_cases cB:((Ak ln).ae.length:Int)<=S.long-2
  .rw[bf cB]at fm;have jX:(Ak ln).ae ∉ B.lns.map (·.num):=λm=>by have:=g1.tl _ m;omega
   cases O:BK B (Ak ln).ae with
   |none =>
    rw [fm,show CQ B i (Ak ln) (Ak ln).ae=(.tuple [.str "none",.str (Ak ln).num,.str (Ak ln).ae],Ck B i (Ak ln)<|.tuple [.str "none",.str (Ak ln).ae]) by simp only[CQ,O]]at q;show I.fld ?_;apply AZ _ _ (.inr (Ak ln).ae) rfl rfl (.of<|I.t.vf .way);rw[I.pV,cN jX];ext;walk_at "t";refine⟨b,_,B,R,i,Ak ln,_,.tuple [.str "none",.str (Ak ln).ae],rfl,‹_›,g1,Y,iN,(by walk_at "i"),rfl,λH4 W4 L p4=>?_⟩;ext;walk_at "t";exact q _ _ _ ‹_› (by walk_at "p")<|by walk_at "i"
   |some g =>
    have er:=LR iL O;obtain⟨l1,l2,l3⟩:=AU<|LN g1 er;have l1:g.js.length=g.hs.length:=l1;have l2:g.ts.length=g.hs.length:=l2;have l3:g.hs.length<=1000:=l3;show U6 (D5 _ rfl (by rw[U0];omega) ?_);show I.lE ?_;rw[lo1];show DL (cx<|show((Ak ln).ae.length:Int)<S.long by omega) ?_;left;refine U4<|Bb _ _ rfl (.inl<|.of (I.aE er)) ?_;rw[IK];show⟨by omega,by omega,λD nD=>?_⟩;refine JC (lo:=0) (n:=g.hs.length) (λi σ' H'=>∃x,σ'=[x,some<|.ref b.1,some<|.str (Ak ln).ae]/\Ah H2 H'/\H' D=some (.lst<|(((VN i).map λ(k:Nat)=>(k:Int)).filter<|BY g.hs g.js).map V.int)) ⟨none,rfl,(Ah.refl H2).upd nD,Ao⟩ ?_ ?_
    .intro k σ' H' hk zq;replace zq:=AG zq;obtain⟨x,rfl,sm,hL⟩:=zq;simp only[YK];have tf:((VN<|k+1).map λ(k:Nat)=>(k:Int)).filter (BY g.hs g.js)=((VN k).map λ(k:Nat)=>(k:Int)).filter (BY g.hs g.js)++if BY g.hs g.js (k:Int)=true then[(k:Int)] else[]:=by
      rw [Zf,Vg,ZY,VP,Yk,ZZ,Z0]
     have fl:=Zg (BY g.hs g.js)<|(VN k).map λ(k:Nat)=>(k:Int);rw[UW,Xu]at fl;show FG b W2 B R ((Ak ln).ae) (k:Int) _ rfl ⟨I.same sm,g1,er,by omega,by change(k:Int)<g.hs.length;omega,?_⟩;dsimp only;cases hf:BY g.hs g.js (k:Int) with
     |false =>
      rw [hf]at tf;refine C5 false rfl<|BQ ⟨_,rfl,sm,?_⟩;rw[hL,tf,ck<|(by decide),V5]
     |true =>
      rw [hf]at tf;refine C5 true rfl<|B4 ?_;show⟨_,hL,(by rw[UW,U0];omega),_,rfl,sm.bq nD,?_⟩;rw[Ao,tf,bf rfl,Vg];rfl
    intro σ' H3 zq;replace zq:=AG zq;obtain⟨x,rfl,s3,hL⟩:=zq;have bS:Cw g.hs g.js 0=(((VN g.hs.length).map λ(k:Nat)=>(k:Int)).filter<|BY g.hs g.js).head?:=by unfold Cw;rw[AgV,zE]
    generalize ((VN g.hs.length).map λ(k:Nat)=>(k:Int)).filter (BY g.hs g.js)=so at hL bS;show⟨Am,λle H4 n4=>?_⟩;have L:=I.add nD (s3.trans n4.same)<|n4.same _ _ hL;have p4:=Af.of<|s3.trans n4.same;cases so with
    |nil =>
     rw [fm,show CQ B i (Ak ln) (Ak ln).ae=(.tuple [.str "busy",.str (Ak ln).num,.tuple [.str "group",.str (Ak ln).ae,.tuple<|C9 g]],Ck B i (Ak ln)<|.tuple [.str "group",.str (Ak ln).ae,.tuple<|C9 g]) by simp only[CQ,O,show Cw g.hs g.js 0=none from bS]]at q;refine U4 ⟨.list [],.list [],.lst (.of L.vr.hd) .nil,.lst (.of n4.get) .nil,rfl,rfl,(by decide),?_⟩;have L:=L.sub<|.cons _ (.refl R);show EH b W2 B R ((Ak ln).ae) _ rfl ⟨L,g1,er,λH5 tt s5 e5=>?_⟩;have t5:=L.same s5;have p5:=Af.of s5;rw[show IE B (Ak ln).ae (g.hs,g.js,g.ts)=Cy g.hs (λk=>g.js.getD k false) g.hs.length by unfold IE;rw[ck iL]]at e5;have ip:Is K H5 (.ref tt) (.tuple<|C9 g):=.tup (.of e5)<|NT (SI (g1.hg g (FO O).1).s);have tpp:Cs (.tuple<|C9 g)=true:=LA _;have tpd:Cs (.tuple [.str "group",.str (Ak ln).ae,.tuple<|C9 g])=true:=by change(true && (true && (bK (C9 g) && true)))=true;rw[show bK (C9 g)=true from tpp];rfl
     walk_at "t";have iw:Is K _ _ (.tuple [.str "group",.str (Ak ln).ae,.tuple<|C9 g]):=.tup (.of ‹_=some (HO.tup _)›) (by walk_at "is");show EX b _ B R i (Ak ln) _ _ rfl ⟨‹_›,g1,Y,iN,iw,tpd,λH7 W7 t7 p7=>?_⟩;ext;walk_at "t";exact q _ _ _ ‹_› (by walk_at "p")<|by walk_at "i"
    |cons J rest =>
     have bS:Cw g.hs g.js 0=some J:=bS;obtain⟨⟨d3,iH⟩,_⟩:=GQ (YL 0) (zA _) bS;rw[fm,show CQ B i (Ak ln) (Ak ln).ae=(.tuple [.str "takes",.str (Ak ln).num,.str (Ak ln).ae,.int J],{ B with az:=B.az.map λy=>if y.pre=(Ak ln).ae then bX y J (Ak ln).num else y,lns:=B.lns.set i { Ak ln with held:=(Ak ln).held++[((Ak ln).ae,J)] } }) by simp only[CQ,O,bS]]at q;obtain⟨gK,tY⟩:=LM (J::rest);refine U4 ⟨.list<|(J::rest).map Wd,.list [],.lst (.of L.vr.hd)<|GX (J::rest),.lst (.of n4.get) .nil,gK,rfl,(by rw[J8];omega),?_⟩;rw[show Yo (.list<|(J::rest).map Wd) (.list [])=false from rfl];left;refine L.ab5 iL O (.str ln.num) d3 iH λH5 W5 t5 p5=>?_;have uk:BK (B.fR (Ak ln).ae λg=>{ g with hs:=g.hs.set J.toNat (.str ln.num) }) (Ak ln).ae=some { g with hs:=g.hs.set J.toNat (.str ln.num) }:=by rw[FP (h:=λg=>{ g with hs:=g.hs.set J.toNat (.str ln.num) }) λ_=>rfl,O];simp only[Wh,if_true]
     have er5:=LR iL uk;left;refine Be _ _ J _ rfl rfl d3 (.of<|t5.shr er5) (by rw[<-show((J.toNat:Nat):Int)=J by omega];exact FC (v:=.int<|g.ts.getD J.toNat 0)<|by rw[Va,XI,Vt,Vi<|by change _<g.ts.length;omega];rfl) ?_;show t5.ab6 iL uk (λg=>g.ts.getD J.toNat 0+1) d3 (by change _<((g.ts.length:Nat):Int);omega) λH6 W6 t6 p6=>?_;rw[AgW (h:=λg=>{ g with hs:=g.hs.set J.toNat (.str ln.num) }) λ_=>rfl]at t6;have t6:=t6.at (i:=i) (ln:=Ak ln) Y;obtain⟨as,ta,pr⟩:=Au<|t6.ax (i:=i) (HN (y:=Ak ln) Y);left;refine⟨.inl ⟨rfl,_,.of ta⟩,?_⟩;left;refine⟨Am,λu H7 n7=>?_⟩;have t7:=t6.same n7.same;have p7:=Af.of n7.same;show t7.ab2 Y (n7.same _ _ ta) (pr.aj p7) (p:=((Ak ln).ae,J)) n7.get (by change ln.held.length<=10;omega) λH8 W8 t8 p8=>?_;left;refine⟨Am,λc H9 n9=>?_⟩;have t9:=(t8.same n9.same).sub<|.cons _ (.refl _);have p9:=Af.of n9.same;exact q _ _ c t9 (by walk_at "p")<|.tup (.of n9.get) (by walk_at "is")
  .rw[ck cB,ck<|(by omega)]at fm;have cC:((Ak ln).ae.length:Int)=S.long:=by omega
   have O:BK B (Ak ln).ae=none:=by
    cases O:BK B (Ak ln).ae with
    |none=>rfl
    |some g =>
     have:=g1.pz g (FO O).1;rw[(FO O).2]at this;omega
   rw [O];by_cases jX:(Ak ln).ae ∉ B.lns.map (·.num)
   .rw[fm,show CP B i (Ak ln) (Ak ln).ae=(.tuple [.str "none",.str (Ak ln).num,.str (Ak ln).ae],Ck B i (Ak ln)<|.tuple [.str "none",.str (Ak ln).ae]) by simp only[CP,Ly jX]]at q;show I.fld ?_;apply AZ _ _ (.inr (Ak ln).ae) rfl rfl (.of<|I.t.vf .way);rw[I.pV,cN jX];ext;walk_at "t";refine⟨b,_,B,R,i,Ak ln,_,.tuple [.str "none",.str (Ak ln).ae],rfl,‹_›,g1,Y,iN,(by walk_at "i"),rfl,λH4 W4 L p4=>?_⟩;ext;walk_at "t";exact q _ _ _ ‹_› (by walk_at "p")<|by walk_at "i"
   .have min:=Za jX;obtain⟨j,lc,hc,en⟩:=Bz<|g1.at min;have ej:Bf B.lns (Ak ln).ae=j:=by rw[<-en];exact Lv g1.num hc
    show I.fld ?_;apply AZ _ _ (.inr (Ak ln).ae) rfl rfl (.of<|I.t.vf .way);rw[I.pV,cx min];show U6 (D5 _ rfl (by rw[U0];omega) ?_);show I.lE ?_;rw[lo1];show D4 (cN (show ¬((Ak ln).ae.length:Int)<S.long by omega)) ?_;show I.fld ?_;show I.lF hc ?_ en;ext;by_cases cr:lc.st="rests"
    .have qi:j≠i:=λe=>by
      rw [e,Y]at hc;rw[<-Vq hc]at cr;exact By.ne (u:=.rests) (ln:=Ak ln) ev (λe=>(nomatch e)) cr
     rw [fm,show CP B i (Ak ln) (Ak ln).ae=(.tuple [.str "rings",.str (Ak ln).num,.str (Ak ln).ae],{ B with lns:=(B.lns.set i { Ak ln with st:="rings",ao:=some (Ak ln).ae }).set j { lc with st:="rung",ao:=some (Ak ln).num } }) by simp only[CP,ej,hc,bf cr];rw[en],<-Zk _ _ qi]at q;rw[show decide (V.str lc.st=V.str (U3 "rests"))=true from cx<|congrArg V.str cr];apply BQ;have t3:=I.at hc;show t3.fld ?_;show t3.sF hc (λH4 W4 L p4=>?_) (ez:=en);show L.fld ?_;show L.sF hc (λH5 W5 t5 p5=>?_) (ez:=en);have t6:=t5.at (i:=i) (ln:=Ak ln)<|Ee Y qi;have h6:(B.aL j { lc with st:="rung",ao:=some (Ak ln).num }).lns[i]?=some (Ak ln):=Ee Y qi;show t6.fld ?_;show t6.sF h6 (λH7 W7 t7 p7=>?_);show t7.fld ?_;show t7.sF h6 (λH8 W8 t8 p8=>?_);show⟨Am,λc H9 n9=>?_⟩;have p9:=Af.of n9.same;exact q _ _ c (t8.same n9.same) (by walk_at "p")<|.tup (.of n9.get) (by walk_at "is")
    .rw[fm,show CP B i (Ak ln) (Ak ln).ae=(.tuple [.str "busy",.str (Ak ln).num,.tuple [.str "line",.str (Ak ln).ae,.str lc.st]],Ck B i (Ak ln)<|.tuple [.str "line",.str (Ak ln).ae,.str lc.st]) by simp only[CP,ej,hc,ck cr]]at q;rw[show decide (V.str lc.st=V.str (U3 "rests"))=false from cN λe=>cr<|V.str.inj e];apply B4;show I.fld ?_;show I.lF hc ?_ en;ext;walk_at "t";have iw:Is K _ _ (.tuple [.str "line",.str (Ak ln).ae,.str lc.st]):=.tup (.of ‹_=some (HO.tup _)›) (by walk_at "is");show EX b _ B R i (Ak ln) _ _ rfl ⟨‹_›,g1,Y,iN,iw,rfl,λH4 W4 L p4=>?_⟩;ext;walk_at "t";exact q _ _ _ ‹_› (by walk_at "p")<|by walk_at "i"
def TX{α:Type}{l:List α}{i j:Nat}{x:α}:(l.set i x).set j x=(l.set j x).set i x:=by
 by_cases e:i=j
 .rw[e]
 .exact Zk x x e
def Ag4(S:PS)(w u:aU)(k n:Int):aC (aC S w k) u n=aC (aC S u n) w k:=by
 unfold aC;by_cases a:w=U3 ""
 .by_cases b:u=U3 ""
  .rw[bf a,bf b,bf a,bf b];dsimp only;rw[TX]
  .rw[bf a,ck b,bf a,ck b]
 .by_cases b:u=U3 ""
  .rw[ck a,bf b,ck a,bf b]
  .rw[ck a,ck b,ck a,ck b];dsimp only;rw[Vn,Vn];refine congrArg (λx=>({ S with az:=x }:PS))<|Wq λg _=>?_;change(if (if g.pre=w then { g with hs:=g.hs.set k.toNat .aa } else g).pre=u then _ else _)=(if (if g.pre=u then { g with hs:=g.hs.set n.toNat .aa } else g).pre=w then _ else _);by_cases c:g.pre=w
   .by_cases d:g.pre=u
    .simp only[c,if_true];rw[c]at d;simp only[d,if_true];rw[TX]
    .have B:¬w=u:=λe=>d<|c.trans e;simp only[c,if_true,B,if_false]
   .by_cases d:g.pre=u
    .have D:¬u=w:=λe=>c<|d.trans e;simp only[d,if_true,D,if_false]
    .simp only[c,d,if_false]
theorem TY(w:aU)(k:Int):∀(ts:List (aU×Int))(S:PS),au (aC S w k) ts=aC (au S ts) w k
 |[],_=>rfl
 |t::ts,S=>by
  change au (aC (aC S w k) t.1 t.2) ts=aC (au (aC S t.1 t.2) ts) w k;rw[Ag4,TY]
theorem TZ(us:List (aU×Int)):∀(ts:List (aU×Int))(S:PS),au (au S ts) us=au (au S us) ts
 |[],_=>rfl
 |t::ts,S=>by
  change au (au (aC S t.1 t.2) ts) us=au (aC (au S us) t.1 t.2) ts;rw[TZ us ts,TY]
theorem LS:∀(ts:List (aU×Int))(S:PS)(l:List Ln)(q:List aU),au { S with lns:=l,q:=q } ts={ au S ts with lns:=l,q:=q }
 |[],_,_,_=>rfl
 |t::ts,S,l,q=>by
  have e:aC { S with lns:=l,q:=q } t.1 t.2={ aC S t.1 t.2 with lns:=l,q:=q }:=by unfold aC;split<;>rfl
  change au (aC { S with lns:=l,q:=q } t.1 t.2) ts=_;rw[e,LS ts];rfl
def Ag5 (n:j≠i)(H:S.lns[j]?=some lo):ba (BJ S j lo).2 i ln =
  if lo.st="talks" then { CB (ba S i ln) j lo with lns:=(ba S i ln).lns.set j { AW lo "waits" with held:=[] },q:=S.q++[lo.num] } else { CB (ba S i ln) j lo with lns:=(ba S i ln).lns.set j { AW lo "rests" with held:=[] } }:=by
 have B:au (ba S i ln) lo.held={ au (au S lo.held) ln.held with lns:=(ba S i ln).lns,q:=(au S ln.held).q }:=by have:ba S i ln={ au S ln.held with lns:=(ba S i ln).lns,q:=(au S ln.held).q }:=rfl;rw[this,LS,TZ]
 unfold BJ;split
 .show ({ au { au S lo.held with lns:=(S.lns.set j { lo with held:=[] }).set j<|AW { lo with held:=[] } "waits",q:=(au S lo.held).q++[lo.num] } ln.held with lns:=((S.lns.set j { lo with held:=[] }).set j<|AW { lo with held:=[] } "waits").set i (AW { ln with held:=[] } "rests") }:PS)={ au (ba S i ln) lo.held with lns:=(S.lns.set i<|AW { ln with held:=[] } "rests").set j { AW lo "waits" with held:=[] },q:=S.q++[lo.num] };rw[B,LS,Fn,V6,Zk _ _ n];rfl
 .show ({ au { au S lo.held with lns:=S.lns.set j (AW { lo with held:=[] } "rests") } ln.held with lns:=(S.lns.set j<|AW { lo with held:=[] } "rests").set i (AW { ln with held:=[] } "rests") }:PS)={ au (ba S i ln) lo.held with lns:=(S.lns.set i<|AW { ln with held:=[] } "rests").set j { AW lo "rests" with held:=[] } };have D:au { au S lo.held with lns:=S.lns.set j (AW { lo with held:=[] } "rests") } ln.held={ au (au S lo.held) ln.held with lns:=S.lns.set j<|AW { lo with held:=[] } "rests",q:=(au S lo.held).q }:=LS _ (au S lo.held) _ _;rw[B,D,Fn,Fn,Zk _ _ n];rfl
def Oy:(CB S i ln).aL i y={ au S ln.held with lns:=S.lns.set i y }:=by change({ au S ln.held with lns:=(S.lns.set i _).set i y }:PS)=_;rw[V6]
def Oz(K:UT):Sp:=λvs H Q _=>∃(b:ar×ar×List aU)(W:VW)(S:PS)(R:Ax)(i:Nat)(ln:Ln),vs=[.ref b.1,.str ln.num]/\WD K b H W S R/\WF S/\S.lns[i]?=some ln/\ln.st∈LW.bR.b8 /\
 ∀H' W' r xs,WD K b H' W' (DH S i ln).2 ((r,.lst (xs.map V.ref))::R)->Af H H'->BV K H' xs (DH S i ln).1->Q (.ref r) H'
def Cb:AM ["world","line","other"] ["world","line"] (Ab<|top 53):=.of
def OA:Gm (Ab<|top 53) "_law_begin":=.of
def T1:Gm (Ab<|top 53) "_law_freed":=.of
def Ag6(F:AE K "_law_hang" "_law_hang" (top 53) f fd)(gJ:Bt P w K mg base Av 1 "_law_freed" ["world","line"] (Oi K))(fT:Bt P w K mg base Av 1 "_law_begin" ["world","line","way"] λvs H Q E=>Og vs H Q E\/Of K vs H Q E):Az P w K mg base Av 2 f fd ["world","line"] (Oz K):=by
 refine F.ok Cb.fs λai A outer s H vs Q E Y h=>?_
 .obtain ⟨b,W,S,R,i,ln,rfl,t,B,h,hw,q⟩:=h;have hu:=Y.units;have nd:=Cb.fs.nd;have L:=B.l i ln h;obtain⟨_,ok⟩:=B.bR h hw;obtain⟨g1,nq1,_⟩:=AU<|B.aB h;have aG:ln.num∈S.q↔ln.st="waits":=⟨λm=>(L.jQ m).1,λe=>ok.w e⟩;refine⟨_,(@Ad _ _ _ _ _ (A8 2 Cb<|Aq P w K (Aq P w K (Aa 0 Cb) Ae) (Aa 1 Cb))<|Ad (AV (Em Ig (Aa 1 Cb) (Aq P w K (Aa 0 Cb) Ae)<|by with_unfolding_all rfl)<|Ai (A4<|Ci VR zv zw QW (Aq P w K (Aa 0 Cb) Ae) (Ag<|Aa 1 Cb))) (Ad (A4<|A9 gJ T1 Y.d AK (AJ (Aa 0 Cb)<|Aa 1 Cb))<|Ad (A4<|A9 fT OA Y.d AK (A0 (Aa 0 Cb) (Aa 1 Cb) Ae)) (Ad (AV (A1 Gw (Aa 2 Cb) Cv)<|Ai (AB<|A3 (Ag<|Bp (AJ Ae<|Aa 1 Cb))))<|Ad (A4<|A9 gJ T1 Y.d AK (AJ (Aa 0 Cb)<|Aa 2 Cb)) (Ad (AV (A1 (B5 hu) (Aq P w K (Aq P w K (Aa 0 Cb) Ae)<|Aa 2 Cb) Ae)<|Ad (A4<|A9 fT OA Y.d AK (A0 (Aa 0 Cb) (Aa 2 Cb) Ae)) (Ai<|AB (A3<|AJ (Bp<|AJ Ae (Aa 1 Cb)) (Bp<|AJ Ae (Aa 2 Cb)))))<|Ad (A4<|A9 fT OA Y.d AK (A0 (Aa 0 Cb) (Aa 2 Cb) Ae)) (Ad (A4<|Ci VR Wb Wc Dl (Aq P w K (Aa 0 Cb) Ae) (Ag<|Aa 2 Cb))<|Ai (AB<|A3 (AJ (Bp<|AJ Ae (Aa 1 Cb))<|Bp (AJ Ae<|Aa 2 Cb)))))))),?_⟩;try dsimp only[av,aw]
  left;rename_i C hC
  have mid:∀(H1:Hp)(W1:VW),WD K b H1 W1 (aB S ln) R->Af H H1->C [some<|.ref b.1,some<|.str ln.num,some<|DR ln.ao] H1:=by
   intro H1 W1 t1 p1;apply hC.use;have h1:(aB S ln).lns[i]?=some ln:=by rwa[J3]
   ext;show 3;refine EH b W1 _ R i ln rfl ⟨t1,g1,h1,GV L.nd λp m=>⟨_,(N6 p).trans<|L.ow p m,Gg⟩,λH2 W2 t2 p2=>?_⟩;ext;show 3;refine U4<|FG b W2 _ R i { ln with held:=[] } ("rests") rfl ⟨t2,B1 h1,λH3 W3 t3 p3=>?_⟩;rw[Oy]at t3;have t3:WD K b H3 W3 (ba (aB S ln) i ln) R:=t3;cases hf:ln.ao with
   |none =>
    rw [show DH S i ln=([.tuple [.str "rests",.str ln.num]],ba (aB S ln) i ln) by unfold DH;simp only[CH,hf]]at q;show⟨Am,λc H4 n4=>?_⟩;refine⟨Am,λr H5 n5=>?_⟩;have p5:=Af.of<|n4.same.trans n5.same;exact q _ W3 r [c] ((t3.same n4.same).new n5) (by walk_at "p")<|.one (.tup (.of<|n5.same _ _ n4.get)<|by walk_at "is") rfl
   |some z =>
    obtain⟨j,lo,J,rfl,nj,_⟩:=BB<|ok.f z hf;have um:aB S ln=S:=ck λe=>by
     have:=(L.way (w:=.bY) e).2.1;rw[hf]at this;cases this
    rw [um]at t3;have uo:(ba S i ln).lns[j]?=some lo:=Ee J nj.symm;rw[show DH S i ln=(.tuple [.str "rests",.str ln.num]::[(BJ S j lo).1],ba (BJ S j lo).2 i ln) by unfold DH;rw[um];simp only[CH,hf,J2 B J,J],Ag5 nj J]at q;have Lo:=B.l j lo J;rw[show DR (some lo.num)=V.str lo.num from rfl];ext;show 3;refine EH b W3 _ R j lo rfl ⟨t3,B.g.ba h,uo,GV Lo.nd λp m=>⟨_,(IF L.ge<|B.apart h J nj m).trans<|Lo.ow p m,Gg⟩,λH4 W4 t4 p4=>?_⟩;have h4:(CB (ba S i ln) j lo).lns[j]?=some { lo with held:=[] }:=B1 uo;have lst:lo.st="rung"\/lo.st="talks":=by
     obtain⟨v,ev,y⟩:=Au L.wy;have key:∀o,HL S i ln o->lo.st=o.s:=λo ⟨k,lm,hk,_,f1,_,f3⟩=>by
      rw [hf]at f1;obtain⟨_,rfl⟩:=B.g.one hk J (Vq f1).symm;exact f3
     cases v with
     |rests=>rw[y.2.1]at hf;cases hf
     |bY=>rw[y.2.1]at hf;cases hf
     |aV=>rw[y.1]at hf;cases hf
     |told=>rw[y.2.1]at hf;cases hf
     |rings=>exact .inl<|key _ y.2
     |cu=>exact absurd hw<|by rw[ev];decide +kernel
     |dq=>exact .inr<|key _ y.2
    left;rcases lst with ls|ls
    .have nt:lo.st≠"talks":=by rw[ls];decide +kernel
     rw [ck nt,show(BJ S j lo).1=.tuple [.str "quiet",.str lo.num] by unfold BJ;rw[ck nt]]at q;apply DL (cx<|congrArg V.str ls);ext;show 3;refine U4<|FG b W4 _ R j { lo with held:=[] } ("rests") rfl ⟨t4,h4,λH5 W5 t5 p5=>?_⟩;rw[Oy]at t5;show⟨Am,λc H6 O=>?_⟩;show⟨Am,λe H7 D=>?_⟩;refine⟨Am,λr H8 I=>?_⟩;have p8:=Af.of<|O.same.trans (D.same.trans I.same);have e6:=(D.same.trans I.same) _ _ O.get;have e7:=I.same _ _ D.get;exact q _ W5 r [c,e] ((t5.same<|O.same.trans D.same).new I) (by walk_at "p") ⟨by walk_at "is",rfl⟩
    .rw[bf ls,show(BJ S j lo).1=.tuple [.str "waits",.str lo.num] by unfold BJ;rw[bf ls]]at q;apply D4 (cN λc=>absurd ((V.str.inj c).symm.trans ls)<|(by decide +kernel));ext;show 3;refine U4<|FG b W4 _ R j { lo with held:=[] } ("waits") rfl ⟨t4,h4,λH5 W5 t5 p5=>?_⟩;rw[Oy]at t5;have uq:(au (ba S i ln) lo.held).q=S.q:=(Fn ..).trans<|Fn ..;have e9:=B.g.e9;left;refine⟨.inl ⟨rfl,_,.of t5.q⟩,?_⟩;show t5.tT (by change(au (ba S i ln) lo.held).q.length<_;rw[uq];omega) λlH W5' t6 p6=>?_;show⟨Am,λc H6 O=>?_⟩;show⟨Am,λe H7 D=>?_⟩;refine⟨Am,λr H8 I=>?_⟩;have p8:=Af.of<|O.same.trans (D.same.trans I.same);have e6:=(D.same.trans I.same) _ _ O.get;have e7:=I.same _ _ D.get;rw[<-uq]at q;exact q _ W5' r [c,e] ((t6.same<|O.same.trans D.same).new I) (by walk_at "p") ⟨by walk_at "is",rfl⟩
  refine U4<|Eo _ _ rfl (.inl<|.of t.q) rfl (TB _) ?_;rw[IC];by_cases m:ln.num∈S.q
  .rw[cx m];left;refine⟨.inl ⟨rfl,_,.of t.q⟩,?_⟩;show U4 (CZ _ S.q ln.num rfl rfl t.q m ?_);obtain⟨t1,p1⟩:=t.wQ<|S.q.erase ln.num;exact mid _ _ (by unfold aB;rwa[bf<|aG.mp m]) p1
  .rw[cN m];exact⟨_,rfl,BQ<|mid H W (by unfold aB;rwa[ck λe=>m<|aG.mpr e]) .refl⟩
def T2(K:UT):Sp:=λvs H Q _=>∃(b:ar×ar×List aU)(W:VW)(S:PS)(R:Ax)(d:LW)(z:aU),vs=[.ref b.1,.str d.wo,.str z]/\WD K b H W S R/\WF S /\
 match S.lns[Bf S.lns z]? with
 |none=>Q (.str "NoLine") H
 |some ln=>(d.fits ln=false->∀H',Ah H H'->Q (.str "NotSo") H')/\(d.fits ln=true->∀H' W' r xs,WD K b H' W' (d.go S (Bf S.lns z) ln).2 ((r,.lst (xs.map V.ref))::R)->Af H H'->BV K H' xs (d.go S (Bf S.lns z) ln).1->Q (.ref r) H')
def Ag7 (z:Zr ln)(f:ln.ao=none)(st:aU):AW ln st={ ln with st:=st }:=by obtain⟨a,b,c,d,e,g,h⟩:=ln;obtain⟨B,z2,D⟩:=AU z;cases B;cases z2;cases D;cases f;rfl
def LU{d:LW}{ln:Ln}{v:By}(e:ln.st=v.s)(n:v.s ∉ d.b8):d.fits ln=false:=by unfold LW.fits;rw[e,cN n];rfl
def LV{d:LW}{ln:Ln}{v:By}(e:ln.st=v.s)(m:v.s∈d.b8)(g:d≠.gap):d.fits ln=true:=by
 unfold LW.fits;rw[e,cx m];cases d with
 |gap=>exact absurd rfl g
 |_=>rfl
section
variable {K:UT}{b:ar×ar×List aU}{H:Hp}{W:VW}{S:PS}{R:Ax}{i:Nat}{ln l0:Ln}{D:Hp->Prop}
def WD.ab7(t:WD K b H W S R)(h:S.lns[i]?=some ln):GO H (W.fa .ag) (.str ln.num) (some<|.int ln.ag):=by have z:=GO.k (k:=.inr ln.num)<|t.t.vf .ag;rwa[FR<|t.ok.inf h .ag,(t.ok.l i ln h).f .ag λe=>(nomatch e)]at z
def WD.ab8 (t:WD K b H W (S.aL i ln) R)(h:S.lns[i]?=some l0)(c:∀I J,WD K b I J (S.aL i { ln with ag:=n }) R->Af H I->D I):∃B,Es H (W.fa .ag) (.str ln.num) (.int n) B/\D B:=by obtain⟨_,B,e,p,q⟩:=BB<|t.sF (d:=.ag) (v:=.int n) h c;cases e;exact⟨B,p,q⟩
end
def Bj:AM ["world","word","line","way","other"] ["world","word","line"] (Ab<|top 54):=.of
def Ag8:Gm (Ab<|top 54) "_law_gap":=.of
def Ag9:Gm (Ab<|top 54) "_law_ended":=.of
def Aha:Gm (Ab<|top 54) "_law_hang":=.of
def Ahb(F:AE K "_law_at_line" "_law_at_line" (top 54) f fd)(qj:Bt P w K mg base Av 2 "_law_hang" ["world","line"] (Oz K))(fS:Bt P w K mg base Av 2 "_law_ended" ["world","line","why"] (Ol K))(qk:Bt P w K mg base Av 3 "_law_gap" ["world","line"] (TR K)):Az P w K mg base Av 4 f fd ["world","word","line"] (T2 K):=by
 refine F.ok Bj.fs λai A outer s H vs Q E hr h=>?_
 .obtain ⟨b,W,S,R,d,z,rfl,t,J,q⟩:=h;show 4;have nd:=Bj.fs.nd;refine⟨_,(@Ad _ _ _ _ _ (A8 3 Bj<|Ac2 (VB (VF `x _) hu) (Aq P w K (Aa 0 Bj) Ae) (Aa 2 Bj) Ae ⟨rfl,rfl,rfl,rfl⟩)<|Ad (AV (A1 (B5 hu) (Aa 3 Bj) Ae)<|Ai (AB Ae)) (Ad (AV (PW.pt<|Fv (A1 (B5 hu) (Aa 1 Bj) Ae) (Gp<|A1 (B5 hu) (Aa 3 Bj) Ae))<|Ad (A8 4 Bj<|Aq P w K (Aq P w K (Aa 0 Bj) Ae) (Aa 2 Bj)) (Ad (Cc (VB (VF `x _) hu) (Aq P w K (Aa 0 Bj) Ae) (Aa 2 Bj) Ae rfl)<|Ad (Cc (VB (VF `x _) hu) (Aq P w K (Aa 0 Bj) Ae) (Aa 4 Bj) Ae rfl) (Ai<|AB (A3<|Ag (Bp<|A0 Ae (Aa 4 Bj) (Aa 2 Bj))))))<|Ad (AV (PW.pt<|Fv (A1 (B5 hu) (Aa 1 Bj) Ae) (Gp<|A1 (B5 hu) (Aa 3 Bj) Ae))<|Ad (Cc (VB (VF `x _) hu) (Aq P w K (Aa 0 Bj) Ae) (Aa 2 Bj) Ae rfl) (Ad (A4<|Ci VR Wb Wc Dl (Aq P w K (Aa 0 Bj) Ae) (Ag<|Aa 2 Bj))<|Ai (AB<|A3 (Ag<|Bp (AJ Ae<|Aa 2 Bj))))) (Ad (AV (PW.pt<|Fv (A1 (B5 hu) (Aa 1 Bj) Ae) (Gp<|Em KJ (Aa 3 Bj) (Bp<|AJ Ae Ae) (by with_unfolding_all rfl)))<|Ai (AB<|A9 qj Aha hr.d AK (AJ (Aa 0 Bj)<|Aa 2 Bj)))<|Ad (AV (PW.pt<|Fv (A1 (B5 hu) (Aa 1 Bj) Ae) (Gp<|A1 (B5 hu) (Aa 3 Bj) Ae))<|Ad (AcT (VB (VF `x _) hu) (Aq P w K (Aa 0 Bj) Ae) (Aa 2 Bj) Aj P9<|by intros;rfl) (Ad (AV (A1 Jj (Aq P w K (Aq P w K (Aa 0 Bj) Ae)<|Aa 2 Bj) Aj)<|Ai (AB<|A3 B3))<|Ad (A4<|A9 fS Ag9 hr.d AK (A0 (Aa 0 Bj) (Aa 2 Bj)<|Bp (AJ Ae<|Aq P w K (Aq P w K (Aa 0 Bj) Ae) (Aa 2 Bj)))) (Ai<|AB (A3<|Ag (Bp<|A0 Ae (Aa 2 Bj) (Aq P w K (Aq P w K (Aa 0 Bj) Ae)<|Aa 2 Bj)))))) (Ad (AV (PW.pt<|Fv (A1 (B5 hu) (Aa 1 Bj) Ae) (Fv (A1 (B5 hu) (Aa 3 Bj) Ae)<|Gp (A1 Jl (Aq P w K (Aq P w K (Aa 0 Bj) Ae)<|Aa 2 Bj) Aj)))<|Ai (AB<|A3 (Ag<|A9 qk Ag8 hr.d AK (AJ (Aa 0 Bj)<|Aa 2 Bj))))<|Ai (AB Ae))))),?_⟩;try dsimp only[av,aw]
  have aZ:start ["world","word","line","way","other"] [V.ref b.1,V.str d.wo,V.str z]=[some<|.ref b.1,some<|.str d.wo,some<|.str z,none,none]:=rfl;simp only[aZ,WQ,WR];left;refine⟨.inl ⟨_,.inl<|t.t.vf .way⟩,?_⟩;show⟨_,.k (k:=.inr z)<|t.t.vf .way,?_⟩;by_cases m:z∈S.lns.map (·.num)
  .obtain ⟨i,ln,h,rfl⟩:=J.g.at m;rw[J2 J h,h]at q;obtain⟨qn,qy⟩:=q;rw[FR<|t.ok.inf h .way,(t.ok.l i ln h).f .way λe=>(nomatch e)];obtain⟨v,B,y⟩:=Au<|(J.l i ln h).wy;have Y:=t.at h;rw[show ln.vv .way=.str v.s from congrArg V.str B];cases d with
   |lift =>
    cases v with
    |rests =>
     obtain⟨y1,y2,y3,y4⟩:=AU y;have q:=qy<|LV B `o λc=>nomatch c;rw[show LW.go .lift S i ln=([.tuple [.str "waits",.str ln.num]],FN S i ln) by change([(CG S i ln).1],(CG S i ln).2)=_;rw[show CG S i ln=_ from bf B],show FN S i ln={ S with lns:=S.lns.set i { ln with st:="waits" },q:=S.q++[ln.num] } by unfold FN;rw[Ag7 y4 y2]]at q;have e9:=J.g.e9;show Y.fld ?_;show Y.sF h λL W1 D p1=>?_;left;refine⟨.inl ⟨rfl,_,.of D.q⟩,?_⟩;show D.tT (by change S.q.length<_;omega) λH2 W2 t2 p2=>?_;show⟨Am,λc H3 O=>?_⟩;refine⟨Am,λr H4 I=>?_⟩;have p4:=Af.of<|O.same.trans I.same;exact q _ W2 r [c] ((t2.same O.same).new I) (by walk_at "p")<|.one (.tup (.of<|I.same _ _ O.get)<|by walk_at "is") rfl
    |cu =>
     obtain⟨y1,y2,j,lo,hj,nj,f1,f2,f3⟩:=AU y;have q:=qy<|LV B `o λc=>nomatch c;have ej:=J2 J hj;rw[show LW.go .lift S i ln=([.tuple [.str "talks",.str lo.num,.str ln.num]],{ S with lns:=(S.lns.set i { ln with st:="talks" }).set j { lo with st:="talks" } }) by change([(CG S i ln).1],(CG S i ln).2)=_;rw[Tg (By.ne (u:=.rests) B λc=>nomatch c) f1 (by rwa[ej]),ej,Zk _ _ nj]]at q;show t.fld ?_;show t.tS h ?_;rw[f1];show Y.fld ?_;show Y.sF h λL W1 D p1=>?_;have ur:(S.aL i<|ln.put .way (.str "talks")).lns[j]?=some lo:=Ee hj nj.symm;have D:=D.at ur;show D.fld ?_;show D.sF ur (λH2 W2 t2 p2=>?_);show⟨Am,λc H3 O=>?_⟩;refine⟨Am,λr H4 I=>?_⟩;have p4:=Af.of<|O.same.trans I.same;exact q _ W2 r [c] ((t2.same O.same).new I) (by walk_at "p")<|.one (.tup (.of<|I.same _ _ O.get)<|by walk_at "is") rfl
    |_ =>
     ext;exact qn (LU B<|(by decide +kernel)) H<|Ah.refl H
   |b9 =>
    cases v with
    |aV =>
     obtain⟨y1,y2,⟨y3,y4⟩,y5,y6⟩:=AU y;have q:=qy<|LV B `o (λc=>nomatch c);obtain⟨_,iN⟩:=J.b9 h B;show Y.fld ?_;show  ⟨_,_,rfl,t.ab7 h,?_⟩;show Y.ab8 h λL W1 D p1=>?_;have h1:=HN (y:={ ln with ag:=ln.ag+1 }) h;show D.fld ?_;show D.pX h1 ?_;ext;by_cases c:ln.ag+1<11
     .rw[show LW.go .b9 S i ln=([],{ S with lns:=S.lns.set i { ln with ag:=ln.ag+1 } })from bf<|(by omega)]at q;apply DL (cx c);show⟨Am,λr H2 n2=>?_⟩;exact q _ _ r [] (D.new n2) (p1.trans<|.of n2.same) .nil
     .rw[show LW.go .b9 S i ln=([.tuple [.str "over",.str ln.num,.str ln.ae]],Ck { S with lns:=S.lns.set i { ln with ag:=ln.ag+1 } } i { ln with ag:=ln.ag+1 }<|.tuple [.str "over",.str ln.ae])from ck<|(by omega)]at q;apply D4 (cN c);show D.fld ?_;show D.pW h1 ?_;ext;walk_at "t";show 3;refine⟨b,W1,_,R,i,{ ln with ag:=ln.ag+1 },_,.tuple [.str "over",.str ln.ae],rfl,‹_›,J.g.lns<|De (y:={ ln with ag:=ln.ag+1 }) h rfl,h1,iN,(by walk_at "i"),rfl,λH3 W3 t3 p3=>?_⟩;show t3.fld ?_;show t3.pW (B1 h1) ?_;show⟨Am,λc H4 I=>?_⟩;refine⟨Am,λr H5 n5=>?_⟩;have p5:=Af.of<|I.same.trans n5.same;exact q _ W3 r [c] ((t3.same I.same).new n5) (by walk_at "p")<|.one (.tup (.of<|n5.same _ _ I.get)<|by walk_at "is") rfl
    |_ =>
     ext;exact qn (LU B<|(by decide +kernel)) H<|Ah.refl H
   |gap =>
    cases v with
    |aV =>
     obtain⟨y1,y2,⟨y3,y4⟩,y5,y6⟩:=AU y;show t.fld ?_;show t.pX h ?_;ext;by_cases c:ln.ag=0
     .rw[cN<|by rw[c];decide];apply BQ;ext;exact qn (by unfold LW.fits;dsimp only;rw[show decide (ln.ag≠0)=false from cN λn=>n c,xS]) H<|Ah.refl H
     .have q:=qy (by unfold LW.fits;rw[B,cx<|(by decide +kernel)];dsimp only;rw[cx c];rfl);apply DL (cx<|show(0:Int)<ln.ag by omega);ext;show 3;refine EH b W S R i ln rfl ⟨t,J,h,B,c,λL W1 c D p1 ib=>?_⟩;refine⟨Am,λr H2 n2=>?_⟩;have p2:=Af.of n2.same;exact q _ W1 r [c] (D.new n2) (p1.trans p2)<|.one (Is.aj _ NU ib p2) NU
    |_ =>
     ext;exact qn (LU B<|(by decide +kernel)) H<|Ah.refl H
   |bR =>
    have tail:∀(L:Hp),Ah H L->v.s∈LW.bR.b8->Oz K [.ref b.1,.str ln.num] L Q E0:=λL s1 m=>⟨b,W,S,R,i,ln,rfl,t.same s1,J,h,by rwa[B],λH2 W2 r xs t2 p2 td=>qy (LV B m λc=>nomatch c) H2 W2 r xs t2 ((Af.of s1).trans p2) td⟩;cases v with
    |rests|cu =>
     show⟨Am,λu L n1=>?_⟩;refine U4<|Eo u _ rfl (.inr<|.of n1.get) rfl rfl ?_;ext;exact qn (LU B<|(by decide +kernel)) _ n1.same
    |_ =>
     show⟨Am,λu L n1=>?_⟩;refine U4<|Eo u _ rfl (.inr<|.of n1.get) rfl rfl ?_;ext;show 3;exact tail _ n1.same<|(by decide +kernel)
  .rw[Ly m]at q;rw[J5 λc=>m<|(t.ok.zs z).mp (by rwa[<-t.ok.kf .way])];ext;exact q
noncomputable def Er.nm:Er->aU
 |.cH=>"NoLine" |.cJ=>"NoSwitch" |.dZ=>"NotSo"
def T3(K:UT):Sp:=λvs H Q _=>∃(b:ar×ar×List aU)(W:VW)(S:PS)(R:Ax)(d:Bi)(dd:ar),vs=[.ref b.1,.ref dd]/\WD K b H W S R/\WF S/\H dd=some (.tup d.vals)/\S.dn.length<1000000 /\
 match d.res S with
 |.inl e=>∀H',Ah H H'->Q (.str e.nm) H'
 |.inr r=>∀H' W' p xs,WD K b H' W' (Cz (Dy r.2 dd)).2 ((p,.lst (xs.map V.ref))::R)->Af H H'->BV K H' xs (r.1++(Cz (Dy r.2 dd)).1)->Q (.ref p) H'
def T5:CC S z=(AS S z).map (·.1):=by
 unfold CC AS;split
 .rfl
 .cases BK S z<;>rfl
def Ahc{S:PS}{b:Bool}{w:aU}{k:Int}{r:List V×List Bool×List Int}(B:AS S w=some r):AS (Cu S b w k) w=some (r.1,r.2.1.set k.toNat b,r.2.2)/\∀u,u≠w->AS (Cu S b w k) u=AS S u:=by
 unfold AS at B ⊢;unfold Cu;by_cases c:w=U3 ""
 .rw[bf c]at B;cases B;refine⟨by rw[bf c,bf c],λu n=>?_⟩;rw[bf c,ck λd=>n<|d.trans c.symm,ck λd=>n<|d.trans c.symm];rfl
 .rw[ck c]at B;obtain⟨g,D,rfl⟩:=Au<|VH.mp B;refine⟨?_,λu n=>?_⟩
  .rw[ck c,ck c,FP (h:=λg=>{ g with js:=g.js.set k.toNat b }) λ_=>rfl,D];simp only[Wh,if_true]
  .rw[ck c,FP (h:=λg=>{ g with js:=g.js.set k.toNat b }) λ_=>rfl];by_cases d:u=U3 ""
   .rw[bf d,bf d]
   .rw[ck d,ck d];cases BK S u with
    |none=>rfl
    |some g=>rw[Wh,ck n]
def Ahd(S:PS)(b:Bool)(w:aU)(k:Int):(Cu S b w k).sk.mark=S.sk.mark/\(Cu S b w k).sk.st=S.sk.st/\(Cu S b w k).sk.wt=S.sk.wt:=by unfold Cu;split<;>exact⟨rfl,rfl,rfl⟩
def WD.bb{b:ar×ar×List aU}{H:Hp}{W:VW}{S:PS}{R:Ax}{D:Hp->Prop}{u:aU}{k:Int}{r:List V×List Bool×List Int}(t:WD K b H W S R)(g:WG S)(I:AS S u=some r)(x:Bool)(k0:0<=k)(k1:k<r.1.length)(c:∀B J,WD K b B J (Cu S x u k) R->Af H B->D B):∃p xs i j,V.ref (W.la .aM u)=.ref p/\V.int k=.int i/\H p=some (.lst xs)/\CY xs.length i=some j/\D (upd H p<|.lst (xs.set j<|.bl x)):=by obtain⟨O,L,Y⟩:=AU<|t.ok.r u r I;obtain⟨r1,r2⟩:=Ahc (b:=x) (k:=k) I;obtain⟨j1,j2,j3,j4⟩:=AU<|IH (S:=S) (b:=x) (z:=u) (k:=k);obtain⟨j5,j6,j7⟩:=AU<|Ahd S x u k;exact t.iE I `x k0 (by rwa[L,UW,(LN g I).1]) r1 ⟨j1,j2,j4,j3⟩ ⟨j5.symm,j6.symm,j7.symm⟩ r2 ⟨O,by rw[Df,L,V0],Y⟩ λB J t p _=>c B J t p
def CL:AM ["world","deed","told"] ["world","deed"] (Ab<|top 55):=.of
def Ahe:Gm (Ab<|top 55) "_law_tones":=.of
def Ahf:Gm (Ab<|top 55) "isinstance":=.of
def Ahg:Gm (Ab<|top 55) "str":=.of
def Ahh:Gm (Ab<|top 55) "len":=.of
def Ahi:Gm (Ab<|top 55) "_law_at_line":=.of
def Ahj(F:AE K "_law_due" "_law_due" (top 55) f fd)(T:TxtW P w K mg a)(ql:Bt P w K mg base Av 4 "_law_at_line" ["world","word","line"] (T2 K))(qm:Bt P w K mg base Av 2 "_law_tones" ["world"] (TF K)):Az P w K mg base Av 5 f fd ["world","deed"] (T3 K):=by
 refine F.ok CL.fs λai A outer s H vs Q E hr h=>?_
 .obtain ⟨b,W,S,R,d,dd,rfl,t,wf,cb,dz,q⟩:=h;show 4;have nd:=CL.fs.nd;refine⟨_,(@Ad _ _ _ _ _ (Ja (Em Ig (AN AO (Aa 1 CL) Aj λ_ _=>rfl) (Bp<|AJ Ae Ae)<|by with_unfolding_all rfl) (Ad (AV (PW.pt<|I0 (Hn P w K (AN AO (Aa 1 CL) Aj λ_ _=>rfl)<|Aq P w K (Aa 0 CL) Ae) (IZ<|DY (AaT Jk Jj Aj (AN AO (Aa 1 CL) Aj λ_ _=>rfl)<|Bo B8 Ahh T.aR B0 (Ag<|Aq P w K (Aq P w K (Aa 0 CL) Ae) (AN AO (Aa 1 CL) Aj λ_ _=>rfl)))))<|Ai (AB Ae))<|Ad (El (K8 (B5 hu) (AN AO (Aa 1 CL) Aj λ_ _=>rfl) Ae)<|Fw (Aq P w K (Aq P w K (Aa 0 CL) Ae)<|AN AO (Aa 1 CL) Aj (λ_ _=>rfl)) (AN AO (Aa 1 CL) Aj λ_ _=>rfl) D0) (Ai<|A8 2 CL (A3 B3)))<|Ai (A8 2 CL<|A9 ql Ahi hr.d AK (A0 (Aa 0 CL) (AN AO (Aa 1 CL) Aj λ_ _=>rfl)<|AN AO (Aa 1 CL) Aj (λ_ _=>rfl))))<|Ad (AV (Dj<|Bo Hi Ahf T.gu Hj (AJ (Aa 2 CL)<|Mz (v:=.ty "str") Ahg T.ui QK rfl))<|Ai (AB<|Aa 2 CL)) (Ad (A4<|Ci VR Wb Wc Dl (Aq P w K (Aa 0 CL) Ae) (Ag<|Aa 1 CL))<|Ai (AB<|Ar BL (Aa 2 CL) (A9 qm Ahe hr.d AK<|Ag (Aa 0 CL))))),?_⟩;try dsimp only[av,aw]
  refine Qy λC hC=>?_;have rest:∀(J:List PyData×PS),d.res S=.inr J->∀(B:Hp)(W2:VW)(r:ar)(xs:List ar),WD K b B W2 J.2 ((r,.lst<|(xs.map V.ref))::R)->Af H B->BV K B xs J.1->C [some<|.ref b.1,some<|.ref dd,some<|.ref r] B:=by intro J Y B W2 r xs L p2 td;rw[Y]at q;obtain⟨bL,qo,tz⟩:=AU<|wf.res Y;refine hC.use ?_;show U6 (Dv _ _ _ _ false rfl ⟨.of<|.lst L.vr.hd,rfl,rfl,?_⟩);left;refine⟨.inl ⟨rfl,_,.of L.dn⟩,?_⟩;show L.wDn _ (by rw[U0,qo];omega) λH3 W3 t3 p3=>?_;ext;dsimp only[BA];refine⟨b,W3,Dy J.2 dd,_,rfl,t3,bL.dn (d:=J.2.dn++[V.ref dd]),λH4 W4 r4 d0 t4 p4 iC=>?_⟩;have jP:=td.aj<|p3.trans p4;have f1:=jP.len;have f2:=iC.len;have f3:(Cz<|Dy J.2 dd).1.length<=60:=V7 (NV _ _) bL.g.e9;show U4 (U4<|Be r r4 _ _ rfl rfl t4.vr.tl.hd t4.vr.hd (by rw[UW,UW,U0];omega) (λp np=>?_));rw[<-Vg];have t5:=(t4.new (o:=.lst<|(xs++d0).map V.ref) ⟨np,rfl⟩).sub (R':=(p,.lst<|(xs++d0).map V.ref)::R)<|.cons₂ _ (.cons _<|.cons _ (.refl _));have p5:Af H4 (upd H4 p<|.lst ((xs++d0).map V.ref)):=.new np;exact q _ W4 p (xs++d0) t5 (p2.trans<|p3.trans (p4.trans p5))<|(jP.app iC).aj p5
  have I:∀(e:Er),d.res S=.inl e->∀(B:Hp),Ah H B->C [some<|.ref b.1,some<|.ref dd,some<|.str e.nm] B:=by intro e ee B s2;rw[ee]at q;refine hC.use ?_;show U6 (Dv _ _ _ _ true rfl ⟨.of<|.str _,rfl,rfl,?_⟩);ext;exact q B s2
  clear hC
  show U4 (U6<|Bx dd _ _ (.str (match d with|.bb x _ _=>HK x|.line d _=>d.wo)) rfl rfl (.of cb) (by cases d<;>rfl) ?_);show⟨Am,λu H1 n1=>?_⟩;refine U4<|Eo u _ rfl (.inr<|.of n1.get) rfl rfl ?_;have t1:=t.same n1.same;have O:=n1.same;have d1:=O _ _ cb;cases d with
  |bb x z k =>
   rw [show FE (.str<|HK x) [V.str "stick",V.str "mend"]=true by cases x<;>rfl];have D:Bi.res S (.bb x z k)=.inl .cJ->∀B,Ah H B->Q (.str "NoSwitch") B:=λe B s2=>by rw[e]at q;exact q B s2
   clear q
   left;refine AZ _ _ (.inr z) rfl rfl (.of<|t1.t.vk .aE) ?_;rw[t1.tR];cases Y:AS S z with
   |none =>
    ext;exact D (by simp only[Bi.res,T5,Y,ye]) H1 O
   |some r =>
    have iO:Bi.res S (.bb x z k)=if inR k r.1=true then .inr ([],Cu S x z k)else .inl .cJ:=by simp only[Bi.res,T5,Y,Wh]
    left;by_cases k0:0<=k
    .refine DL (cx k0) ?_;left;refine U4<|Bb _ _ rfl (.inl<|.of (t1.aE Y)) ?_;rw[IK];ext;by_cases k1:k<(r.1.length:Int)
     .rw[bf<|F6.mpr ⟨k0,k1⟩]at iO;rw[cx k1];left;refine t1.bb wf.g Y _ k0 k1 λB W2 L p2=>?_;rw[show decide (V.str (HK x)=V.str (U3 "stick"))=x by cases x<;>decide +kernel]at L;show⟨Am,λJ H3 n3=>?_⟩;exact rest _ iO _ _ J [] (L.new n3) ((Af.of O).trans<|p2.trans (.of n3.same)) .nil
     .rw[ck λc=>k1 (F6.mp c).2]at iO;rw[cN k1];ext;exact D iO H1 O
    .rw[ck λc=>k0 (F6.mp c).1]at iO;refine D4 (cN k0) ?_;ext;exact D iO H1 O
  |line d z =>
   rw [show FE (.str d.wo) [V.str "stick",V.str "mend"]=false by cases d<;>rfl];left;show 3;refine EH b W S R d z rfl ⟨t1,wf,?_⟩;cases el:S.lns[Bf S.lns z]? with
   |none=>exact I .cH (by simp only[Bi.res,el]) H1 O
   |some ln =>
    refine⟨λhf B s2=>I .dZ (by simp only[Bi.res,el];rw[ck<|by rw[hf];exact VG]) B<|O.trans s2,λhf B W2 r xs L p2 td=>rest (d.go S (Bf S.lns z) ln) (by simp only[Bi.res,el];rw[bf hf]) B W2 r xs L ((Af.of O).trans p2) td⟩
noncomputable def Er.is:Er->Er->Bool
 |.cH,.cH|.cJ,.cJ|.dZ,.dZ=>true
 |_,_=>false
structure ExF(K:UT)(a:An)(e:Er):Prop where
 c:EZ K (e.adr a)
 m:ZG K (.ref (e.adr a)) (.ref a.r6)=some true
 k:∀i:Er,WB K (.ref (e.adr a)) (.ref (i.adr a))=some (i.is e)
 v:WB K (.ref (e.adr a)) (.type "ValueError")=some true
 o:YG K (.ref (e.adr a)) [.ref a.fL,.ref a.jt,.ref a.nQ,.ref a.nR]=some false
structure HQ(P:UZ)(w:UU)(K:UT)(mg:aU->Option af)(a:An):Prop extends TxtW P w K mg a where
 ab9:mg "HallError"=some (.ref a.r6)
 aca:mg "NoRow"=some (.ref a.nQ)
 acb:mg "NoText"=some (.ref a.nR)
 acd:mg "ValueError"=none
 ace:mg "zip"=none
 ex:∀e,ExF K a e
def T6(K:UT)(a:An):Sp:=λvs H Q _=>∃(X:HX)(R:Ax)(d:Bi)(dd:ar),vs=[.ref X.h,.ref dd]/\HT K a H X R/\H dd=some (.tup d.vals)/\WF X.S/\d.txt/\X.dn.length<100000 /\
 match d.res X.S with
 |.inl e=>∀H',Ah H H'->Q (.str e.nm) H'
 |.inr r=>∀H' X' p xs,HT K a H' X' ((p,.lst (xs.map V.ref))::R)->X'.h=X.h->X'.S=(Cz (Dy r.2 dd)).2->Af H H'->BV K H' xs (r.1++(Cz (Dy r.2 dd)).1)->Q (.ref p) H'
def C4:AM ["hall","deed","told","kinds","e","some"] ["hall","deed"] (Ab<|top 56):=.of
def Ahk:Gm (Ab<|top 56) "int":=.of
def Ahl:Gm (Ab<|top 56) "zip":=.of
def Ahm:Gm (Ab<|top 56) "HallError":=.of
def Kb:Gm (Ab<|top 56) "isinstance":=.of
def Ahn:Gm (Ab<|top 56) "BadPlan":=.of
def Aho:Gm (Ab<|top 56) "NoFigure":=.of
def Ahp:Gm (Ab<|top 56) "NoRow":=.of
def Ahq:Gm (Ab<|top 56) "NoText":=.of
def Ahr:Gm (Ab<|top 56) "NoLine":=.of
def Ahs:Gm (Ab<|top 56) "NoSwitch":=.of
def Aht:Gm (Ab<|top 56) "NotSo":=.of
def Ahu:Gm (Ab<|top 56) "ValueError":=.of
noncomputable def OB:Scope:={ kind:=.function,names:=[(".0",.local),("name",.local),("is_it",.local)],isGenerator:=false,isCoroutine:=false,more:=[] }
def OC:Bl OB (Ab<|top 56) ["name","is_it"] ["hall","deed","told","kinds","e","some"] [none,none]:=(Bl.mk' rfl `o `o `o `o rfl<|(by decide +kernel))
def T7:Nm OB "name":=.of
def T8:Nm OB "is_it":=.of
def Ahv(F:AE K "_law_answer" "_law_answer" (top 56) f fd)(T:HQ P w K mg a)(acf:AR P w K mg base (AI P w) 9 a.ak "do" ["self","deed"] (SU K a)):Az P w K mg base Av 10 f fd ["hall","deed"] (T6 K a):=by
 refine F.ok C4.fs λai A outer s H vs Q E hr h=>?_
 .obtain ⟨X,R,d,dd,rfl,t,cb,wf,tx,dz,q⟩:=h;show 4;have nd:=C4.fs.nd;have acg:=(T.hc.cls);have e9:=wf.g.e9;refine⟨_,(@Ad _ _ _ _ _ (A8 2 C4 Cv)<|Ad (A8 3 C4<|A3 B3) (Ad (Acp 4 Ahm (C4.n 4 rfl) T.ab9 nd (λEw π W hp ho=>(Ai<|A8 2 C4 (AcI acf acg (Aa 0 C4) hr.d hp<|Ag (Aa 1 C4)))) λI=>(Ad (A8 3 C4<|A3 (Co (Bo Hi Kb T.gu Hj<|AJ (Aa 4 C4) (Ea (v:=.ref a.fM) Ahr T.sX rfl))<|A0 (Bo Hi Kb T.gu Hj<|AJ (Aa 4 C4) (Ea (v:=.ref a.cf) Ahs T.kJ rfl)) (Bo Hi Kb T.gu Hj<|AJ (Aa 4 C4) (Ea (v:=.ref a.hJ) Aht T.oQ rfl)) (Bo Hi Kb T.gu Hj<|AJ (Aa 4 C4) (Mz (v:=.ty "ValueError") Ahu T.acd Acm rfl))))<|Ai (A4<|Ci VR Wb Wc Dl (Aa 3 C4) (Ag<|Mi (Bo Hi Kb T.gu Hj<|AJ (Aa 4 C4) (Bp<|Co (Ea (v:=.ref a.fL) Ahn T.dQ rfl) (A0 (Ea (v:=.ref a.jt) Aho T.tH rfl) (Ea (v:=.ref a.nQ) Ahp T.aca rfl)<|Ea (v:=.ref a.nR) Ahq T.acb rfl)))))))<|Ad (AV (A1 (B5 hu) (Aa 3 C4)<|A3 B3)<|Ai (AB<|Aa 2 C4)) (Ad (Hl (j:=5) rfl nd rfl (U6 (C4.n 5 rfl).loc) OC (Aea Ahl T.ace<|AJ (A3<|A0 Ae Ae Ae) (Aa 3 C4)) (λcl C fp π s₂ H₂=>(Im (X:=Bu _ _ _ cl C fp π s₂ H₂) K rfl 2 rfl (BW (Cf 0 OC.nd T7.comp)<|BW (Cf 1 OC.nd T8.comp) D7) rfl rfl)) (λcl C fp π s₂ H₂=>(GI<|Dj (Ap 1 T8.comp))) (λcl C fp π s₂ H₂=>(Ap 0 T7.comp)) (by rfl) (by intro _;rfl)<|U6 rfl)<|Ai (AB<|Ci PySem.F.plainAttrs_str PySem.F.slot_str_join PySem.F.type_str_join AdL Ae (Ag<|Ar BL (Aa 5 C4) (Ar Ce (A3<|Ag Ae)<|CO MW Ahk T.nS My (Ag<|K8 (E8 hu) (FA Js (Aa 3 C4) (Fz Aj) Fy) (A3<|AJ DX DX)))))))),?_⟩;try dsimp only[av,aw]
  have aZ:start ["hall","deed","told","kinds","e","some"] [V.ref X.h,V.ref dd]=[some<|.ref X.h,some<|.ref dd,none,none,none,none]:=rfl;simp only[aZ,WQ,WR];show⟨Am,λl H1 Y=>?_⟩;have t1:HT K a H1 X ((l,.lst [])::R):=by rw[Y.e];exact t.new Y.n
  ext;intro Ew π;show AZ X.h X.dx _ rfl t1.t.aA rfl ?_;show Be X _ d dd rfl t1 (Y.same _ _ cb) (wf.pre tx) (by change X.S.q.length<1000;omega) ?_;cases er:d.res X.S with
  |inr r =>
   rw [er]at q;obtain⟨bL,qo,tz⟩:=AU<|wf.res er;refine⟨bL.cT,(by rw[qo];change X.dn.length<_;omega),tz,λH2 X2 p xs t2 eh eS p2 td=>?_⟩;show⟨Am,λl3 H3 n3=>?_⟩;refine U4 ⟨.list [],.list [],.lst (.of<|n3.same _ _ t2.t.rest.tl.hd) .nil,.lst (.of n3.get) .nil,rfl,rfl,(by decide),?_⟩;ext;exact q H3 X2 p xs ((t2.same n3.same).sub<|.cons₂ _ (.cons _<|.refl _)) eh eS ((Af.of Y.same).trans<|p2.trans (.of n3.same))<|td.aj (.of n3.same)
  |inl e =>
   rw [er]at q;intro H2 s2;have x:=T.ex e;refine⟨x.m,λI hea=>?_⟩;have s3:=(Ah.refl H2).upd (o:=EY I<|Vo (e.adr a)) hea;have e3:(upd H2 I<|EY I (Vo<|e.adr a)) I=some (EY I<|Vo (e.adr a)):=Ao;generalize upd H2 _ _=H3 at s3 e3 ⊢;show U6 (Dv _ _ _ _ _ rfl ⟨.exc e3 x.c,rfl,x.k .cH,?_⟩);show U6 (Dv _ _ _ _ _ rfl ⟨.exc e3 x.c,rfl,x.k .cJ,?_⟩);show U6 (Dv _ _ _ _ _ rfl ⟨.exc e3 x.c,rfl,x.k .dZ,?_⟩);show U6 (Dv _ _ _ _ _ rfl ⟨.exc e3 x.c,rfl,x.v,?_⟩);refine⟨Am,λL H4 n4=>?_⟩;show⟨.inl ⟨rfl,_,.of n4.get⟩,?_⟩;show⟨Am,λtk H5 n5=>?_⟩;refine U4<|EH I _ tk _ _ _ rfl ⟨n5.same _ _<|n4.same _ _ e3,x.c,n5.get,rfl,x.o,?_⟩;show CZ L _ _ rfl rfl (n5.same _ _ n4.get) (by change 4<sizeLine;decide) ?_;have s5:Ah H H5:=Y.same.trans<|s2.trans (s3.trans<|n4.same.trans n5.same);obtain⟨B,J⟩:∃B:List (aU×Bool),B=[(("NoLine":aU),Er.cH.is e),("NoSwitch",Er.cJ.is e),("NotSo",Er.dZ.is e)]:=(⟨_,rfl⟩);rw[show([V.bl<|Er.cH.is e,V.bl<|Er.cJ.is e,V.bl<|Er.dZ.is e,V.bl true]++[V.bl !false])=B.map (λp=>V.bl p.2)++[.bl true,.bl true] by rw[J];rfl];have s6:Ah H (upd H5 L<|.lst (B.map (λp=>V.bl p.2)++[.bl true,.bl true])):=s5.bq<|(Y.same.trans<|s2.trans s3).free n4.n;have k6:(upd H5 L<|.lst (B.map (λp=>V.bl p.2)++[.bl true,.bl true])) L=_:=Ao;generalize upd H5 _ _=H6 at s6 k6 ⊢;show⟨Am,λl7 H7 n7=>?_⟩;refine U4 ⟨.list<|B.map (λp=>PyData.bool p.2)++[.bool true,.bool true],.list [],.lst (.of<|n7.same _ _ k6)<|by rw[J];exact .cons (.bl _)<|.cons (.bl _) (.cons (.bl _)<|.cons (.bl _) (.cons (.bl _) .nil)),.lst (.of n7.get) .nil,by rw[J];rfl,rfl,by rw[J];cases e<;>decide,?_⟩;rw[show Yo (.list<|B.map (λp=>PyData.bool p.2)++[.bool true,.bool true]) (.list [])=false by rw[J];rfl];show⟨Am,λl8 H8 n8=>?_⟩;have k8:=(n7.same.trans n8.same) _ _ k6;show Ep l8 L _ _ rfl ⟨.of n8.get,.of k8,λD nD=>?_⟩;refine Aeb (K:=K) (a:=l8) (b:=L) (xs:=B.map λp=>V.str p.1) (ys:=B.map (λp=>V.bl p.2)++[.bl true,.bl true]) (λi σ' O=>∃x y,σ'=[x,y]/\Ah H8 O/\O D=some (.lst (((B.take i).filter (·.2)).map λp=>V.str p.1))) (by rw[VA,UW,UW];omega) ⟨none,none,rfl,(Ah.refl H8).upd nD,Ao⟩ (λi σ O _ ⟨_,_,_,sm,_⟩=>⟨.of<|sm _ _ (by rw[J];exact n8.get),.of<|sm _ _ k8⟩) ?_ ?_
   .rintro i x y tt σ' O hx hy ⟨x0,y0,rfl,sm,hD⟩ lI;rw[Va]at hx;obtain⟨p,hp,rfl⟩:=Au<|VH.mp hx;rw[vS<|by rw[UW];exact(Vz.mp hp).1,Va,hp]at hy;cases hy;have tf:=Tt (λp:aU×Bool=>p.2) B i p hp;have len:(((B.take i).filter (·.2)).map λp=>V.str p.1).length<sizeLine:=by
     have:=Zg (λp:aU×Bool=>p.2)<|B.take i;have:=zF i B;rw[UW,U0];rw[J]at *;simp only[VX,ZN]at *;omega
    have cG:=sm.upd (o:=.tup [V.str p.1,V.bl p.2]) lI;have qp:=((Ah.refl O).upd (o:=.tup [V.str p.1,V.bl p.2]) lI) _ _ hD;have et:(upd O tt<|.tup [V.str p.1,V.bl p.2]) tt=_:=Ao;generalize upd O _ _=H9 at cG qp et ⊢;show CN tt _ rfl (.of et) rfl ?_;ext;cases hb:p.2 with
    |false =>
     rw [hb]at tf;refine BQ ⟨_,_,rfl,cG,?_⟩;rw[qp,tf,ck<|(by decide),V5]
    |true =>
     rw [hb]at tf;apply B4;show⟨_,qp,len,_,_,rfl,cG.bq nD,?_⟩;rw[Ao,tf,bf rfl,Vg];rfl
   intro σ' H9 zq;replace zq:=BB zq;obtain⟨x,y,rfl,s9,hD⟩:=zq;rw[UW,Wi,show(B.filter (·.2)).map (λp=>V.str p.1)=[.str e.nm] by rw[J];cases e<;>rfl]at hD;have k9:=s9 _ _ k8;show⟨Am,λl10 cV gM=>?_⟩;show U4 (Bb L _ rfl (.of<|gM.same _ _ k9) ?_);intro qq ach;rw[show G6 (B.map (λp=>V.bl p.2)++[V.bl true,V.bl true]) (some 3) none=[.bl true,.bl true] by rw[J];rfl];have fU:BI cV (upd cV qq<|.lst [.bl true,.bl true]) qq (.lst [.bl true,.bl true]):=⟨ach,rfl⟩;generalize upd cV _ _=fj at fU ⊢;show⟨Am,λl12 fQ lJ=>?_⟩;refine U4 ⟨.list [.bool true,.bool true],.list [.bool true,.bool true],.lst (.of<|lJ.same _ _ fU.get)<|.cons (.bl _) (.cons (.bl _) .nil),.lst (.of lJ.get)<|.cons (.bl _) (.cons (.bl _) .nil),rfl,rfl,(by decide),?_⟩;show U6 (C5 _ rfl ?_);ext;have lK:=(fU.same.trans lJ.same) _ _ gM.get;refine U4<|U4 (BO l10 0 _ rfl ⟨rfl,lK,(by decide),(by decide),by change 1*0<=sizeLine;decide,λlL aci=>?_⟩);have qr:BI fQ (upd fQ lL<|.lst []) lL (.lst []):=⟨aci,rfl⟩;rw[show(U5 (0:Int).toNat [V.str<|U3 "other"]).flatten=[]from rfl];generalize upd fQ _ _=jY at qr ⊢;have uu:Ah H9 jY:=gM.same.trans<|fU.same.trans (lJ.same.trans qr.same);refine U4<|U4 (Be D lL _ _ rfl rfl (uu _ _ hD) qr.get (by change 1+0<=sizeLine;decide) λlM acj=>?_);have gL:BI jY (upd jY lM<|.lst ([V.str e.nm]++[])) lM (.lst<|[V.str e.nm]++[]):=⟨acj,rfl⟩;generalize upd jY _ _=ue at gL ⊢;show BO _ lM [e.nm] rfl ⟨rfl,.of gL.get,by cases e<;>decide,by decide,?_⟩;rw[show Str.join (U3 " ") [e.nm]=e.nm by cases e<;>decide +kernel];exact q _<|s6.trans (n7.same.trans<|n8.same.trans (s9.trans<|uu.trans gL.same))
def VW.A(W:VW)(R:Ax):Ax:=W.C ((W.sp,.lst (W.du.map V.int))::(W.st,.lst (W.dv.map V.int))::R)
structure BD(K:UT)(a:An)(b:ar×ar×List aU)(H:Hp)(X:HX)(W:VW)(R:Ax):Prop where
 h:HT K a H X (W.A R)
 w:Dt K H W X.S
 b:W.w=b.1/\W.ln=b.2.1/\W.lns=b.2.2
def Fq:A5 a X R=A5 a X []++R:=by unfold A5;simp only[V5,Vj]
section
variable {K:UT}{a:An}{b:ar×ar×List aU}{H H':Hp}{X:HX}{W:VW}{R C:Ax}
def VW.d4:W.A R=W.A []++R:=by unfold VW.A;rw[VW.app,VW.app (R:=_::_::[]),Vj];rfl
def BD.same(t:BD K a b H X W R)(s:Ah H H'):BD K a b H' X W R:=⟨t.h.same s,t.w.aj<|.of s,t.b⟩
def At.toW(t:At H (A5 a X<|C++W.A R)):At H (W.A<|A5 a X (C++R)):=by rw[Fq,VW.d4,<-Vj]at t;rw[VW.d4,Fq,<-Vj (A5 a X [])];exact t.swap
def At.toH(t:At H (W.A<|A5 a X (C++R))):At H (A5 a X<|C++W.A R):=by rw[Fq,VW.d4,<-Vj];rw[VW.d4,Fq,<-Vj (A5 a X [])]at t;exact t.swap
def BD.wd(t:BD K a b H X W R):WD K b H W X.S (A5 a X R):=⟨At.toW (C:=[]) t.h.t,t.w,t.b⟩
end
noncomputable def T9(p:aU×Int):PyData:=.tuple [.str p.1,.int p.2]
noncomputable def Ua:Option aU->PyData
 |none=>.none
 |some z=>.str z
theorem OD:∀{xs:List ar}{ps:List (aU×Int)},CF H xs ps->aQ K H (xs.map V.ref) (ps.map T9)
 |[],[],_=>.nil
 |[],_::_,h=>h.elim
 |_::_,[],h=>h.elim
 |_::_,_::_,h=>.cons (.tup (.of h.1) (.cons (.str _) (.cons (.int _) .nil))) (OD h.2)
theorem Ub:∀f:Option aU,Is K H (DR f) (Ua f)
 |none=>.aa
 |some z=>.str z
noncomputable def OE(ln:Ln):PyData:=.list [.str ln.st,.str ln.ae,.list (ln.held.map T9),Ua ln.ao,ln.why]
def Ahw{S:PS}(w:WF S)(x:WX S){i:Nat}{ln:Ln}(h:S.lns[i]?=some ln):Bg 5 (OE ln):=by
 have t:=x.get h;have L:=w.l i ln h;obtain⟨v,D,y⟩:=Au L.wy;refine .lst λd m=>?_;simp only[Vc,VC,or_false]at m;rcases m with rfl|rfl|rfl|rfl|rfl
 .rw[D];exact .str v.ok.1
 .exact .str t.ae
 .refine (Bg.lst (n:=1) λd m=>?_).up `x;obtain⟨p,H,rfl⟩:=Au<|Ve.mp m;exact .tup<|GY (.str<|t.held p H) (.int _)
 .cases hf:ln.ao with
  |none=>exact .aa
  |some z =>
   have B:∀o,HL S i ln o->B6 z:=λo ⟨j,lo,I,_,f1,_⟩=>by
    rw [hf]at f1;rw[Vq f1];exact(w.g.tx _<|EA I).1.1
   refine .str ?_;cases v with
   |rests=>rw[y.2.1]at hf;cases hf
   |bY=>rw[y.2.1]at hf;cases hf
   |aV=>rw[y.1]at hf;cases hf
   |told=>rw[y.2.1]at hf;cases hf
   |rings=>exact B _ y.2
   |cu=>exact B _ y.2.2
   |dq=>exact B _ y.2
 .exact t.why.up `x
def Ahx (g:WG S)(D:AS S u=some r):∀v∈IE S u r,∃z,v=.str z/\B6 z:=by
 intro v H;obtain⟨k,mk,rfl⟩:=Au<|Ve.mp H;have I:=We.mp mk;obtain⟨B,J,L⟩:=Au<|Oh g D (Vi I);have e:(if u=U3 "" then r.1.map (Eg S)else r.1).getD k .aa=B:=by rw[Vt,show(if u=U3 "" then r.1.map (Eg S)else r.1)[k]?=some B from J];rfl
 dsimp only;rw[e];rcases L with ⟨_,rfl⟩|⟨_,z,rfl,_,O⟩
 .rw[bf rfl];split
  .exact ⟨_,rfl,asc⟩
  .exact ⟨_,rfl,asc⟩
 .rw[ck λc=>nomatch c];exact⟨z,rfl,O.1⟩
theorem Uc:∀{vs:List V},(∀v∈vs,∃z,v=.str z/\B6 z)->∃zs:List aU,vs=zs.map V.str/\∀z∈zs,B6 z
 |[],_=>⟨[],rfl,λz m=>nomatch m⟩
 |v::vs,h=>by
  obtain⟨z,rfl,k⟩:=h v VJ;obtain⟨zs,rfl,B⟩:=Uc λu m=>h u (Vw _ m);exact⟨z::zs,rfl,λy m=>(Vc.mp m).elim (λc=>c▸k) (B y)⟩
def Ud(K:UT)(a:An):Sp:=λvs H Q _=>∃(X:HX)(b:ar×ar×List aU)(W:VW)(R:Ax)(dl:List ar)(ds:List PyData),vs=[.ref X.h,.ref b.1]/\BD K a b H X W R/\WF X.S/\WX X.S/\X.dn=dl.map V.ref/\BV K H dl ds/\(∀d∈ds,Bg 2 d)/\∀H',Ah H H'->Q (.bl true) H'
def Br:AM ["hall","world","line","way","told","where"] ["hall","world"] (Ab<|top 57):=.of
def Ahy:Gm (Ab<|top 57) "sorted":=.of
def Ahz:Gm (Ab<|top 57) "_law_paper":=.of
def AhA(F:AE K "_law_shows" "_law_shows" (top 57) f fd)(T:TxtW P w K mg a)(ack:AR P w K mg base (AI P w) 2 a.ak "way" ["self","line"] (Gf K a λx=>.str x.l.st))(acm:AR P w K mg base (AI P w) 2 a.ak "figures" ["self","line"] (Gf K a λx=>.str x.l.ae))(acn:AR P w K mg base (AI P w) 2 a.ak "holds" ["self","line"] (SV K a))(aco:AR P w K mg base (AI P w) 2 a.ak "other" ["self","line"] (Gf K a λx=>DR x.l.ao))(acp:AR P w K mg base (AI P w) 2 a.ak "told_paper" ["self","line"] (Gf K a λx=>x.wv))(pw:AR P w K mg base (AI P w) 2 a.ak "paper" ["self","where"] (S5 K a))(acq:AR P w K mg base (AI P w) 2 a.ak "shares" ["self","where"] (S4 K a))(acr:AR P w K mg base Av 1 a.ak "waiting" ["self"] (ID K a λX=>X.q.map V.str))(pK:AR P w K mg base Av 2 a.ak "steps" ["self"] (ID K a λX=>X.sk.k.wt.map V.int))(acs:AR P w K mg base Av 1 a.ak "deeds" ["self"] (ID K a λX=>X.dn))(iK:Bt P w K mg base Av 1 "_law_paper" ["world","where"] (Om K)):Az P w K mg base Av 3 f fd ["hall","world"] (Ud K a):=by
 refine F.ok Br.fs λai A outer s H vs Q E J h=>?_
 .obtain ⟨X,b,W,R,dl,ds,rfl,t,Y,wx,uv,tdn,ldn,q⟩:=h;have hu:=J.units;have nd:=Br.fs.nd;have acu:=(T.hc.cls);have acv:=(T.hc.cls);have acw:=(T.hc.cls);have acx:=(T.hc.cls);have acy:=(T.hc.cls);have pB:=(T.hc.cls);have acz:=(T.hc.cls);have acA:=(T.hc.cls);have pL:=(T.hc.cls);have acB:=(T.hc.cls);have tw:=t.wd;have HA:∀{H'},Ah H H'->H' X.h=_:=λs=>(t.h.same s).t.aA;refine⟨_,(@Ad _ _ _ _ _ (CM VZ rfl (Dk<|Aq P w K (Aa 1 Br) Ae) (B9 2 Br)<|Ad (A8 3 Br<|Aq P w K (Aq P w K (Aa 1 Br) Ae) (Aa 2 Br)) (Ad (A8 4 Br<|A3 (Co (A6 ack acu (Aa 0 Br) J.d GD<|Ag (Aa 2 Br))<|Co (A6 acm acv (Aa 0 Br) J.d GD<|Ag (Aa 2 Br)) (A0 (A6 acn acw (Aa 0 Br) J.d GD<|Ag (Aa 2 Br)) (A6 aco acx (Aa 0 Br) J.d GD<|Ag (Aa 2 Br))<|A6 acp acy (Aa 0 Br) J.d GD (Ag<|Aa 2 Br))))<|Ai (AV (A1 (E8 hu) (Aa 4 Br)<|A3 (Co (Aa 3 Br)<|Co (Aq P w K (Aq P w K (Aa 1 Br) Ae)<|Aa 2 Br) (A0 (Aq P w K (Aq P w K (Aa 1 Br) Ae)<|Aa 2 Br) (Aq P w K (Aq P w K (Aa 1 Br) Ae)<|Aa 2 Br)<|Aq P w K (Aq P w K (Aa 1 Br) Ae) (Aa 2 Br))))<|Ai (AB DX))))<|Ad (CM VZ rfl (Dk<|Bo (Ad6 rfl) Ahy T.kR KN (Ag<|Aq P w K (Aa 1 Br) Ae)) (B9 5 Br)<|Ai (AV (PW.pt<|I0 (A1 (E8 hu) (A6 pw pB (Aa 0 Br) J.d GD<|Ag (Aa 5 Br))<|A9 iK Ahz J.d AK (AJ (Aa 1 Br)<|Aa 5 Br)) (IZ<|A1 (E8 hu) (A6 acq acz (Aa 0 Br) J.d GD<|Ag (Aa 5 Br)) (Aq P w K (Aq P w K (Aa 1 Br) Ae)<|Aa 5 Br)))<|Ai (AB DX))) (Ai<|AB (K8 (B5 hu) (A3<|A0 (GK acr acA (Aa 0 Br) J.d AK) (GK pK pL (Aa 0 Br) J.d AK) (GK acs acB (Aa 0 Br) J.d AK))<|A3 (A0 (Aq P w K (Aa 1 Br) Ae) (Aq P w K (Aa 1 Br) Ae)<|Aq P w K (Aa 1 Br) Ae)))),?_⟩;try dsimp only[av,aw]
  have aZ:start ["hall","world","line","way","told","where"] [V.ref X.h,V.ref b.1]=[some<|.ref X.h,some<|.ref b.1,none,none,none,none]:=rfl;simp only[aZ,WQ,WR];left;refine⟨⟨_,.of tw.lns⟩,D8 (K:=K) (a:=W.ln) (xs:=(X.S.lns.map (·.num)).map V.str) (λn σ H2=>∃x y z,σ=[some<|.ref X.h,some<|.ref b.1,x,y,z,none]/\Ah H H2) ⟨none,none,none,rfl,.refl H⟩ (λn σ H2 _ ⟨_,_,_,_,D⟩=>.of<|D _ _ tw.lns) ?_ ?_⟩
  .intro n v σ H2 hn zq;replace zq:=Dg zq;obtain⟨x0,y0,z0,rfl,D⟩:=zq;rw[Va,Va]at hn;obtain⟨_,hn1,rfl⟩:=Au<|VH.mp hn;obtain⟨ln,h,rfl⟩:=Au<|VH.mp hn1;have w2:=tw.same D;have zk:Ok ln.num:=(Y.g.tx _<|EA h).1;obtain⟨x,hx,rfl⟩:=Au<|t.h.at h;have rd:∀{sel:LX->V} {H'} {Q':V->Hp->Prop} {E'},Ah H H'->Q' (sel x) H'->Gf K a sel [.ref X.h,.str x.l.num] H' Q' E':=λs c=>⟨X,_,x.l.num,rfl,t.h.same s,zk,λj y hy e=>by
    obtain⟨e1,_⟩:=Y.g.one (show X.S.lns[j]?=some y.l by change(X.lines.map (·.l))[j]?=_;rw[Va,hy];rfl) h e;rw[e1,hx]at hy;cases hy;exact c,λno=>absurd (Ve.mpr ⟨x,Vh hx,rfl⟩) no⟩
   left;apply AZ X.h X.dx _ rfl (HA D) rfl;ext;show 3;apply rd D;show AZ X.h X.dx _ rfl (HA D) rfl ?_;ext;show 3;apply rd D;show AZ X.h X.dx _ rfl (HA D) rfl ?_;show CZ X _ x.l.num rfl (t.h.same D) zk (λj y hy ey l nl=>?_) (λno=>absurd (Ve.mpr ⟨x,Vh hx,rfl⟩) no);obtain⟨e1,_⟩:=Y.g.one (show X.S.lns[j]?=some y.l by change(X.lines.map (·.l))[j]?=_;rw[Va,hy];rfl) h ey;rw[e1,hx]at hy;cases hy;have n3:BI H2 (upd H2 l<|.lst (x.hv.map V.ref)) l (.lst<|x.hv.map V.ref):=⟨nl,rfl⟩;generalize upd H2 _ _=H3 at n3 ⊢;have s3:=D.trans n3.same;show AZ X.h X.dx _ rfl (HA s3) rfl ?_;ext;show 3;apply rd s3;show AZ X.h X.dx _ rfl (HA s3) rfl ?_;ext;show 3;apply rd s3;show⟨Am,λl5 H4 n4=>?_⟩;have B:=s3.trans n4.same;have w4:=tw.same B;obtain⟨as,ta,pr⟩:=Au<|w4.ax h;left;refine w4.abW h λwv iw=>?_;show⟨Am,λl6 H5 L=>?_⟩;have lx:=(t.h.same<|B.trans L.same).ok.lx n x hx;have I:=Ahw Y wx h;have wt:=(tw.ok.l n x.l h).wt;refine U4 ⟨OE x.l,OE x.l,.lst (.of<|L.same _ _ n4.get)<|.cons (.str _) (.cons (.str _)<|.cons (.lst (.of<|L.same _ _ (n4.same _ _ n3.get))<|OD lx.pr) (.cons (Ub _)<|.cons lx.w .nil)),.lst (.of L.get)<|.cons (.str _) (.cons (.str _)<|.cons (.lst (.of<|L.same _ _ ta)<|OD (pr.aj<|.of L.same)) (.cons (Ub _)<|.cons (Is.aj _ wt iw<|.of L.same) .nil)),I.c,I.c,(by have:=I.k;omega),?_⟩;rw[Zl _ I.c];ext;exact BO _ _ _ rfl<|B.trans L.same
  .intro σ H2 zq;replace zq:=Dg zq;obtain⟨x0,y0,z0,rfl,D⟩:=zq;have w2:=tw.same D;left;refine BO _ _ (W.kz .aE) rfl ⟨.of<|w2.t.vk .aE,(by change V1 _ (V1 _ _)=_;rw[Vn];rfl),w2.ok.un,w2.ok.ul,λl ts nl pm _=>?_⟩;have n3:BI H2 (upd H2 l<|.lst (ts.map V.str)) l (.lst<|ts.map V.str):=⟨nl,rfl⟩;generalize upd H2 _ _=H3 at n3 ⊢;have s3:=D.trans n3.same;refine C5 l rfl ⟨⟨_,.of n3.get⟩,D8 (K:=K) (a:=l) (xs:=ts.map V.str) (λn σ H4=>∃x,σ=[some<|.ref X.h,some<|.ref b.1,x0,y0,z0,x]/\Ah H3 H4) ⟨none,rfl,.refl H3⟩ (λn σ H4 _ ⟨_,_,B⟩=>.of<|B _ _ n3.get) ?_ ?_⟩
   .intro n v σ H4 hn zq;replace zq:=Au zq;obtain⟨x5,rfl,lN⟩:=zq;rw[Va]at hn;obtain⟨u,ni,rfl⟩:=Au<|VH.mp hn;have B:=s3.trans lN;obtain⟨r,er⟩:=Zx.mp<|(tw.ok.rz u).mp (pm.mem_iff.mp<|Vh ni);have zk:Ok u:=by
     unfold AS at er;by_cases c:u=U3 ""
     .rw[c];exact⟨IJ,(by decide)⟩
     .rw[ck c]at er;obtain⟨g,eg,_⟩:=Au<|VH.mp er;have:=Y.g.px g (FO eg).1;rwa[(FO eg).2]at this
    obtain⟨zs,ezs,azs⟩:=Au<|Uc (Ahx Y.g er);show AZ X.h X.dx _ rfl (HA B) rfl ?_;show CZ X _ u rfl (t.h.same B) zk Y.g.hs ?_;rw[er];intro H5 tt s5 e5;ext;show 3;refine EH b W _ _ u r rfl ⟨tw.same<|B.trans s5,Y.g,er,λH6 tt2 qv e6=>?_⟩;obtain⟨I,dp⟩:=Oe azs;rw[ezs]at e5 e6;refine U4 ⟨.tuple<|zs.map Xc,.tuple<|zs.map Xc,.tup (.of<|qv _ _ e5)<|II zs,.tup (.of e6)<|II zs,I,I,(by rw[Tu];omega),?_⟩;rw[Zl (.tuple<|zs.map Xc) I];have s6:=B.trans<|s5.trans qv;show AZ X.h X.dx _ rfl (HA s6) rfl ?_;show EF (t.h.same s6) zk ?_;rw[er];intro l7 nl7;have O:BI H6 (upd H6 l7<|.lst (r.2.2.map V.int)) l7 (.lst<|r.2.2.map V.int):=⟨nl7,rfl⟩;generalize upd H6 _ _=H7 at O ⊢;have w7:=tw.same<|s6.trans O.same;left;obtain⟨gK,tY⟩:=LM r.2.2;refine U4 ⟨.list<|r.2.2.map Wd,.list<|r.2.2.map Wd,.lst (.of O.get)<|GX _,.lst (.of<|w7.shr er)<|GX _,gK,gK,(by rw[J8];omega),?_⟩;rw[Zl (.list<|r.2.2.map Wd) gK];ext;exact lN.trans<|s5.trans (qv.trans O.same)
   .intro σ H4 zq;replace zq:=Au zq;obtain⟨x5,rfl,lN⟩:=zq;have B:=s3.trans lN;show AZ X.h X.dx _ rfl (HA B) rfl ?_;refine Bb X _ rfl (t.h.same B) λl1 jx=>?_;have L:BI H4 (upd H4 l1<|.lst (X.q.map V.str)) l1 (.lst<|X.q.map V.str):=⟨jx,rfl⟩;generalize upd H4 _ _=H5 at L ⊢;have s5:=B.trans L.same;show AZ X.h X.dx _ rfl (HA s5) rfl ?_;refine Bb X _ rfl (t.h.same s5) λl2 cg=>?_;have n6:BI H5 (upd H5 l2<|.lst (X.sk.k.wt.map V.int)) l2 (.lst<|X.sk.k.wt.map V.int):=⟨cg,rfl⟩;generalize upd H5 _ _=H6 at n6 ⊢;have s6:=s5.trans n6.same;show AZ X.h X.dx _ rfl (HA s6) rfl ?_;refine Bb X _ rfl (t.h.same s6) λl3 gw=>?_;have O:BI H6 (upd H6 l3<|.lst X.dn) l3 (.lst X.dn):=⟨gw,rfl⟩;generalize upd H6 _ _=H7 at O ⊢;refine⟨Am,λl4 H8 n8=>?_⟩;have w8:=tw.same<|s6.trans (O.same.trans n8.same);left;refine⟨Am,λl9 H9 n9=>?_⟩;have w9:=w8.same n9.same;have s9:=s6.trans<|O.same.trans (n8.same.trans n9.same);have lb:=tdn.aj<|.of s9;have vd:=w9.dn;have e7:=(n8.same.trans n9.same) _ _ O.get;rw[show X.S.dn=X.dn from rfl,uv]at vd;rw[uv]at e7;have I:Bg 4 (.list [.list<|X.q.map Xc,.list<|X.sk.k.wt.map Wd,.list ds]):=by
     refine .lst<|EN ?_ ?_ (.lst ldn)
     .refine (Bg.lst (n:=0) λd m=>?_).up `x;obtain⟨z,mz,rfl⟩:=Au<|Ve.mp m;exact .str (Y.g.tx z<|Y.g.cq z mz).1.1
     .refine (Bg.lst (n:=0) λd m=>?_).up `x;obtain⟨z,mz,rfl⟩:=Au<|Ve.mp m;exact .int _
    refine U4 ⟨.list [.list<|X.q.map Xc,.list<|X.sk.k.wt.map Wd,.list ds],.list [.list<|X.q.map Xc,.list<|X.sk.k.wt.map Wd,.list ds],.lst (.of<|n9.same _ _ n8.get)<|.cons (.lst (.of<|(n6.same.trans<|O.same.trans (n8.same.trans n9.same)) _ _ L.get)<|II _) (.cons (.lst (.of<|(O.same.trans<|n8.same.trans n9.same) _ _ n6.get)<|GX _)<|.cons (.lst (.of e7) lb.i) .nil),.lst (.of n9.get)<|.cons (.lst (.of w9.q)<|II _) (.cons (.lst (.of w9.st)<|GX _)<|.cons (.lst (.of vd) lb.i) .nil),I.c,I.c,(by have:=I.k;omega),?_⟩;rw[Zl _ I.c];exact q H9 s9
def Ue(K:UT):Sp:=λvs H Q _=>∃(pt l g:ar)(long n:Int)(zs:List aU)(ts:List Pr)(C:Ax),vs=[.ref pt]/\At H C/\H pt=some (.tup [.int long,.ref l,.int n,.ref g])/\(l,.lst (zs.map V.str))∈C/\(g,.lst (ts.map Bw))∈C/\C7 H ts/\Hv long n zs ts /\
 ∀H' W,At H' (W.A C)->(∀(aq:List aU)(aO:List Pr),aq.Perm zs->aq.Pairwise C6->aO.Perm ts->Dt K H' W (cK long aq n (aO.map (·.2))))->Af H H'->Q (.ref W.w) H'
noncomputable def Gi:List aU:=["way","figures","many","train","end","why","held","stuck","shares"]
noncomputable def OF(long:Int)(ln q dn:ar):List (Ay×V):=[(.inr "long",.int long),(.inr "lines",.ref ln),(.inr "queue",.ref q),(.inr "mark",.int 0),(.inr "done",.ref dn)]
noncomputable def EC(long:Int)(ln q dn:ar)(as:List ar):List (Ay×V):=OF long ln q dn++List.zipWith (λz a=>((.inr z:Ay),V.ref a)) Gi as
def AhB (long:Int)(ln q dn:ar)(as:List ar)(b:ar)(B:Gi[as.length]?=some z):BS (EC long ln q dn as) (.inr z) (.ref b)=EC long ln q dn (as++[b]):=by
 match as,B with
 |[],B=>cases B;rfl
 |[_],B=>cases B;rfl
 |[_,_],B=>cases B;rfl
 |[_,_,_],B=>cases B;rfl
 |[_,_,_,_],B=>cases B;rfl
 |[_,_,_,_,_],B=>cases B;rfl
 |[_,_,_,_,_,_],B=>cases B;rfl
 |[_,_,_,_,_,_,_],B=>cases B;rfl
 |[_,_,_,_,_,_,_,_],B=>cases B;rfl
 |_::_::_::_::_::_::_::_::_::_,B=>simp[Gi]at B
theorem zzm{α:Type}{l:List α}{n:Nat}(h:l.length=n+1):∃a t,l=a::t/\t.length=n:=by
 cases l with
 |nil=>cases h
 |cons a t=>exact⟨a,t,rfl,Nat.succ.inj h⟩
theorem zzl{α:Type}{l:List α}(h:l.length=2):∃a b,l=[a,b]:=by
 replace h:=zzm h;obtain⟨a,_,rfl,h⟩:=h;replace h:=zzm h;obtain⟨b,z,rfl,h⟩:=h;cases z with
 |nil=>exact⟨_,_,rfl⟩
 |cons=>cases h
def AhC{as:List ar}(h:as.length=9):∃a b c d e f g i j,as=[a,b,c,d,e,f,g,i,j]:=by
 replace h:=zzm h;obtain⟨a,_,rfl,h⟩:=h;replace h:=zzm h;obtain⟨b,_,rfl,h⟩:=h;replace h:=zzm h;obtain⟨c,_,rfl,h⟩:=h;replace h:=zzm h;obtain⟨d,_,rfl,h⟩:=h;replace h:=zzm h;obtain⟨e,_,rfl,h⟩:=h;replace h:=zzm h;obtain⟨f,_,rfl,h⟩:=h;replace h:=zzm h;obtain⟨g,_,rfl,h⟩:=h;replace h:=zzm h;obtain⟨i,_,rfl,h⟩:=h;replace h:=zzm h;obtain⟨j,z,rfl,h⟩:=h;cases z with
 |nil=>exact⟨_,_,_,_,_,_,_,_,_,rfl⟩
 |cons=>cases h
def HR{α β:Type}(f:α->β)(n:Nat)(x:α):(U5 n x).map f=U5 n (f x):=(by simp)
def AhD (D:(B.map (·.1)).Nodup)(m:p∈B):BK (cK long zs n B) p.1=some (CS p):=by obtain⟨i,H⟩:=Zi.mp m;refine JV (l:=B.map CS) (i:=i) (g:=CS p) ?_ (by rw[Va,H];rfl);rwa[Vn]
def AhE (m:z ∉ B.map (·.1)):BK (cK long zs n B) z=none:=Lz (l:=B.map CS)<|by rwa[Vn]
def OG(lv:Fl->aU->List V)(t:Pr):Prop:=lv .aE t.2.1=U5 t.2.2.toNat .aa/\lv .aM t.2.1=U5 t.2.2.toNat (.bl false)/\lv .shr t.2.1=U5 t.2.2.toNat (.int 0)
def AhF{K:UT}{H:Hp}{W:VW}{long n:Int}{zs aq B:List aU}{ts D J:List Pr}{t0:ar}(zn:zs.Nodup)(z1:zs.length<=60)(pm:aq.Perm zs)(gN:aq.Pairwise C6)(V:B.Perm zs)(qw:B.Pairwise C6)(pt:D.Perm ts)(gl:ts.length<=40)(I:J=(t0,U3 "",n)::ts)(L:(J.map (·.2.1)).Nodup)(Y:W.kz .ax=zs)(hf:∀d,W.kf d=zs)(hu:∀e,e≠.ax->W.kz e=J.map (·.2.1))(bS:∀z∈zs,∀d,W.ff d z=(Cm z).vv d)(hl:∀z∈zs,W.lv .ax z=[])(hr:∀t∈J,OG W.lv t)(h1:W.long=long)(h2:W.mark=0)(h3:W.qs=[])(h4:W.ds=[])(h5:W.du=U5 n.toNat 0)(h6:W.dv=U5 n.toNat 0)(hx:W.kx=[(.inr "spots",.ref W.sp),(.inr "steps",.ref W.st)])(h7:W.lns=aq):Dt K H W (cK long B n (D.map (·.2))):=by
 have en:(B.map Cm).map (·.num)=B:=by rw[Vn];exact Zh B
 have nt:(ts.map (·.2.1)).Nodup:=by rw[I]at L;exact(Vr.mp L).2
 have n0:U3 "" ∉ ts.map (·.2.1):=by rw[I]at L;exact(Vr.mp L).1
 have eg:(D.map (·.2)).map (·.1)=D.map (·.2.1):=by rw[Vn];rfl
 have pg:(D.map (·.2.1)).Perm (ts.map (·.2.1)):=pt.map _;have ng:((D.map (·.2)).map (·.1)).Nodup:=by rw[eg];exact pg.nodup_iff.mpr nt
 have fO:∀t∈ts,AS (cK long B n (D.map (·.2))) t.2.1=some (U5 t.2.2.toNat .aa,U5 t.2.2.toNat false,U5 t.2.2.toNat 0):=λt m=>by
  unfold AS;rw[ck λc=>n0<|by rw[<-c];exact Ve.mpr ⟨t,m,rfl⟩,AhD ng (p:=t.2)<|Ve.mpr ⟨t,pt.mem_iff.mpr m,rfl⟩];rfl
 have us:=hu .aE λe=>(nomatch e);have sm:∀w,(AS (cK long B n (D.map (·.2))) w).isSome=true->∃t∈J,t.2.1=w:=λw s=>by
  by_cases c:w=U3 ""
  .exact ⟨_,by rw[I];exact VJ,c.symm⟩
  .by_cases m:w∈ts.map (·.2.1)
   .obtain ⟨t,mt,e⟩:=Ve.mp m;exact⟨t,by rw[I];exact Vw _ mt,e⟩
   .unfold AS at s;rw[ck c,AhE<|by rw[eg];exact λk=>m<|pg.mem_iff.mp k]at s;cases s
 refine { lo:=h1,ma:=h2,q:=h3,ds:=h4,sp:=h5,st:=h6,kx:=hx,ln:=?_,nn:=?_,zs:=λz=>?_,zn:=by rw[Y];exact zn,zl:=by rw[Y];omega,kf:=λd=>(hf d).trans Y.symm,us:=λe n=>(hu e n).trans us.symm,un:=by rw[us];exact L,ul:=?_,rz:=λw=>?_,l:=λi ln h=>?_,r:=λw r O=>?_ }
 .show W.lns=(B.map Cm).map (·.num);rw[en,h7];exact Adf (pm.trans V.symm) gN qw
 .show ((B.map Cm).map (·.num)).Nodup;rw[en];exact V.nodup_iff.mpr zn
 .show z∈W.kz .ax↔z∈(B.map Cm).map (·.num);rw[en,Y];exact V.mem_iff.symm
 .rw[us,UW,I,VX];omega
 .rw[us];refine⟨λm=>?_,λs=>let ⟨t,mt,e⟩:=sm w s;Ve.mpr ⟨t,mt,e⟩⟩;obtain⟨t,mt,rfl⟩:=Au<|Ve.mp m;rw[I]at mt;rcases Vc.mp mt with rfl|mt
  .rw[FT];rfl
  .rw[fO t mt];rfl
 .have h:(B.map Cm)[i]?=some ln:=h;rw[Va]at h;obtain⟨z,lO,rfl⟩:=Au<|VH.mp h;have mz:=V.mem_iff.mp<|Vh lO;exact⟨λd _=>bS z mz d,by rw[show W.ff .why (Cm z).num=.aa from bS z mz .why];exact .aa,rfl,[],hl z mz,trivial⟩
 .obtain ⟨t,mt,rfl⟩:=sm w (by rw[O];rfl);obtain⟨g2,g3,g4⟩:=AU<|hr t mt;rw[I]at mt;rcases Vc.mp mt with rfl|mt
  .rw[FT]at O;cases O;refine⟨?_,g3.trans (HR ..).symm,g4.trans (HR ..).symm⟩;unfold CJ;rw[bf rfl,g2];exact(HR (Eg (cK long B n (D.map (·.2)))) n.toNat .aa).symm
  .rw[fO t mt]at O;cases O;refine⟨?_,g3.trans (HR ..).symm,g4.trans (HR ..).symm⟩;unfold CJ;rw[ck λc=>n0<|by rw[<-c];exact Ve.mpr ⟨t,mt,rfl⟩,g2]
def AhG{α β:Type} [DecidableEq α] {f:α->β} {z:α} {u v:β}:up (up f z u) z v=up f z v:=by
 funext y
 by_cases e:y=z
 .rw[e,FQ,FQ]
 .rw[Fo e,Fo e,Fo e]
def OH{α β γ:Type} [DecidableEq α] [DecidableEq β] {g:α->β->γ} {d e:α} {y z:β} {v:γ} (n:e≠d):AX g d z v e y=g e y:=Ds λc=>n c.1
def At.mid{H:Hp}{P M R:Ax}{l:ar}{u:HO}(t:At H (P++(M++R)))(n:H l=none):At (upd H l u) (P++((M++[(l,u)])++R)):=by have:=t.new (u:=u) n;rw[<-Vj]at this;have:=this.back;rw[Vj]at this;rwa[Vj]
def At.nX{H:Hp}{b:ar}{W:VW}{R:Ax}{D:Hp->Prop}{z:aU}{v:V}(kx:List (Ay×V))(t:At H (W.C R))(e:BS W.kv (.inr z) v={ W with kx:=kx }.kv)(len:W.kv.length<sizeLine)(c:∀B,At B (VW.C { W with kx:=kx } R)->Af H B->D B)(J:W.w=b:=by rfl):∃a I,V.ref b=.ref a/\Es H a (.str z) v I/\D I:=by subst J;refine Bb W.w _ rfl (.k (k:=.inr z) t.vw len) ?_;rw[e];exact c _ (At.set (P:=[]) t)<|.chg t.vw rfl
def At.rep{H:Hp}{W:VW}{R:Ax}{b l:ar}{v:V}{n:Nat}(t:At H (W.C R))(D:H b=none)(I:(upd H b<|.lst [v]) l=none):∃B,upd (upd H b<|.lst [v]) l (.lst<|U5 n v)=B/\At B (W.C ((l,.lst<|U5 n v)::R))/\Af H B :=
 ⟨_,rfl,(t.same<|(Ah.refl H).upd D).pT I,(Af.new D).trans<|.new I⟩
def BN:AM ["parts","long","lines","seekers","groups","world","word","line","where","many"] ["parts"] (Ab<|top 45):=.of
def AhH:Gm (Ab<|top 45) "_law_begin":=.of
def AhI:Gm (Ab<|top 45) "sorted":=.of
def AhJ(F:AE K "_law_world" "_law_world" (top 45) f fd)(T:TxtW P w K mg a)(fT:Bt P w K mg base Av 1 "_law_begin" ["world","line","way"] λvs H Q E=>Og vs H Q E\/Of K vs H Q E):Az P w K mg base Av 2 f fd ["parts"] (Ue K):=by
 refine F.ok BN.fs λai A outer s H vs Q E hr h=>?_
 .obtain ⟨pt,l,g,long,n,zs,ts,C,rfl,t,kP,ml,cL,lay,good,q⟩:=h;obtain⟨⟨uw,lo1,n0,n1⟩,⟨⟨z0,z1⟩,zd,zn⟩,⟨g0,gd,gn⟩⟩:=AU good;show 4;have nd:=BN.fs.nd;refine⟨_,(@Ad _ _ _ _ _ (El (Aa 0 BN)<|FZ rfl (BW (B9 1 BN)<|BW (B9 2 BN) (BW (B9 3 BN)<|BW (B9 4 BN) D7)))<|Ad (@Dm _ _ _ 5 _ _ _ nd (BN.n 5 rfl) (@AcY _ _ _ _ _ (JE Ae (Aa 1 BN)<|JE Ae (Bo Rf AhI T.kR KN<|Ag (Aa 2 BN)) (JE Ae (CV B3)<|JE Ae Aj (JE Ae (CV B3) AcW))) rfl rfl `B<|(by decide)) rfl rfl) (Ad (CM VZ rfl (Pu<|Fx (Ii rfl)) (B9 6 BN)<|Ai (Cc (VB (VF `x _) hu) (Aa 5 BN) (Aa 6 BN) AcV rfl))<|Ad (CM VZ rfl (Dk<|Aa 2 BN) (B9 7 BN)<|Ai (A4<|A9 fT AhH hr.d AK (A0 (Aa 5 BN) (Aa 7 BN) Ae))) (Ad (CM VZ rfl (Dk<|Ar BL (CV<|Ag (Fx<|AJ Ae (Aa 3 BN))) (Aa 4 BN)) (FZ rfl<|BW (B9 8 BN) (BW (B9 9 BN) D7))<|Ad (Cc (VB (VF `x _) hu) (Aq P w K (Aa 5 BN) Ae) (Aa 8 BN) (Ar Ce (CV<|Ag Cv)<|Aa 9 BN) rfl) (Ad (Cc (VB (VF `x _) hu) (Aq P w K (Aa 5 BN) Ae) (Aa 8 BN) (Ar Ce (CV<|Ag DX)<|Aa 9 BN) rfl)<|Ai (Cc (VB (VF `x _) hu) (Aq P w K (Aa 5 BN) Ae) (Aa 8 BN) (Ar Ce (CV<|Ag Aj)<|Aa 9 BN) rfl)))<|Ad (Cc (VB (VF `x _) hu) (Aa 5 BN) Ae (Ar Ce (CV<|Ag Aj)<|Aa 3 BN) rfl) (Ad (Cc (VB (VF `x _) hu) (Aa 5 BN) Ae (Ar Ce (CV<|Ag Aj)<|Aa 3 BN) rfl)<|Ai (AB<|Aa 5 BN))))),?_⟩;try dsimp only[av,aw]
  have aZ:start ["parts","long","lines","seekers","groups","world","word","line","where","many"] [V.ref pt]=[some<|.ref pt,none,none,none,none,none,none,none,none,none]:=rfl;simp only[aZ,WQ,WR];show CN pt _ rfl (.of kP) rfl ?_;ext;intro O ux;have t1:=t.new (u:=.dK []) ux;have p1:Af H (upd H O<|.dK []):=.new ux;generalize upd H _ _=H1 at t1 p1 ⊢;show CN l zs rfl (.of<|t1.tl.get ml) (by omega) (λln aq fW pm gN=>?_);have t2:=t1.new (u:=.lst<|aq.map V.str) fW;have p2:Af H1 (upd H1 ln<|.lst (aq.map V.str)):=.new fW;generalize upd H1 _ _=I at t2 p2 ⊢;show⟨Am,λJ uy=>?_⟩;have t3:=t2.new (u:=.lst []) uy;have p3:Af I (upd I J<|.lst []):=.new uy;generalize upd I _ _=H3 at t3 p3 ⊢;show⟨Am,λL uz=>?_⟩;have t4:=t3.new (u:=.lst []) uz;have p4:Af H3 (upd H3 L<|.lst []):=.new uz;generalize upd H3 _ _=H4 at t4 p4 ⊢;refine  ⟨t4.get<|(by simp),OF long ln J L,rfl,(by change 5<=15;decide),?_⟩;rw[show Io [] (OF long ln J L)=EC long ln J L []from rfl];have t5:At (upd H4 O<|.dK (EC long ln J L [])) ((O,.dK<|EC long ln J L [])::(([]:List ar).map (λa=>(a,HO.dK []))++((ln,.lst<|aq.map V.str)::(J,.lst [])::(L,.lst [])::C))):=by have jS:At H4 ((O,.dK [])::(ln,.lst<|aq.map V.str)::(J,.lst [])::(L,.lst [])::C):=t4.perm<|show([(O,HO.dK []),(ln,HO.lst<|aq.map V.str),(J,HO.lst []),(L,HO.lst [])]++C).Perm ([(O,HO.dK []),(ln,HO.lst<|aq.map V.str),(J,HO.lst []),(L,HO.lst [])].reverse++C)from zm C (List.reverse_perm _).symm;exact jS.kQ
  have p5:Af H4 (upd H4 O<|.dK (EC long ln J L [])):=.chg (o:=.dK []) (t4.get<|(by simp)) rfl;have uA:Af H (upd H4 O<|.dK (EC long ln J L [])):=p1.trans<|p2.trans (p3.trans<|p4.trans p5);generalize upd H4 _ _=H5 at t5 uA ⊢;generalize hD:(ln,HO.lst<|aq.map V.str)::(J,.lst [])::(L,.lst [])::C=D at t5;have mlD:(l,.lst<|zs.map V.str)∈D:=by rw[<-hD];simp[ml]
  have mgD:(g,.lst<|ts.map Bw)∈D:=by rw[<-hD];simp[cL]
  clear p5 p4 p3 p2 p1 t4 t3 t2 t1
  show⟨Am,λwt nwt=>?_⟩;have s6:=(Ah.refl H5).upd (o:=.tup<|Gi.map V.str) nwt;have e6:(upd H5 wt<|.tup (Gi.map V.str)) wt=some (.tup<|Gi.map V.str):=Ao;have ew:upd H5 wt (.tup [.str "way",.str "figures",.str "many",.str "train",.str "end",.str "why",.str "held",.str "stuck",.str "shares"])=upd H5 wt (.tup<|Gi.map V.str):=rfl;rw[ew];generalize upd H5 _ _=H6 at s6 e6 ⊢;refine C5 wt rfl ⟨⟨_,.of e6⟩,AaI (K:=K) (a:=wt) (xs:=Gi.map V.str) (λi σ I=>∃as x,σ=[some<|.ref pt,some<|.int long,some<|.ref l,some<|.int n,some<|.ref g,some<|.ref O,x,none,none,none]/\as.length=i/\At I ((O,.dK<|EC long ln J L as)::(as.map (λa=>(a,HO.dK []))++D))/\Af H6 I) ⟨[],none,rfl,rfl,t5.same s6,.refl⟩ (λi σ I _ ⟨_,_,_,_,_,p⟩=>.of<|p.t e6) ?_ ?_⟩
  .intro i v σ I hi zq;replace zq:=BB zq;obtain⟨as,x,rfl,la,t7,p7⟩:=zq;rw[Va]at hi;obtain⟨z,hz,rfl⟩:=Au<|VH.mp hi;ext;intro b nb;have t8:At (upd I b<|.dK []) ((O,.dK<|EC long ln J L as)::((as++[b]).map (λa=>(a,HO.dK []))++D)):=by
    rw [Vg];exact At.mid (P:=[_]) (M:=as.map λa=>(a,HO.dK [])) (R:=D) (u:=.dK []) t7 nb
   have p8:Af I (upd I b<|.dK []):=.new nb;generalize upd I _ _=H3 at t8 p8 ⊢;show Bb O _ rfl (.k (k:=.inr z) t8.hd ?_) ?_
   .have:(EC long ln J L as).length<=14:=by
     unfold EC;rw[VA,List.length_zipWith];change 5+min 9 as.length<=14;omega
    rw [U0];omega
   rw [AhB long ln J L as b<|by rwa[la]];exact⟨as++[b],_,rfl,by rw[VA,la];rfl,t8.kQ,p7.trans<|p8.trans (.chg t8.hd rfl)⟩
  .intro σ H7 zq;replace zq:=BB zq;obtain⟨as,x,rfl,la,t7,p7⟩:=zq;obtain⟨a1,a2,a3,a4,a5,a6,a7,a8,a9,rfl⟩:=AhC la;clear la
   obtain⟨W,hW⟩:∃W:VW,W={ w:=O,ln:=ln,q:=J,dn:=L,sp:=0,st:=0,fa:=λd=>match d with|.way=>a1|.ae=>a2|.ag=>a3|.ao=>a5|.why=>a6,ka:=λe=>match e with|.ax=>a4|.aE=>a7|.aM=>a8|.shr=>a9,long:=long,mark:=0,lns:=aq,qs:=[],ds:=[],kx:=[],kf:=λ_=>[],ff:=λ_ _=>.aa,kz:=λ_=>[],la:=λ_ _=>0,lv:=λ_ _=>[],du:=[],dv:=[] }:=(⟨_,rfl⟩);have eW:W.w=O:=by rw[hW]
   have t8:At H7 (W.C C):=by rw[show W.C C=(O,.dK<|EC long ln J L [a1,a2,a3,a4,a5,a6,a7,a8,a9])::(ln,.lst<|aq.map V.str)::(J,.lst [])::(L,.lst [])::(a1,.dK [])::(a2,.dK [])::(a3,.dK [])::(a5,.dK [])::(a6,.dK [])::(a4,.dK [])::(a7,.dK [])::(a8,.dK [])::(a9,.dK [])::C by rw[hW];rfl];refine t7.perm<|LL λc=>?_;rw[<-hD];simp only[VP,Yk,Xj,ZF,Z3];omega
   have uB:∀{H'} {W':VW} {R:Ax},At H' (W'.C<|R++C)->H' l=some (.lst<|zs.map V.str):=λt=>t.get<|VW.inR (V2 _ ml);show⟨⟨_,.of<|uB (R:=[]) t8⟩,D8 (K:=K) (a:=l) (xs:=zs.map V.str) (λi σ I=>∃ff la lv y,σ=[some<|.ref pt,some<|.int long,some<|.ref l,some<|.int n,some<|.ref g,some<|.ref O,x,y,none,none]/\At I (VW.C { W with kf:=λ_=>zs.take i,ff:=ff,kz:=up (λ_=>[]) .ax<|zs.take i,la:=la,lv:=lv } C)/\Af H7 I/\(∀z∈zs.take i,∀d,ff d z=(Cm z).vv d)/\∀z∈zs.take i,lv .ax z=[]) ⟨W.ff,W.la,W.lv,none,rfl,(by rw[show up (λ_=>[]) Fl.ax (zs.take 0)=W.kz by rw[hW];exact Oa];rw[hW]at t8 ⊢;exact t8),.refl,(λz m=>nomatch m),λz m=>nomatch m⟩ (λi σ I _ ⟨_,_,_,_,_,t,_⟩=>.of<|uB (R:=[]) t) ?_ ?_⟩
   .intro i v σ I hi zq;replace zq:=DW zq;obtain⟨ff,la,lv,y,rfl,t9,p9,hf,hv⟩:=zq;rw[Va]at hi;obtain⟨z,hz,rfl⟩:=Au<|VH.mp hi;have et:zs.take (i+1)=zs.take i++[z]:=by rw[WE,hz];rfl
    have nz:z ∉ zs.take i:=by have:(zs.take<|i+1).Nodup:=zn.sublist<|YY _ _;rw[et]at this;exact λm=>(WN.mp this).2.2 z m z (Vl.mpr rfl) rfl
    ext;show 3;refine U6 ⟨_,C,z,by rw[<-eW];rfl,t9,nz,λ_=>rfl,(by change(zs.take i).length<=1000;rw[Wg];omega),λH3 l3 iI uc=>?_⟩;have iI:At H3 (VW.C { W with kf:=λ_=>zs.take i++[z],ff:=λd=>up (ff d) z<|(Cm z).vv d,kz:=up (up (λ_=>[]) .ax<|zs.take i) .ax<|zs.take i++[z],la:=AX la .ax z l3,lv:=AX lv .ax z [] } C):=iI;rw[AhG]at iI;refine Bx _ _ _ _ rfl (by rwa[et]) (p9.trans uc) (λy m d=>?_) λy m=>?_
    .by_cases c:y=z
     .subst c;exact FQ
     .rw[et]at m;exact(Fo c).trans (hf y ((Vx.mp m).resolve_right λk=>c<|Vl.mp k) d)
    .by_cases c:y=z
     .subst c;exact Df
     .rw[et]at m;exact(Ds λk=>c k.2).trans (hv y<|(Vx.mp m).resolve_right λk=>c<|Vl.mp k)
   .intro σ H8 zq;replace zq:=DW zq;obtain⟨ff,la,lv,y,rfl,t9,p9,hf,hv⟩:=zq;rw[UW,Wi]at t9 hf hv;have hg8:H8 g=some (.lst<|ts.map Bw):=t9.get<|VW.inR cL;show⟨Am,λt0 nt0=>?_⟩;have jo:=(Ah.refl H8).upd (o:=.tup [.str "",.int n]) nt0;have lK:(upd H8 t0<|.tup [.str "",.int n]) t0=some (.tup [.str "",.int n]):=Ao;generalize upd H8 _ _=cV at jo lK ⊢;refine⟨Am,λg1 ng1=>?_⟩;have jZ:=(Ah.refl cV).upd (o:=.lst [.ref t0]) ng1;have uC:(upd cV g1<|.lst [.ref t0]) g1=some (.lst [.ref t0]):=Ao;generalize upd cV _ _=fj at jZ uC ⊢;show U4 (U4<|Be g1 g _ _ rfl rfl uC (jZ _ _<|jo _ _ hg8) (by rw[UW,U0];change 1+ts.length<=_;omega) (λg2 j0=>?_));obtain⟨Y,iP⟩:∃Y:List Pr,Y=(t0,U3 "",n)::ts:=(⟨_,rfl⟩);rw[show[V.ref t0]++ts.map Bw=Y.map Bw by rw[iP];rfl];have iJ:=(t9.same<|jo.trans jZ).pT (o:=.lst<|Y.map Bw) j0;have qc:Af H8 (upd fj g2<|.lst (Y.map Bw)):=(Af.of<|jo.trans jZ).trans<|.new j0;have lay0:∀t∈Y,(upd fj g2<|.lst (Y.map Bw)) t.1=some (.tup [.str t.2.1,.int t.2.2]):=λt m=>by
     rw [iP]at m;rcases Vc.mp m with rfl|m
     .exact (Af.new j0).t (jZ _ _ lK)
     .exact (uA.trans<|(Af.of s6).trans (p7.trans<|p9.trans qc)).t (lay t m)
    have fV:(Y.map (·.2.1)).Nodup:=by rw[iP];refine Vr.mpr ⟨λm=>?_,gn⟩;obtain⟨t,mt,et⟩:=Au<|Ve.mp m;have:=(gd t mt).1.1;rw[et]at this;have this:(1:Int)<=((U3 "").length:Int):=this;exact absurd this<|(by decide)
    have nb0:∀t∈Y,0<=t.2.2/\t.2.2<=60:=λt m=>by
     rw [iP]at m;rcases Vc.mp m with rfl|m
     .exact ⟨by change 0<=n;omega,n1⟩
     .have:=(gd t m).2.2;omega
    have l0:Y.length<=41:=by rw[iP,VX];omega
    generalize upd fj _ _=fQ at iJ qc lay0 ⊢;refine C5 g2 rfl ⟨⟨_,.of iJ.vr.hd⟩,D8 (K:=K) (a:=g2) (xs:=Y.map Bw) (λi σ I=>∃kz la lv y1 y2,σ=[some<|.ref pt,some<|.int long,some<|.ref l,some<|.int n,some<|.ref g,some<|.ref O,x,y,y1,y2]/\At I (VW.C { W with kf:=λ_=>zs,ff:=ff,kz:=kz,la:=la,lv:=lv } ((g2,.lst<|Y.map Bw)::C))/\Af fQ I/\kz .ax=zs/\(∀e,e≠.ax->kz e=(Y.take i).map (·.2.1))/\(∀z∈zs,lv .ax z=[])/\∀t∈Y.take i,OG lv t) ⟨_,la,lv,none,none,rfl,iJ,.refl,FQ,(λe n=>Fo n),hv,λt m=>nomatch m⟩ (λi σ I _ ⟨_,_,_,_,_,_,t,_⟩=>.of t.vr.hd) ?_ ?_⟩
    .intro i v σ I hi zq;replace zq:=IV zq;obtain⟨kz,la,lv,y1,y2,rfl,u1,pu,k1,k2,v1,v2⟩:=zq;rw[Va]at hi;obtain⟨B,ht,rfl⟩:=Au<|VH.mp hi;have mt:=Vh ht;obtain⟨b0,b1⟩:=nb0 B mt;have et:Y.take (i+1)=Y.take i++[B]:=by rw[WE,ht];rfl
     have nw:B.2.1 ∉ (Y.take i).map (·.2.1):=by have:((Y.take<|i+1).map (·.2.1)).Nodup:=fV.sublist<|(YY _ _).map _;rw[et,Vg]at this;exact λm=>(WN.mp this).2.2 _ m _ (Vl.mpr rfl) rfl
     have nk:∀e,e≠.ax->B.2.1 ∉ kz e:=λe n=>by rwa[k2 e n]
     have lk:∀e,e≠.ax->(kz e).length<=1000:=λe n=>by rw[k2 e n,UW,Wg];omega
     show⟨B.1,_,rfl,.of<|pu.t (lay0 B mt),rfl,?_⟩;show⟨Am,λsg qx=>?_⟩;show U4 (U4 ⟨sg,B.2.2,[.aa],rfl,rfl,Ao,(by omega),(by omega),(by rw[Wa,U0];omega),λha nha=>?_⟩);rw[FJ];obtain⟨H3,e,u2,q2⟩:=AG<|u1.rep qx nha;rw[e];clear e;rw[<-eW];show u2.fld ?_;show u2.nL (P:=[]) (nk .aE λe=>(nomatch e)) (lk .aE λe=>(nomatch e)) λH4 u3 q3=>?_;show⟨Am,λb2 qA=>?_⟩;show U4 (U4 ⟨b2,B.2.2,[.bl false],rfl,rfl,Ao,(by omega),(by omega),(by rw[Wa,U0];omega),λja nja=>?_⟩);rw[FJ];obtain⟨lH,e,u4,q4⟩:=AG<|u3.rep qA nja;rw[e];clear e;show u4.fld ?_;show u4.nL (P:=[]) (nk .aM λe=>(nomatch e)) (lk .aM λe=>(nomatch e)) λuD u5 q5=>?_;show⟨Am,λb3 nb3=>?_⟩;show U4 (U4 ⟨b3,B.2.2,[.int 0],rfl,rfl,Ao,(by omega),(by omega),(by rw[Wa,U0];omega),λsa nsa=>?_⟩);rw[FJ];obtain⟨lP,e,u6,q6⟩:=AG<|u5.rep nb3 nsa;rw[e];clear e;show u6.fld ?_;show u6.nL (P:=[]) (nk .shr λe=>(nomatch e)) (lk .shr λe=>(nomatch e)) λH8' u7 q7=>?_;refine  ⟨_,_,_,_,_,(by rw[eW];rfl),u7,by walk_at "p",k1,λe n=>?_,v1,λt m=>?_⟩
     .rw[et,Vg];cases e with
      |ax=>exact absurd rfl n
      |aE=>change kz .aE++_=_;rw[k2 .aE n];rfl
      |aM=>change kz .aM++_=_;rw[k2 .aM n];rfl
      |shr=>change kz .shr++_=_;rw[k2 .shr n];rfl
     .rw[et]at m;rcases Vx.mp m with m|m
      .have n:t.2.1≠B.2.1:=λe=>nw (by rw[<-e];exact Ve.mpr ⟨t,m,rfl⟩);have k:∀e,AX (AX (AX lv .aE B.2.1<|U5 B.2.2.toNat V.aa) .aM B.2.1<|U5 B.2.2.toNat (V.bl false)) .shr B.2.1 (U5 B.2.2.toNat<|V.int 0) e t.2.1=lv e t.2.1:=λe=>(Ds λc=>n c.2).trans<|(Ds λc=>n c.2).trans (Ds λc=>n c.2);obtain⟨f1,f2,f3⟩:=AU<|v2 t m;exact⟨(k _).trans f1,(k _).trans f2,(k _).trans f3⟩
      .rw[Vl.mp m];change OG (AX (AX (AX lv .aE B.2.1<|U5 B.2.2.toNat V.aa) .aM B.2.1<|U5 B.2.2.toNat (V.bl false)) .shr B.2.1<|U5 B.2.2.toNat (V.int 0)) B;exact⟨(OH (e:=Fl.aE) (d:=.shr)<|(by decide)).trans<|(OH (e:=Fl.aE) (d:=.aM)<|(by decide)).trans Df,(OH (e:=Fl.aM) (d:=.shr)<|(by decide)).trans Df,Df⟩
    .intro σ jY zq;replace zq:=IV zq;obtain⟨kz,la,lv,y1,y2,rfl,u1,pu,k1,k2,v1,v2⟩:=zq;rw[UW,Wi]at k2 v2;have uE:W.kx=[]:=by rw[hW]
     rw [<-eW];show⟨Am,λb1 qx=>?_⟩;show U4 (U4<|BO b1 n [.int 0] rfl ⟨rfl,Ao,by omega,by omega,(by rw[Wa,U0];omega),λsp nsp=>?_⟩);rw[FJ];obtain⟨ue,e,u2,q2⟩:=AG<|u1.rep qx nsp;rw[e];clear e;show u2.nX [(.inr "spots",.ref sp)] (by unfold VW.kv;dsimp only;rw[uE];rfl) (by unfold VW.kv;rw[show VW.kx { W with kf:=λ_=>zs,ff:=ff,kz:=kz,la:=la,lv:=lv }=[]from uE];change 14<sizeLine;decide) λH15 u3 q3=>?_;show⟨Am,λb2 qA=>?_⟩;show U4 (U4<|BO b2 n [.int 0] rfl ⟨rfl,Ao,by omega,by omega,(by rw[Wa,U0];omega),λst lQ=>?_⟩);rw[FJ];obtain⟨H16,e,u4,q4⟩:=AG<|u3.rep qA lQ;rw[e];clear e;show u4.nX [(.inr "spots",.ref sp),(.inr "steps",.ref st)] rfl (by change 15<sizeLine;decide) λjW u5 q5=>?_;show q jW { W with kf:=λ_=>zs,ff:=ff,kz:=kz,la:=la,lv:=lv,kx:=[(.inr "spots",.ref sp),(.inr "steps",.ref st)],sp:=sp,st:=st,du:=U5 n.toNat 0,dv:=U5 n.toNat 0 } ?_ ?_ ?_
     .show At jW (VW.C _ ((sp,.lst<|(U5 n.toNat 0).map V.int)::(st,.lst<|(U5 n.toNat 0).map V.int)::C));rw[HR,VW.app];rw[VW.app]at u5;exact(u5.perm<|List.Perm.append_left _ (.swap ..)).sub ((Xm _).append<|.cons₂ _ (.cons₂ _<|.cons _ (.refl _)))
     .intro bV d5 bg qw sS;exact AhF zn z1 pm gN bg qw sS g0 iP fV k1 (λ_=>rfl) k2 hf v1 v2 (by rw[hW]) (by rw[hW]) (by rw[hW]) (by rw[hW]) rfl rfl rfl<|by rw[hW]
     .have p6:=Af.of s6;walk_at "p"
def Ft:AM ["draw","long","figures","k"] ["draw","long"] (Ab<|top 43):=.of
def AhK:Gm (Ab<|top 43) "range":=.of
def AhL(F:AE K "_law_number" "_law_number" (top 43) f fd)(T:Txt K mg a):Az P w K mg base Av 1 f fd ["draw","long"] RB:=by
 refine F.ok Ft.fs λai A outer s H vs Q E O h=>?_
 .obtain ⟨d,l,rfl,l0,l1,q⟩:=h;have hu:=O.units;have nd:=Ft.fs.nd;refine⟨_,(@Ad _ _ _ _ _ (A8 2 Ft Ae)<|Ad (CM VZ rfl (Hk AhK T.cQ<|Ag (Aa 1 Ft)) (B9 3 Ft)<|Ad (A8 2 Ft<|Ar BL (Aa 2 Ft) (AN AO Ae (Ar BC (Aa 0 Ft) Aj) λ_ _=>rfl)) (Ai<|A8 0 Ft (Ar EW (Aa 0 Ft) Aj))) (Ai<|AB (Aa 2 Ft))),?_⟩;try dsimp only[av,aw]
  show⟨by omega,by omega,Jh (n:=l.toNat) (λi σ D=>∃(d:Int)(z:aU)(x:Option V),σ=[some<|.int d,some<|.int l,some<|.str z,x]/\D=H/\z.length=i/\Cg z) ?_ ?_ ?_⟩
  .exact ⟨d,_,none,rfl,rfl,rfl,λc hc=>absurd hc<|by change ¬c∈[];simp⟩
  .intro i σ D hi I;replace I:=Dg I;obtain⟨d,z,x,rfl,rfl,B,hd⟩:=I;ext;obtain⟨c,Y,e2⟩:=Au<|GF (xs:=(U3 "0123456789").cps.toList) (k:=d%10) (by omega) (by change d%10<10;omega);have J:∀m:Nat,m<10->∀c,(U3 "0123456789").cps.toList[m]?=some c->48<=c/\c<=57:=by
    intro m hm c hc;have k:(U3 "0123456789").cps.toList.all (λc=>decide (48<=c/\c<=57))=true:=(by decide +kernel)
    simpa using WL.mp k c (Vh hc)
   have kc:=J _ (by omega) c e2;refine U4<|U4 (CZ _ _ c rfl rfl `o Y ?_);refine U4<|U6 (CN _ _ rfl rfl ?_ ?_)
   .rw[B,U0];change i+1<=_;omega
   show AZ _ _ _ rfl rfl ?_ ?_
   .rw[F4,JJ,VA,<-F4,B];rfl
   .intro e L;rw[JJ]at L;rcases Vx.mp L with h|h
    .exact hd e h
    .have:e=c:=by simpa using h
     rwa[this]
  .intro σ D I;replace I:=Dg I;obtain⟨d,z,x,rfl,rfl,B,hd⟩:=I;ext;exact q z B hd
def Ug{xs:List Int}{i:Int}(D:0<=i)(H:i<xs.length):∃z,Cd (xs.map V.int) i=some (.int z)/\z∈xs:=by
 obtain⟨v,I,B⟩:=Au<|GF (xs:=xs.map V.int) D (by rwa[UW]);rw[Va]at B;cases q:xs[i.toNat]? with
 |none=>rw[q]at B;cases B
 |some z=>rw[q]at B;cases B;exact⟨z,I,Vh q⟩
def AhM{xs:List aU}{i:Int}(D:0<=i)(H:i<xs.length):∃z,Cd (xs.map V.str) i=some (.str z)/\z∈xs:=by
 obtain⟨v,I,B⟩:=Au<|GF (xs:=xs.map V.str) D (by rwa[UW]);rw[Va]at B;cases q:xs[i.toNat]? with
 |none=>rw[q]at B;cases B
 |some z=>rw[q]at B;cases B;exact⟨z,I,Vh q⟩
def LY(ks:List aU):(ks.map V.str).all D1=true:=by rw[w5,WL];exact λ_ _=>rfl
def AhN{B:List Int}(h:B.length=(8:Int).toNat):∃D v1 H v3 I v5 J L,B=[D,v1,H,v3,I,v5,J,L]:=by
 replace h:=zzm h;obtain⟨a,_,rfl,h⟩:=h;replace h:=zzm h;obtain⟨b,_,rfl,h⟩:=h;replace h:=zzm h;obtain⟨c,_,rfl,h⟩:=h;replace h:=zzm h;obtain⟨d,_,rfl,h⟩:=h;replace h:=zzm h;obtain⟨e,_,rfl,h⟩:=h;replace h:=zzm h;obtain⟨f,_,rfl,h⟩:=h;replace h:=zzm h;obtain⟨g,_,rfl,h⟩:=h;replace h:=zzm h;obtain⟨i,z,rfl,h⟩:=h;cases z with
 |nil=>exact⟨_,_,_,_,_,_,_,_,rfl⟩
 |cons=>cases h
def C7.put (h:C7 H ts)(B:H g=some (.lst xs)):C7 (upd H g o) ts:=λt m=>by
 rw [Aw<|Kl (h t m) B (by intro z;cases z)];exact h t m
def Uh (B:0<=k):(DC z none<|some k).cps.toList=z.cps.toList.take k.toNat:=by
 obtain⟨n,rfl⟩:=Y9 B;change(GC z.cps.toList none<|some (n:Int)).toArray.toList=_;unfold GC;rw[HT.rp,HT.rn,wk,wm];have:(n:Int).toNat=n:=rfl;rw[this];simp only[List.toList_toArray];by_cases h:n<=z.cps.toList.length
 .rw[zG h]
 .rw[zH<|(by omega),Wi,Y5<|(by omega)]
def Ui (B:0<=k)(D:k<=z.length):(DC z none<|some k).length=k.toNat:=by rw[F4,Uh B,Wg,<-F4];omega
def Uj (B:0<=k)(h:Cg z):Cg (DC z none<|some k):=λc hc=>by
 rw [Uh B]at hc;exact h c<|ZK hc
def AhO (hx:Cg x)(hy:Cg y):Cg (x++y):=λc hc=>by
 rw [JJ]at hc;rcases Vx.mp hc with h|h
 .exact hx c h
 .exact hy c h
def OI{α:Type}{f:α->V}(ns:List α)(k:Int)(B:0<=k):G6 (ns.map f) none (some k)=(ns.take k.toNat).map f:=by
 obtain⟨n,rfl⟩:=Y9 B;unfold G6;rw[HT.rp,HT.rn,wk,wm,<-List.map_take,UW];have:(n:Int).toNat=n:=rfl;rw[this];by_cases h:n<=ns.length
 .rw[zG h]
 .rw[zH<|(by omega),Wi,Y5<|(by omega)]
noncomputable def ER(z:aU)(k:Nat):aU:=DC z none (some (1+(k:Int)))
noncomputable def Ej(z:aU)(hs:List aU)(n:Nat):List aU:=((VN n).map (ER z)).filter λy=>!decide (y∈hs)
def Uk(z:aU)(hs:List aU)(n:Nat):Ej z hs (n+1)=Ej z hs n++if ER z n∈hs then[] else[ER z n]:=by
 unfold Ej;rw[Zf,Vg,ZY];congr 1
 change List.filter _ [ER z n]=_;rw[ZZ,Z0];by_cases h:ER z n∈hs
 .rw[bf h,cx h];rfl
 .rw[ck h,cN h];rfl
def Kc(z:aU)(hs:List aU)(n:Nat):(Ej z hs n).length<=n:=by unfold Ej;have:=Zg (λy=>!decide (y∈hs)) ((VN n).map (ER z));rwa [UW,Xu]at this
def OJ (h:k+1<=z.length):(ER z k).length=k+1:=by unfold ER;rw[Ui (by omega)<|(by omega)];omega
def Ul (I:n+1<=z.length)(hd:Cg z)(B:hs.Nodup):(hs++Ej z hs n).Nodup/\∀y∈Ej z hs n,(1<=y.length/\y.length<=n)/\Cg y:=by
 constructor
 .refine WN.mpr ⟨B,?_,λx hx y hy e=>?_⟩
  .unfold Ej;refine List.Pairwise.filter _<|ZP.mpr (List.Pairwise.imp_of_mem (λ{i j} D H ne e=>?_)<|yy (n:=n));have J:=We.mp D;have L:=We.mp H;have:=congrArg XJ e;rw[OJ<|(by omega),OJ<|(by omega)]at this;omega
  .subst e;have:=(X5.mp hy).2;rw[cx hx]at this;cases this
 .intro y hy;obtain⟨k,hk,rfl⟩:=Au<|Ve.mp (X5.mp hy).1;have:=We.mp hk;rw[OJ<|(by omega)];exact⟨⟨(by omega),(by omega)⟩,Uj (by omega) hd⟩
def Um(K:UT):Sp:=λvs H Q _=>∃(p:ar)(ns:List Int)(at_:Int),vs=[.ref p,.int at_]/\A2 K H p (ns.map V.int)/\ns.length<=63/\0<=at_/\at_<900 /\
 ∀(H':Hp)(t:ar)(long:Int)(l:ar)(bj:Int)(g:ar)(zs:List aU)(ts:List Pr),Ah H H'->H' t=some (.tup [.int long,.ref l,.int bj,.ref g])->H' l=some (.lst (zs.map V.str))->H' g=some (.lst (ts.map Bw))->C7 H' ts->Hv long bj zs ts->H t=none->H l=none->H g=none->l≠g->(∀t∈ts,H t.1=none)->Q (.ref t) H'
def Kd(xs:List Int)(v k:Int)(hk:(xs.length:Int)=k:=by rfl)(h:0<k:=by decide):∃z,Cd (xs.map V.int) (v%k)=some (.int z)/\z∈xs:=Ug (Xw _<|(by omega))<|by rw[hk];exact Xx _ h
def AhP(zs:List aU)(z:aU):zs.map V.str++[V.str z]=(zs++[z]).map V.str:=by rw[Vg];rfl
def LZ{p:aU->Prop}{zs ys:List aU}(h:∀z∈zs,p z)(q:∀z∈ys,p z):∀z∈zs++ys,p z:=λz m=>(Vx.mp m).elim (h z)<|q z
def drawn{B:List Int}{b i:Int}(h:∀v∈B,0<=v/\v<b)(D:0<=i)(H:i<B.length):∃e,Cd (B.map V.int) i=some (.int e)/\0<=e/\e<b:=by obtain⟨e,I,J⟩:=Au<|Ug D H;exact⟨e,I,h e J⟩
def Ke{zs:List aU}{i:Nat}{y:V}(h:(zs.map V.str)[i]?=some y):∃z,y=.str z/\zs[i]?=some z:=by
 rw [Va]at h;cases q:zs[i]? with
 |none=>rw[q]at h;cases h
 |some z=>rw[q]at h;cases h;exact⟨z,rfl,rfl⟩
local macro_rules | `(tactic| walk_at "s")=>`(tactic| first | assumption | exact BI.get ‹_› | (refine (by first | assumption | exact BI.same ‹_›:Ah _ _) _ _ ?_;walk_at "s"))
local macro_rules | `(tactic| walk_at "S")=>`(tactic| first | assumption | exact Ah.refl _ | exact BI.same ‹_› | (refine Ah.trans ?_ (by first | assumption | exact BI.same ‹_›);walk_at "S"))
local macro_rules | `(tactic| walk_at "g")=>`(tactic| (walk_at"";repeat (refine U6 (Bx _ _ _ _ rfl rfl (.of (by walk_at "s")) (by first | assumption | rfl) ?_);walk_at"")))
def Uo:EE ["script","at","plan","long","many","draws","stems","lines","k","keep","stem","line","heads","groups","draw","seekers"] ["script","at"] (Ab<|top 44):=.of
def Uq:Nm (Ab<|top 44) "script":=.of
def Ur:Nm (Ab<|top 44) "at":=.of
def ES:Nm (Ab<|top 44) "plan":=.of
def G0:Dw (Ab<|top 44) "long":=(by walk_at "k")
def Us:Nm (Ab<|top 44) "many":=.of
def IQ:Nm (Ab<|top 44) "draws":=.of
def OK:Nm (Ab<|top 44) "stems":=.of
def IS:Nm (Ab<|top 44) "lines":=.of
def Gj:Nm (Ab<|top 44) "k":=.of
def OL:Nm (Ab<|top 44) "keep":=.of
def Ut:Nm (Ab<|top 44) "stem":=.of
def L4:Dw (Ab<|top 44) "line":=(by walk_at "k")
def L5:Dw (Ab<|top 44) "heads":=(by walk_at "k")
def OM:Nm (Ab<|top 44) "groups":=.of
def Kf:Nm (Ab<|top 44) "draw":=.of
def Uu:Nm (Ab<|top 44) "seekers":=.of
def ON:Gm (Ab<|top 44) "len":=.of
def OO:Gm (Ab<|top 44) "range":=.of
def AhQ:Gm (Ab<|top 44) "min":=.of
def Uv:Gm (Ab<|top 44) "_law_number":=.of
def Uw:Gm (Ab<|top 44) "_law_draws":=.of
noncomputable def L6:Scope:={ kind:=.function,names:=[(".0",.local),("size",.local),("heads",.free),("line",.free)],isGenerator:=false,isCoroutine:=false,more:=[] }
def Ux:Bl L6 (Ab<|top 44) ["size","heads","line"] ["script","at","plan","long","many","draws","stems","lines","k","keep","stem","line","heads","groups","draw","seekers"] [none,some 12,some 11]:=(Bl.mk' rfl `o `o `o `o rfl<|(by decide +kernel))
def OP:Nm L6 "size":=.of
def AhR:DF L6 "heads":=(by walk_at "k")
def Uy:DF L6 "line":=(by walk_at "k")
noncomputable def L7:Scope:={ kind:=.function,names:=[(".0",.local),("draw",.local),("_law_number",.globalImplicit),("long",.free)],isGenerator:=false,isCoroutine:=false,more:=[] }
def Uz:Bl L7 (Ab<|top 44) ["draw","long"] ["script","at","plan","long","many","draws","stems","lines","k","keep","stem","line","heads","groups","draw","seekers"] [none,some 3]:=(Bl.mk' rfl `o `o `o `o rfl<|(by decide +kernel))
def UA:Nm L7 "draw":=.of
def AhS:DF L7 "long":=(by walk_at "k")
def AhT:Gm L7 "_law_number":=.of
def AhU(F:AE K "_law_plan" "_law_plan" (top 44) f fd)(T:TxtP K mg a)(fX:Bt P w K mg base Av 2 "_law_draws" ["script","k","many","base"] (Nk K))(j8:Bt P w K mg base Av 1 "_law_number" ["draw","long"] RB) :
  Az P w K mg base Av 3 f fd ["script","at"] (Um K):=by
 refine F.ok Uo λai A outer s H vs Q E hr h=>?_
 .obtain ⟨p,ns,Y,rfl,hS,hn,a0,a1,q⟩:=h;show 4;have J:=Uo.nd;refine⟨_,(@Ad _ _ _ _ _ (Dm 2 J ES<|A9 fX Uw hr.d AK (Co (Ap 0 Uq)<|A0 (Ap 1 Ur) Aj Aj))<|Ad (Hm 3 J G0<|AN AO (A3<|Ii rfl) (Ar BC (AN AO (Ap 2 ES) Aj λ_ _=>rfl) Aj) (λ_ _=>rfl)) (Ad (Dm 4 J Us<|AN AO (A3<|Co (Ar BL Aj<|Ar BC (AN AO (Ap 2 ES) Aj λ_ _=>rfl) Aj) (A0 (Ar BL Aj<|Ar BC (AN AO (Ap 2 ES) Aj λ_ _=>rfl) Aj) Aj<|Ar BL Aj (Ar BC (AN AO (Ap 2 ES) Aj λ_ _=>rfl) Aj))) (Ar BC (AN AO (Ap 2 ES) Aj λ_ _=>rfl) Aj) (λ_ _=>rfl))<|Ad (Dm 5 J IQ<|A9 fX Uw hr.d AK (Co (Ap 0 Uq)<|A0 (Ar BL (Ap 1 Ur) Aj) Aj Aj)) (Ad (Hl (j:=6) rfl J rfl (U6 OK.loc) Uz (Dk<|FA Js (Ap 5 IQ) Fy (Fz<|Ar BL Aj (Ar BC (AN AO (Ap 2 ES) Aj λ_ _=>rfl) Aj))) (λcl C fp π s₂ H₂=>(Cf 0 Uz.nd UA.comp)) (λcl C fp π s₂ H₂=>GH) (λcl C fp π s₂ H₂=>(A9 j8 AhT.comp hr.d AK<|AJ (Ap 0 UA.comp) (DE 1 AhS.comp))) (by rfl) (by intro _;rfl)<|U6 rfl)<|Ad (Dm 7 J IS<|A3 B3) (Ad (CM VZ rfl (Hk OO T.cQ<|Ag (Ap 4 Us)) (Cf 8 J Gj)<|Ad (Dm 9 J OL<|AN AO (A3<|Co (Ar DZ (AQ 3 G0) Aj) (A0 (Ar DZ (AQ 3 G0) Aj) (Ar DZ (AQ 3 G0) Aj) Aj)) (Ar BC (Ar EW (AN AO (Ap 5 IQ) (Ap 8 Gj) λ_ _=>rfl) Aj) Aj) (λ_ _=>rfl)) (Ad (Dm 10 J Ut<|FA Js (AN AO (Ap 6 OK) (Ar BC (AN AO (Ap 5 IQ) (Ap 8 Gj) λ_ _=>rfl)<|Bo B8 ON T.aR B0 (Ag<|Ap 6 OK)) λ_ _=>rfl) Fy (Fz<|Ap 9 OL))<|Ad (Hm 11 J L4<|Ar BL (Ap 10 Ut) (A9 j8 Uv hr.d AK<|AJ (Ar BL (Ar Ce (Ar EW (AN AO (Ap 5 IQ) (Ap 8 Gj) λ_ _=>rfl) Aj) Aj)<|Ar Ce (Ap 8 Gj) (Ap 8 Gj)) (Ar DZ (AQ 3 G0)<|Ap 9 OL))) (Ai<|AV (Em KJ (AQ 11 L4) (Ap 7 IS)<|by with_unfolding_all rfl) (Ai<|A4 (Ci VR Wb Wc Dl (Ap 7 IS)<|Ag (AQ 11 L4))))))<|Ad (Hm 12 J L5<|A3 B3) (Ad (CM VZ rfl (Dk<|Ar BL (Ap 7 IS) (A3<|Ag (A9 j8 Uv hr.d AK<|AJ (AN AO (Ap 2 ES) Aj λ_ _=>rfl) (AQ 3 G0)))) (KR 11 J L4)<|Ai (A4<|Ci VR zI zJ Qr (AQ 12 L5) (Ag<|Ik rfl Ux (Nc OO T.cQ<|AJ Aj (Ar DZ (AQ 3 G0) Aj)) (λcl C fp π s₂ H₂=>(Cf 0 Ux.nd OP.comp)) (λcl C fp π s₂ H₂=>(GI<|Em (MX K rfl) (FA (Il K rfl) (DE 2 Uy.comp) Fy<|Fz (Ap 0 OP.comp)) (DE 1 AhR.comp) (by with_unfolding_all rfl))) (λcl C fp π s₂ H₂=>(FA (Il K rfl) (DE 2 Uy.comp) Fy<|Fz (Ap 0 OP.comp))))))<|Ad (Dm 13 J OM<|A3 B3) (Ad (CM VZ rfl (Hk OO T.cQ<|Ag (Bo (AaX rfl) AhQ T.aaX Acn<|AJ Aj (Bo B8 ON T.aR B0<|Ag (AQ 12 L5)))) (Cf 8 J Gj)<|Ad (Dm 14 J Kf<|Ar EW (AN AO (Ap 5 IQ) (Ar DZ Aj<|Ap 8 Gj) λ_ _=>rfl) Aj) (Ai<|AV (A1 Jl (Ar BC (Ap 14 Kf) Aj) Aj) (Ai<|A4 (Ci VR Wb Wc Dl (Ap 13 OM)<|Ag (Bp<|AJ (AN AO (AQ 12 L5) (Ap 8 Gj) λ_ _=>rfl) (AN AO (A3<|A0 (Ar BL Aj<|Ar BC (Ar EW (Ap 14 Kf) Aj) Aj) (Ar BC (Ar EW (Ap 14 Kf) Aj) Aj) Aj) (Ar BC (Ar EW (Ap 14 Kf) Aj) Aj) λ_ _=>rfl))))))<|Ad (Dm 15 J Uu<|AN AO (A3<|Co (Ar BL Aj<|Ar BC (AN AO (Ap 2 ES) Aj λ_ _=>rfl) Aj) (A0 (Ar BL Aj<|Ar BC (AN AO (Ap 2 ES) Aj λ_ _=>rfl) Aj) (Bo B8 ON T.aR B0<|Ag (Ap 7 IS))<|Ar BL Aj (Ar BC (AN AO (Ap 2 ES) Aj λ_ _=>rfl) Aj))) (Ar BC (AN AO (Ap 2 ES) Aj λ_ _=>rfl) Aj) (λ_ _=>rfl)) (Ai<|AB (Bp<|Co (AQ 3 G0) (A0 (Ap 7 IS) (Ap 15 Uu)<|Ap 13 OM))))))))),?_⟩;try dsimp only[av,aw]
  symm;refine Dv p ns Y _ _ rfl ⟨hS,a0,(by omega),hn,(by decide),(by decide),(by decide),(by decide),λr row H1 s1 nr dR lR uF=>?_⟩;obtain⟨v0,v1,v2,v3,v4,v5,v6,v7,rfl⟩:=AhN lR;obtain⟨b0,b1,b2,b3,b4,b5,b6,-⟩:_/\_/\_/\_/\_/\_/\_/\_:=by simpa using uF
  clear uF lR
  obtain⟨long,el,ml⟩:=Au<|Kd [3,4,2,4] v0 4;have gX:2<=long/\long<=4:=(by decide:∀x∈([3,4,2,4]:List Int),2<=x/\x<=4) _ ml;obtain⟨B,em,mm⟩:=Au<|Kd [2+v1%9,1+v1%60,6,1+v1%24] v2 4;have adt:1<=B/\B<=60:=by simp only[Vc,VC,or_false]at mm;rcases mm with h|h|h|h<;>omega
  symm;refine⟨Am,λl1 L n1=>?_⟩;symm;refine⟨Am,λl2 H3 n2=>?_⟩;symm;have s3:Ah H H3:=by walk_at "S"
  refine Dv p ns (Y+1) _ _ rfl ⟨s3.seq hS,(by omega),(by omega),hn,(by decide),(by decide),(by decide),(by decide),λd dr H4 s4 nd4 hd4 aE uG=>?_⟩;have aE:dr.length=60:=aE;clear s3 em mm el ml
  symm;refine U4<|Bb d _ rfl (.of hd4) (λsl nsl=>?_);rw[OI _ _<|(by omega)];have t5:=(Ah.refl H4).upd (o:=.lst<|(dr.take (1+v3%6).toNat).map V.int) nsl;have j9:(upd H4 sl<|.lst ((dr.take (1+v3%6).toNat).map V.int)) sl=some (.lst<|(dr.take (1+v3%6).toNat).map V.int):=Ao;generalize upd H4 _ _=H5 at t5 j9 ⊢;have uH:(dr.take (1+v3%6).toNat).length=(1+v3%6).toNat:=by rw[Wg];omega
  generalize dr.take (1+v3%6).toNat=sd at j9 uH ⊢;refine D5 sl rfl ⟨_,.of j9⟩ λst lQ=>?_;refine KS (K:=K) (a:=sl) (xs:=sd.map V.int) (λi σ H'=>∃x,σ=[x,some<|.int long]/\Ah H5 H'/\∃ss:List aU,ss.length=i/\(∀z∈ss,(z.length:Int)=long/\Cg z)/\H' st=some (.lst<|ss.map V.str)) ⟨none,rfl,(Ah.refl H5).upd lQ,[],rfl,λz hz=>absurd hz<|(by simp),Ao⟩ (λi σ H' _ ⟨_,_,O,_⟩=>.of<|O _ _ j9) ?_ ?_
  .intro i y σ H' hi I;replace I:=AG I;obtain⟨x,rfl,O,ss,e1,e2,e3⟩:=I;have kN:i<sd.length:=by have:=(Vz.mp hi).1;rwa [UW]at this
   rw [Va]at hi;cases hk:sd[i]? with
   |none=>rw[hk]at hi;cases hi
   |some v =>
    rw [hk]at hi;cases hi;symm;refine⟨(by omega),(by omega),λz hz dz=>?_⟩;refine⟨_,e3,?_,_,rfl,O.bq lQ,ss++[z],?_,?_,?_⟩
    .rw[UW,e1,U0];omega
    .rw[VA,e1];rfl
    .intro y hy;rcases Vx.mp hy with m|m
     .exact e2 y m
     .rw[Vl.mp m];exact⟨(by omega),dz⟩
    .rw[Ao,Vg];rfl
  intro σ6 H6 I;replace I:=AG I;obtain⟨x6,rfl,sm6,ss,ess,hss,aG⟩:=I;rw[UW,uH]at ess;clear j9
  symm;refine⟨Am,λln uD fW=>?_⟩;have fln:H ln=none:=Ah.free (by walk_at "S") fW.n;symm;refine⟨(by omega),(by omega),Jh (n:=B.toNat) (λi σ L=>∃x8 x9 cv fq,σ=[some<|.ref p,some<|.int Y,some<|.ref r,some<|.int long,some<|.int B,some<|.ref d,some<|.ref st,some<|.ref ln,x8,x9,cv,fq,none,none,none,none]/\Ah H6 L/\∃zs:List aU,L ln=some (.lst<|zs.map V.str)/\zs.Nodup/\zs.length<=i/\(0<i->1<=zs.length)/\∀z∈zs,(z.length:Int)=long/\Cg z) ?_ ?_ ?_⟩
  .exact ⟨none,none,none,none,rfl,fW.same,[],fW.get,WO,Vb _,λh=>absurd h<|Wv _,λz hz=>absurd hz<|(by simp)⟩
  .intro i σ L hi I;replace I:=DW I;obtain⟨x8,x9,cv,fq,rfl,O,zs,hz,iQ,lz,pz,oz⟩:=I;simp only[YK];obtain⟨e,ei,eb⟩:=Au<|drawn uG (i:=i) (by omega) (by omega);obtain⟨keep,ek,mk⟩:=Au<|Kd [long-1,long-2,long-1,0] (e / 6) 4;have uI:0<=keep/\keep<=long:=by
    simp only[Vc,VC,or_false]at mk;rcases mk with h|h|h|h<;>omega
   obtain⟨iR,es,ms⟩:=Au<|AhM (xs:=ss) (i:=e%ss.length) (Xw _<|(by omega)) (Xx _<|(by omega));obtain⟨ls,ds⟩:=hss iR ms;symm;refine⟨Am,λl3 gD n3=>?_⟩;symm;refine U4<|Bb _ _ rfl (.inl<|.of (by walk_at "s")) ?_;rw[UW];have adu:0<(ss.length:Int):=(by omega)
   symm;refine U6<|D5 iR rfl (by rw[U0];omega) ?_;have ii:(i:Int)<60:=(by omega)
   symm;refine⟨(by omega),(by omega),λz2 lO dz2=>?_⟩;have lc:=Ui (z:=iR) uI.1 (by omega);have dl:Cg (DC iR none (some keep)++z2):=AhO (Uj uI.1 ds) dz2;have ll:((DC iR none (some keep)++z2).length:Int)=long:=by rw[Bh,lc,lO];omega
   refine U4<|U6 (CN _ _ rfl rfl (by rw[lc,lO,U0];omega) ?_);generalize DC iR none (some keep)++z2=line at dl ll ⊢;have lS:=n3.same _ _ hz;have bo:=O.trans n3.same;symm;refine U4<|Eo ln (zs.map V.str) rfl (.inl<|.of lS) rfl (LY zs) ?_;simp only[if_true];rw[IC];symm;by_cases hm:line∈zs
   .rw[cx hm];apply BQ;exact Ep _ _ _ _ rfl ⟨bo,zs,lS,iQ,(by omega),λ_=>wY hm,oz⟩
   .rw[cN hm];apply B4;symm;refine⟨.inl ⟨rfl,_,.of lS⟩,?_⟩;symm;refine CZ ln _ _ rfl rfl lS (by rw[UW,U0];omega) ?_;refine Ep _ _ _ _ rfl ⟨bo.bq fW.n,zs++[line],?_,?_,?_,?_,LZ oz λy hy=>?_⟩
    .rw[Ao,Vg];rfl
    .exact WN.mpr ⟨iQ,Vr.mpr ⟨(by simp),WO⟩,λx hx y hy z=>by rw[Vl.mp hy]at z;exact hm<|z▸hx⟩
    .rw[VA];simp;omega
    .intro _;rw[VA];simp
    .rw[Vl.mp hy];exact⟨ll,dl⟩
  .intro σ7 H7 I;replace I:=DW I;obtain⟨x8,x9,cv,fq,rfl,sm7,zs,hz,iQ,lz,pz,oz⟩:=I;have uJ:1<=zs.length:=pz (by omega);have uK:zs.length<=60:=by omega
   clear aG pz lz fW
   symm;refine⟨Am,λhh H8 n8=>?_⟩;symm;refine⟨(by omega),(by omega),λz4 hz4 dz4=>?_⟩;refine⟨Am,λl4 H9 n9=>?_⟩;refine U4<|U4 (Be ln l4 _ _ rfl rfl (by walk_at "s") n9.get (by rw[UW,U0];simp;omega) λl5 n5=>?_);rw[AhP];have ta:=(n8.same.trans n9.same).upd (o:=.lst<|(zs++[z4]).map V.str) n5;have uL:upd H9 l5 (.lst<|(zs++[z4]).map V.str) hh=some (.lst []):=(Ah.refl H9).upd n5 _ _ (by walk_at "s");have ha:(upd H9 l5<|.lst ((zs++[z4]).map V.str)) l5=some (.lst<|(zs++[z4]).map V.str):=Ao;have nlh:l5≠hh:=λz=>by rw[z,n9.same _ _ n8.get]at n5;cases n5
   generalize upd H9 _ _=Ha at ta ha uL ⊢;clear n9 n5
   have oz4:∀z∈zs++[z4],(z.length:Int)=long/\Cg z:=LZ oz λy hy=>by rw[Vl.mp hy];exact⟨(by omega),dz4⟩
   have lz4:(zs++[z4]).length<=61:=by rw[VA];simp;omega
   symm;refine⟨⟨_,.of ha⟩,D8 (K:=K) (a:=l5) (xs:=(zs++[z4]).map V.str) (λi σ L=>∃x8 x9 cv fq,σ=[some<|.ref p,some<|.int Y,some<|.ref r,some<|.int long,some<|.int B,some<|.ref d,some<|.ref st,some<|.ref ln,x8,x9,cv,fq,some<|.ref hh,none,none,none]/\CD [hh] Ha L/\∃hs:List aU,L hh=some (.lst<|hs.map V.str)/\hs.Nodup/\hs.length<=4*i/\∀z∈hs,(1<=z.length/\(z.length:Int)<=long-2)/\Cg z)
    ⟨_,_,_,_,rfl,λb o _ e=>e,[],uL,WO,Vb _,λz hz=>absurd hz<|(by simp)⟩ (λi σ L _ ⟨_,_,_,_,_,O,_⟩=>.of<|O _ _ (by simpa using nlh) ha) ?_ ?_⟩
   .intro i y σ L hi I;replace I:=DW I;obtain⟨x8,x9,cv,fq,rfl,O,hs,hH,gO,lh,oh⟩:=I;obtain⟨z,rfl,hk⟩:=Au<|Ke hi;have kN:=(Vz.mp hk).1;obtain⟨zl,zd⟩:=oz4 z<|Vh hk;symm;refine⟨.inl ⟨rfl,_,.of hH⟩,?_⟩;symm;refine⟨⟨(by omega),(by omega),(by omega),(by omega)⟩,λD nD=>?_⟩;refine JC (lo:=1) (n:=(long-1-1).toNat) (λk σ H3=>∃x,σ=[x,some<|.ref hh,some<|.str z]/\Ah L H3/\H3 D=some (.lst<|(Ej z hs k).map V.str)) ⟨none,rfl,(Ah.refl L).upd nD,Ao⟩ ?_ ?_
    .intro k σ H3 lT I;replace I:=AG I;obtain⟨x,rfl,bo,hL⟩:=I;symm;refine U6<|D5 z rfl (by rw[U0];omega) ?_;symm;refine U4<|Eo hh (hs.map V.str) rfl (.inl<|.of (bo _ _ hH)) rfl (LY hs) ?_;simp only[if_true];rw[IC];symm;have es:=Uk z hs k;by_cases hm:ER z k∈hs
     .have cF:DC z none (some<|1+(k:Int))∈hs:=hm;rw[cx cF];apply BQ;rw[bf hm,V5]at es;exact⟨_,rfl,bo,by rwa[es]⟩
     .have cF:DC z none (some<|1+(k:Int)) ∉ hs:=hm;rw[cN cF];apply B4;symm;refine U6<|D5 z rfl (by rw[U0];omega) ?_;rw[ck hm]at es;have:=Kc z hs k;refine⟨_,hL,(by rw[UW,U0];omega),_,rfl,bo.bq nD,?_⟩;rw[Ao,es,Vg];rfl
    .intro σ H3 I;replace I:=AG I;obtain⟨x,rfl,bo,hL⟩:=I;have nl:=Kc z hs (long-1-1).toNat;obtain⟨qB,de⟩:=Ul (z:=z) (hs:=hs) (n:=(long-1-1).toNat) (by omega) zd gO;refine Be hh D _ _ rfl rfl (bo _ _ hH) hL (by rw[UW,UW,U0];omega) ?_;refine Ep _ _ _ _ rfl ⟨λb o hb e=>by rw[Aw<|(by simpa using hb)];exact bo _ _<|O b o hb e,hs++Ej z hs (long-1-1).toNat,by rw[Ao,Vg],qB,by rw[VA];omega,LZ oh λy m=>?_⟩;obtain⟨⟨g1,g2⟩,g3⟩:=de y m;exact⟨⟨g1,(by omega)⟩,g3⟩
   .intro σb Hb I;replace I:=DW I;obtain⟨x8b,x9b,adv,adw,rfl,smb,hs,hH,gO,lh,oh⟩:=I;rw[UW]at lh;have sb:Ah H7 Hb:=λb o e=>smb _ _ (λz=>by rw[Vl.mp z,n8.n]at e;cases e)<|ta _ _ e;clear ta n8
    have qC:=sb _ _ hz;symm;refine⟨Am,λgg Hc nc=>?_⟩;have qD:=nc.n;have fgg:H gg=none:=Ah.free (by walk_at "S") qD;symm;refine U4<|Bb _ _ rfl (.inl<|.of (by walk_at "s")) ?_;rw[UW];symm;have mn:0<=(if (hs.length:Int)<40 then(hs.length:Int)else 40)/\(if (hs.length:Int)<40 then(hs.length:Int)else 40)<=40/\(if (hs.length:Int)<40 then(hs.length:Int)else 40)<=hs.length:=by split<;>omega
    generalize (if (hs.length:Int)<40 then(hs.length:Int)else 40)=mm at mn ⊢;refine⟨(by omega),(by omega),Jh (n:=mm.toNat) (λi σ L=>∃x8 x9 cv fq uM,σ=[some<|.ref p,some<|.int Y,some<|.ref r,some<|.int long,some<|.int B,some<|.ref d,some<|.ref st,some<|.ref ln,x8,x9,cv,fq,some<|.ref hh,some<|.ref gg,uM,none]/\Ah Hb L/\∃ts:List Pr,L gg=some (.lst<|ts.map Bw)/\C7 L ts/\(ts.map (·.2.1)).Sublist (hs.take i)/\(∀t∈ts,(0<=t.2.2/\t.2.2<=10)/\H t.1=none)) ?_ ?_ ?_⟩
    .exact Dv _ _ _ _ none rfl ⟨nc.same,[],nc.get,λt m=>absurd m<|(by simp),Xm _,λt m=>absurd m<|(by simp)⟩
    .intro i σ L hi I;replace I:=Pa I;obtain⟨x8,x9,cv,fq,uM,rfl,O,ts,hG,lay,sub,ok⟩:=I;simp only[YK];have uN:ts.length<=i:=by have:=sub.length_le;rw[UW,Wg]at this;omega
     obtain⟨e,ei,eb⟩:=Au<|drawn uG (i:=59-i) (by omega) (by omega);have uO:i<hs.length:=(by omega)
     have eh:Cd (hs.map V.str) (i:Int)=some (.str hs[i]):=by obtain⟨v,e1,e2⟩:=Au<|GF (xs:=hs.map V.str) (k:=(i:Int)) (by omega) (by rw[UW];omega);rw[e1,<-e2];change(hs.map V.str)[i]?=_;rw[Va,Vi uO];rfl
     have tk:hs.take (i+1)=hs.take i++[hs[i]]:=by rw[WE,Vi uO];rfl
     obtain⟨mv,em,uP⟩:=Au<|Kd [1+e / 7 / 9%3,e / 7 / 9%11,1] (e / 7 / 99) 3;have hmv:0<=mv/\mv<=10:=by simp only[Vc,VC,or_false]at uP;rcases uP with h|h|h<;>omega
     clear nc
     symm;by_cases hp:e / 7%9 > 0;case neg =>
      apply D4 (cN hp);exact Dv _ _ _ _ _ rfl ⟨O,ts,hG,lay,by rw[tk];exact sub.trans<|zK _ _,ok⟩
     apply DL (cx hp);symm;refine⟨.inl ⟨rfl,_,.of hG⟩,?_⟩;symm;refine⟨Am,λl6 H3 n6=>?_⟩;symm;refine⟨Am,λtt H4 n7=>?_⟩;have uQ:=n7.same _ _<|n6.same _ _ hG;symm;refine CZ gg _ _ rfl rfl uQ (by rw[UW,U0];omega) ?_;refine Dv _ _ _ _ _ rfl ⟨?_,ts++[(tt,hs[i],mv)],?_,?_,?_,?_⟩
     .exact ((O.trans n6.same).trans n7.same).bq qD
     .rw[Ao,Vg];rfl
     .refine C7.put (λt m=>?_) uQ;rcases Vx.mp m with z|z
      .exact n7.same _ _ (n6.same _ _<|lay t z)
      .rw[Vl.mp z];exact n7.get
     .rw[tk,Vg];exact sub.append<|Xm _
     .intro t m;rcases Vx.mp m with z|z
      .exact ok t z
      .rw[Vl.mp z];exact⟨hmv,Ah.free (by walk_at "S") n7.n⟩
    .intro σd Hd I;replace I:=Pa I;obtain⟨y8,y9,uR,y11,y14,rfl,uS,ts,hG,lay,sub,ok⟩:=I;obtain⟨bj,em,uT⟩:=Au<|Kd [1+v5%4,1+v5%60,(zs.length:Int),1+v5%8] v6 4;have uU:1<=bj/\bj<=60:=by
      simp only[Vc,VC,or_false]at uT;rcases uT with h|h|h|h<;>omega
     have qE:ln≠gg:=Cn qC qD;clear nc
     symm;refine U4<|Bb _ _ rfl (.inl<|.of (uS _ _ qC)) ?_;rw[UW];symm;refine⟨Am,λl7 He n7=>?_⟩;symm;refine⟨Am,λtt Hf nf=>?_⟩;have tg:=n7.same.trans nf.same;have uN:ts.length<=40:=by have:=sub.length_le;rw[UW,Wg]at this;omega
     refine q _ tt long ln bj gg zs ts (by walk_at "S") nf.get (tg _ _<|uS _ _ qC) (tg _ _ hG) (lay.same tg) ⟨⟨gX.1,gX.2,uU.1,uU.2⟩,⟨⟨uJ,uK⟩,oz,iQ⟩,uN,λt m=>?_,?_⟩ (Ah.free (by walk_at "S") nf.n) fln fgg qE λt m=>(ok t m).2
     .obtain ⟨⟨g1,g2⟩,g3⟩:=oh t.2.1<|ZK (sub.subset<|Ve.mpr ⟨t,m,rfl⟩);exact⟨⟨(by omega),g2⟩,g3,(ok t m).1⟩
     .exact (gO.sublist<|YY _ _).sublist sub
def UB(K:UT)(a:An):Sp:=λvs H Q _=>∃(pt l g:ar)(long n:Int)(zs:List aU)(ts:List Pr)(C:Ax),vs=[.ref pt]/\At H C/\H pt=some (.tup [.int long,.ref l,.int n,.ref g])/\(l,.lst (zs.map V.str))∈C/\(g,.lst (ts.map Bw))∈C/\C7 H ts/\Hv long n zs ts /\
 ∀(H':Hp)(X:HX)(aq:List aU)(aO:List Pr),HT K a H' X C->X.S=cK long aq n (aO.map (·.2))->aq.Perm zs->aq.Pairwise C6->aO.Perm ts->WF X.S->WX X.S->Af H H'->Q (.ref X.h) H'
def Kg:AM ["parts"] ["parts"] (Ab<|top 58):=.of
def AhV:Gm (Ab<|top 58) "Hall":=.of
def AhW:Gm (Ab<|top 58) "Plan":=.of
def UC:Gm (Ab<|top 58) "list":=.of
def AhX(F:AE K "_law_hall" "_law_hall" (top 58) f fd)(T:HQ P w K mg a)(acC:GJ P w K mg base Av 4 a.ak "Hall" ["self","plan"] (Ti K a))(acD:GJ P w K mg base (AI P w) 3 a.Plan "Plan" ["self","long","lines","seekers","groups"] (Se a K))(pc:Lq K a.Plan):Az P w K mg base Av 6 f fd ["parts"] (UB K a):=by
 refine F.ok Kg.fs λai A outer s H vs Q E hr h=>?_
 .obtain ⟨pt,l,g,long,n,zs,ts,C,rfl,t2,acE,ml,cL,lay,I,q⟩:=h;show 4;have acF:=I;obtain⟨⟨uw,lo1,n0,n1⟩,⟨⟨z0,z1⟩,zd,zn⟩,⟨g0,gd,gn⟩⟩:=AU acF;refine⟨_,(@Ai _ _ _ (AB (Jz acC AhV hr.d AK (Ag (Jz acD AhW hr.d GD (Co (AN AO (Aa 0 Kg) Aj (λ_ _=>rfl)) (A0 (CO (FH rfl) UC T.cR E9 (Ag (AN AO (Aa 0 Kg) Aj (λ_ _=>rfl)))) (AN AO (Aa 0 Kg) Aj (λ_ _=>rfl)) (CO (FH rfl) UC T.cR E9 (Ag (AN AO (Aa 0 Kg) Aj (λ_ _=>rfl))))))))))),?_⟩;try dsimp only[av,aw]
  walk_at "w";refine .inl (Bb l _ rfl (.inl (.of (t2.get ml))) (λl2 cg=>?_));have O:BI H (upd H l2 (.lst (zs.map V.str))) l2 (.lst (zs.map V.str)):=⟨cg,rfl⟩;generalize upd H _ _=H3 at O ⊢;have e3:=O.same _ _ acE;walk_at "w";refine .inl (Bb g _ rfl (.inl (.of (O.same _ _ (t2.get cL)))) (λg2 j0=>?_));have n4:BI H3 (upd H3 g2 (.lst (ts.map Bw))) g2 (.lst (ts.map Bw)):=⟨j0,rfl⟩;generalize upd H3 _ _=Y at n4 ⊢;have t4:=t2.same (O.same.trans n4.same);walk_at"";intro pl B npl uV gI;have uW:(upd Y B (.own pl)) pl=none:=by rw[Aw (Vy gI)];exact npl
  have t5:=(t4.new (u:=.own pl) uV).new (u:=.ins a.Plan B []) uW;have s5:Ah Y (upd (upd Y B (.own pl)) pl (.ins a.Plan B [])):=((Ah.refl Y).upd uV).upd uW;have e5:(upd (upd Y B (.own pl)) pl (.ins a.Plan B [])) pl=some (.ins a.Plan B []):=Ao;generalize upd (upd Y _ _) _ _=H5 at t5 s5 e5 ⊢;have uX:=O.same.trans (n4.same.trans s5);have acG:C7 H5 ts:=λt m=>uX _ _ (lay t m);refine GB pl long l2 n g2 a.Plan B zs ts rfl ⟨e5,pc,⟨s5 _ _ (n4.same _ _ O.get),s5 _ _ n4.get,acG,λz m=>⟨(zd z m).2.asc,by have:=(zd z m).1;omega⟩,λt m=>⟨(gd t m).2.1.asc,by have:=(gd t m).1.2;omega⟩,(by omega),(by omega)⟩,λ_ H6 lt gt aq aO x6 e6 aP lq D gN J _=>?_,λng=>absurd I ng⟩;have t6:=At.init (N:=[]) t5 x6 e6 (λc m=>nomatch m) .nil;have p6:Af H5 H6:=At.aj (C:=[(pl,.ins a.Plan B [])]) (t5.sub (.cons₂ _ (zL _))) x6 (λw m=>by simpa using m) (λc m=>by rw[Vl.mp m];rfl);walk_at"";intro h L nh uY nhd;have uZ:(upd H6 L (.own h)) h=none:=by rw[Aw (Vy nhd)];exact nh
  have t7:=(t6.new (u:=.own h) uY).new (u:=.ins a.ak L []) uZ;have s7:Ah H6 (upd (upd H6 L (.own h)) h (.ins a.ak L [])):=((Ah.refl H6).upd uY).upd uZ;generalize upd (upd H6 _ _) _ _=H7 at t7 s7 ⊢;have p7:Af H H7:=(Af.of uX).trans (p6.trans (.of s7));have u9:(aO.map (·.2.1)).Nodup:=(J.map _).nodup_iff.mpr gn;have va:∀t∈aO,t.2.1≠U3 ""/\0<=t.2.2/\t.2.2<=10:=λt m=>by
   obtain⟨⟨u1,_⟩,_,u2,u3⟩:=AU<|gd t (J.mem_iff.mp m);refine⟨λc=>?_,u2,(by omega)⟩;rw[c]at u1;exact absurd u1 `x
  refine⟨h,L,pl,B,lt,gt,long,n,aq,aO,_,rfl,t7,(by simp),pc,s7 _ _ aP,s7 _ _ lq,λt m=>p7.t (lay t (J.mem_iff.mp m)),D.nodup_iff.mpr zn,u9,(λt m=>let ⟨a,b,c⟩:=va t m;⟨a,b,by omega⟩),by rw[J.length_eq];omega,by rw[D.length_eq];exact z1,(by omega),n1,λH8 X eh eS t8 p8=>?_⟩;rw[<-eh];refine⟨rfl,q H8 X aq aO (t8.sub (.cons _ (.cons _ (.cons _ (.refl _))))) eS D gN J ?_ (λln m=>?_) (p7.trans p8)⟩
  .rw[eS];refine WF.cK uw (by omega) (D.nodup_iff.mpr zn) (by rw[D.length_eq];omega) (by rw[D.length_eq];exact z1) n0 n1 (by rw[Vn];exact u9) (λp m=>?_) (λz m=>?_) (λp m=>?_) (λz m=>(zd z (D.mem_iff.mp m)).1) (λp m=>?_) λz m=>(zd z (D.mem_iff.mp m)).2
   .obtain ⟨t,mt,rfl⟩:=Ve.mp m;exact va t mt
   .have:=zd z (D.mem_iff.mp m);exact⟨⟨this.2.asc,(by omega)⟩,(by omega)⟩
   .obtain ⟨t,mt,rfl⟩:=Ve.mp m;have:=gd t (J.mem_iff.mp mt);exact⟨this.2.1.asc,by have:=this.1.2;omega⟩
   .obtain ⟨t,mt,rfl⟩:=Ve.mp m;exact(gd t (J.mem_iff.mp mt)).1.2
  .rw[eS]at m;obtain⟨z,_,rfl⟩:=Au<|Ve.mp m;exact⟨IJ,(λp m=>nomatch m),.aa⟩
structure B7(K:UT)(a:An)(b:ar×ar×List aU)(H:Hp)(X:HX)(W:VW)(R:Ax)(dl:List ar)(ds:List PyData):Prop where
 bt:BD K a b H X W R
 wf:WF X.S
 wx:WX X.S
 dn:X.dn=dl.map V.ref
 td:BV K H dl ds
 ld:∀d∈ds,Bg 2 d
noncomputable def Bi.data:Bi->PyData
 |.bb b w k=>.tuple [.str (HK b),.str w,.int k]
 |.line d z=>.tuple [.str d.wo,.str z]
def AhY (d:Bi)(h:H dd=some (.tup d.vals)):Is K H (.ref dd) d.data:=by
 cases d with
 |bb b w k=>exact .tup (.of h)<|.cons (.str _) (.cons (.str _)<|.cons (.int _) .nil)
 |line d z=>exact .tup (.of h)<|.cons (.str _) (.cons (.str _) .nil)
def AhZ(d:Bi)(t:d.txt):Bg 2 d.data:=by
 cases d with
 |bb b w k=>exact(Bg.tup (n:=0)<|EN (.str<|by cases b<;>exact asc) (.str t.1) (.int _)).up<|(by decide)
 |line d z=>exact(Bg.tup (n:=0)<|GY (.str<|by cases d<;>exact asc) (.str t.1)).up<|(by decide)
def Ah0(d:Bi):Cs d.data=true:=by cases d<;>rfl
section
variable {K:UT}{a:An}{b:ar×ar×List aU}{H H':Hp}{X:HX}{W:VW}{R R':Ax}{dl:List ar}{ds:List PyData}{l:ar}{o:HO}
def At.add (t:At H C)(s:Ah H H')(n:H l=none)(e:H' l=some o):At H' ((l,o)::C):=⟨λc m=>(Vc.mp m).elim (λz=>by rwa[z]) λm=>s _ _<|t.at_ c m,Vr.mpr ⟨t.free n,t.nd⟩⟩
def At.acH (t:At H C)(s:Ah H H')(n:H l=none)(k:H g=none)(ne:l≠g)(e:H' l=some o)(f:H' g=some u):At H' ((l,o)::(g,u)::C):=⟨λc m=>(Vc.mp m).elim (λz=>by rwa[z])<|(t.add s k f).at_ c,Vr.mpr ⟨λm=>(Vc.mp m).elim ne<|t.free n,(t.add s k f).nd⟩⟩
def BD.add(t:BD K a b H X W R)(s:Ah H H')(n:H l=none)(e:H' l=some o):BD K a b H' X W ((l,o)::R):=by refine⟨⟨?_,t.h.ok.aj<|.of s⟩,t.w.aj<|.of s,t.b⟩;have h:=t.h.t.add s n e;rw[Fq,VW.d4,<-Vj]at h;rw[Fq,VW.d4,<-Vj];exact h.back
def BD.sub(t:BD K a b H X W R)(s:R'.Sublist R):BD K a b H X W R':=by refine⟨t.h.sub ?_,t.w,t.b⟩;rw[VW.d4,VW.d4 (R:=R)];exact(Xm _).append s
def BD.r(t:BD K a b H X W R):At H R:=by have z:=t.h.t;rw[Fq,VW.d4]at z;exact z.right.right
def B7.nm(t:B7 K a b H X W R dl ds):X.S.lns.map (·.num)=b.2.2:=t.bt.w.ln.symm.trans t.bt.b.2.2
def B7.ln (t:B7 K a b H X W R dl ds)(m:z∈b.2.2):∃(i:Nat)(ln:Ln),X.S.lns[i]?=some ln/\ln.num=z:=t.wf.g.at<|by rwa[t.nm]
def B7.same(t:B7 K a b H X W R dl ds)(s:Ah H H'):B7 K a b H' X W R dl ds:=⟨t.bt.same s,t.wf,t.wx,t.dn,t.td.aj<|.of s,t.ld⟩
def B7.sub(t:B7 K a b H X W R dl ds)(s:R'.Sublist R):B7 K a b H X W R' dl ds:=⟨t.bt.sub s,t.wf,t.wx,t.dn,t.td,t.ld⟩
def B7.add(t:B7 K a b H X W R dl ds)(s:Ah H H')(n:H l=none)(e:H' l=some o):B7 K a b H' X W ((l,o)::R) dl ds:=⟨t.bt.add s n e,t.wf,t.wx,t.dn,t.td.aj<|.of s,t.ld⟩
def B7.new(t:B7 K a b H X W R dl ds)(n:BI H H' l o):B7 K a b H' X W ((l,o)::R) dl ds:=t.add n.same n.n n.get
def At.acI (t:At H (W.A ((l,o)::A5 a X (C++R)))):At H (A5 a X ((l,o)::C++W.A R)):=by apply At.toH (C:=(l,o)::C);rw[VW.d4]at t ⊢;rw[Fq]at t;rw[Fq (R:=(l,o)::C++R)];exact t.perm (LL λc=>by simp only[xh,Z3,Xj];omega)
end
def DD(H:Hp)(z:aU)(xs:List ar):Prop:=∀x∈xs,∃d:LW,H x=some (.tup [.str d.wo,.str z])
def DD.aj (h:DD H z xs)(s:Af H B):DD B z xs:=λx m=>let ⟨d,e⟩:=h x m;⟨d,s.t e⟩
def DD.app (h:DD H z xs)(k:DD H z ys):DD H z (xs++ys):=λx m=>(Vx.mp m).elim (h x)<|k x
def Ah1 (h:48<=c/\c<=57):Y7 ⟨#[c]⟩=some ((c:Int)-48):=by
 have B:∀m:Nat,m<10->Y7 ⟨#[48+m]⟩=some (m:Int):=(by decide +kernel)
 have e:=B (c-48) (by omega);rw[show 48+(c-48)=c by omega]at e;rw[e];congr 1;omega
def Ah2{c:Nat}(h:48<=c/\c<=57):∃m:Int,Cd [V.int 10,.int 1,.int 2,.int 3,.int 4,.int 5,.int 6,.int 7,.int 8,.int 9] ((c:Int)-48)=some (.int m)/\0<=m/\m<=11:=by
 have h:c=48\/c=49\/c=50\/c=51\/c=52\/c=53\/c=54\/c=55\/c=56\/c=57:=(by omega)
 rcases h with rfl|rfl|rfl|rfl|rfl|rfl|rfl|rfl|rfl|rfl<;>exact⟨_,rfl,(by decide),(by decide)⟩
def UD:Sp:=λvs H Q _=>∃(z y:aU),vs=[.str z,.str y]/\Cg y/\y.length<=9 /\
 ∀H' l xs,Ah H H'->H l=none->H' l=some (.lst (xs.map V.ref))->DD H' z xs->xs.length<=121->Q (.ref l) H'
def ET:AM ["line","figures","deeds","figure"] ["line","figures"] (Ab<|top 61):=.of
def Ah3:Gm (Ab<|top 61) "int":=.of
def Ah4(F:AE K "_law_dials" "_law_dials" (top 61) f fd)(T:HQ P w K mg a):Az P w K mg base Av 1 f fd ["line","figures"] UD:=by
 refine F.ok ET.fs λai A outer s H vs Q E hr h=>?_
 .obtain ⟨z,y,rfl,dy,ly,q⟩:=h;show 4;have nd:=ET.fs.nd;refine⟨_,(@Ad _ _ _ _ _ (A8 2 ET<|A3 (Ag<|Bp (AJ Ae<|Aa 0 ET)))<|Ad (CM VZ rfl (QG<|Aa 1 ET) (B9 3 ET)<|Ai (A8 2 ET<|Ar BL (Ar BL (Aa 2 ET)<|Ar Ce (A3<|Ag (Bp<|AJ Ae (Aa 0 ET))) (AN AO (A3<|Ii rfl) (CO MW Ah3 T.nS My<|Ag (Aa 3 ET)) λ_ _=>rfl)) (A3<|Ag (Bp<|AJ Ae (Aa 0 ET))))) (Ai<|AB (Aa 2 ET))),?_⟩;try dsimp only[av,aw]
  have aZ:start ["line","figures","deeds","figure"] [.str z,.str y]=[some<|.str z,some<|.str y,none,none]:=rfl;simp only[aZ,WQ,WR];rw[F4]at ly;show⟨Am,λp0 H0 n0=>?_⟩;refine⟨Am,λl0 H1 D=>?_⟩;show⟨RZ dy.asc,Acd (z:=y) (λi σ H'=>∃I xs v,σ=[some<|.str z,some<|.str y,some<|.ref I,v]/\Ah H H'/\H I=none/\H' I=some (.lst<|(xs.map V.ref))/\DD H' z xs/\xs.length<=1+13*i) ⟨l0,[p0],none,rfl,n0.same.trans D.same,n0.same.free D.n,D.get,(λx m=>by rw[Vl.mp m];exact⟨.lift,D.same _ _ n0.get⟩),Vb _⟩ ?_ ?_⟩
  .intro i c σ H' hc zq;replace zq:=Gk zq;obtain⟨I,xs,v,rfl,sm,cg,bZ,dd,lx⟩:=zq;have dc:=dy c<|Vh hc;have il:=(Vz.mp hc).1;obtain⟨m,em,m0,m1'⟩:=AG<|Ah2 dc;show⟨Am,λB H1' L=>?_⟩;refine⟨Am,λl3 H2' m2=>?_⟩;show⟨Am,λl gD D=>?_⟩;show U4 (U4<|CN _ _ rfl (Ah1 dc) (by change 1<=640;decide) ?_);refine U6<|Cq (.of D.get) em ?_;show U4 (U4<|BO l3 m [V.ref B] rfl ⟨rfl,D.same _ _ m2.get,by omega,by omega,(by rw[Wa,U0];omega),λl4 eR=>?_⟩);rw[FJ,<-HR];have O:BI gD (upd gD l4<|.lst ((U5 m.toNat B).map V.ref)) l4 (.lst<|(U5 m.toNat B).map V.ref):=⟨eR,rfl⟩;generalize upd gD _ _=lU at O ⊢;refine U4<|U4 (Be I l4 _ _ rfl rfl ((L.same.trans<|m2.same.trans (D.same.trans O.same)) _ _ bZ) O.get (by rw[UW,UW,VY,U0];omega) λl5 og=>?_);rw[<-Vg];have m4:BI lU (upd lU l5<|.lst ((xs++U5 m.toNat B).map V.ref)) l5 (.lst<|(xs++U5 m.toNat B).map V.ref):=⟨og,rfl⟩;generalize upd lU _ _=lH at m4 ⊢;show⟨Am,λJ uD m5=>?_⟩;refine⟨Am,λl6 lP Y=>?_⟩;refine U4<|U4 (Be l5 l6 _ _ rfl rfl ((m5.same.trans Y.same) _ _ m4.get) Y.get (by rw[UW,VA,VY,U0];change _+1<=_;omega) λl8 lV=>?_);rw[show(xs++U5 m.toNat B).map V.ref++[V.ref J]=(xs++U5 m.toNat B++[J]).map V.ref by rw[Vg (l₂:=[J])];rfl];have m7:BI lP (upd lP l8<|.lst ((xs++U5 m.toNat B++[J]).map V.ref)) l8 (.lst<|(xs++U5 m.toNat B++[J]).map V.ref):=⟨lV,rfl⟩;generalize upd lP _ _=H8' at m7 ⊢;have sA:=m2.same.trans<|D.same.trans (O.same.trans<|m4.same.trans (m5.same.trans<|Y.same.trans m7.same));refine BO l8 (xs++U5 m.toNat B++[J]) _ rfl ⟨sm.trans<|L.same.trans sA,(sm.trans<|L.same.trans (m2.same.trans<|D.same.trans (O.same.trans<|m4.same.trans (m5.same.trans Y.same)))).free lV,m7.get,?_,?_⟩
   .refine ((dd.aj<|.of (L.same.trans sA)).app λx m=>?_).app λx m=>?_
    .rw[(xg.mp m).2];exact⟨.b9,sA _ _ L.get⟩
    .rw[Vl.mp m];exact⟨.gap,(Y.same.trans m7.same) _ _ m5.get⟩
   .rw[VA,VA,VY,Wa];omega
  .intro σ H9 zq;replace zq:=Gk zq;obtain⟨I,xs,v,rfl,sm,cg,bZ,dd,lx⟩:=zq;ext;exact q H9 I xs sm cg bZ dd<|(by omega)
def DG(H:Hp)(xs:List ar):Prop:=∀x∈xs,∃d:Bi,H x=some (.tup d.vals)/\d.txt
def DG.aj (h:DG H xs)(s:Af H B):DG B xs:=λx m=>let ⟨d,e,t⟩:=h x m;⟨d,s.t e,t⟩
def OQ(K:UT)(a:An):Sp:=λvs H Q _=>∃(X:HX)(b:ar×ar×List aU)(W:VW)(R:Ax)(dl:List ar)(ds:List PyData)(l:ar)(xs:List ar),vs=[.ref X.h,.ref b.1,.ref l]/\B7 K a b H X W ((l,.lst (xs.map V.ref))::R) dl ds/\DG H xs/\dl.length+xs.length<=20000 /\
 ∀H' X' W' cM ft,B7 K a b H' X' W' ((l,.lst (xs.map V.ref))::R) cM ft->X'.h=X.h->cM.length<=dl.length+xs.length->Af H H'->Q (.bl true) H'
def FU:AM ["hall","world","deeds","deed"] ["hall","world","deeds"] (Ab<|top 60):=.of
def Ah5:Gm (Ab<|top 60) "_law_shows":=.of
def Ah6:Gm (Ab<|top 60) "_law_answer":=.of
def Ah7:Gm (Ab<|top 60) "_law_due":=.of
def Ah8(F:AE K "_law_led" "_law_led" (top 60) f fd)(T:HQ P w K mg a)(qF:Bt P w K mg base Av 10 "_law_answer" ["hall","deed"] (T6 K a))(qG:Bt P w K mg base Av 5 "_law_due" ["world","deed"] (T3 K))(qH:Bt P w K mg base Av 3 "_law_shows" ["hall","world"] (Ud K a)):Az P w K mg base Av 11 f fd ["hall","world","deeds"] (OQ K a):=by
 refine F.ok FU.fs λai A outer s H vs Q E hr h=>?_
 .obtain ⟨X,b,W,R,dl,ds,l,xs,rfl,D,dg,lx,q⟩:=h;show 4;have nd:=FU.fs.nd;refine⟨_,(@Ad _ _ _ _ _ (CM VZ rfl (Dk<|Aa 2 FU) (B9 3 FU)<|Ai (AV (PW.pt<|I0 (A1 (E8 hu) (A9 qF Ah6 hr.d AK<|AJ (Aa 0 FU) (Aa 3 FU))<|A9 qG Ah7 hr.d AK (AJ (Aa 1 FU)<|Aa 3 FU)) (IZ<|DY (Dj<|A9 qH Ah5 hr.d AK (AJ (Aa 0 FU)<|Aa 1 FU))))<|Ai (AB DX)))<|Ai (AB DX)),?_⟩;try dsimp only[av,aw]
  show⟨⟨_,.of D.bt.r.hd⟩,D8 (K:=K) (a:=l) (xs:=(xs.map V.ref)) (λi σ H'=>∃B L J Y y,σ=[some<|.ref X.h,some<|.ref b.1,some<|.ref l,y]/\B7 K a b H' B L ((l,.lst<|(xs.map V.ref))::R) J Y/\B.h=X.h/\J.length<=dl.length+i/\Af H H') ⟨X,W,dl,ds,none,rfl,D,rfl,Vb _,.refl⟩ (λi σ H' _ ⟨_,_,_,_,_,_,v,_⟩=>.of v.bt.r.hd) ?_ ?_⟩
  .intro i v σ H' hi zq;replace zq:=Pa zq;obtain⟨B,L,J,Y,y9,rfl,D,dW,lW,p9⟩:=zq;rw[Va]at hi;obtain⟨O,hd,rfl⟩:=Au<|VH.mp hi;obtain⟨d,cb,dt⟩:=Au<|(dg.aj p9) O (Vh hd);have il:=(Vz.mp hd).1;rw[<-dW];have ldn:B.dn.length<22000:=by rw[D.dn,UW];omega
   have fin:∀(H2:Hp)(X0:HX)(W0:VW)(lX:List ar)(qI:List PyData),B7 K a b H2 X0 W0 ((l,.lst<|(xs.map V.ref))::R) lX qI->X0.h=B.h->lX.length<=dl.length+(i+1)->Af H H2->∃vb L J Y y9,([some<|.ref B.h,some<|.ref b.1,some<|.ref l,some<|.ref O]:St)=[some<|.ref B.h,some<|.ref b.1,some<|.ref l,y9]/\B7 K a b H2 vb L ((l,.lst<|(xs.map V.ref))::R) J Y/\vb.h=B.h/\J.length<=dl.length+(i+1)/\Af H H2:=λH2 X0 W0 lX qI v e l p=>⟨X0,W0,lX,qI,_,rfl,v,e,l,p⟩;show Ep B _ d O rfl ⟨D.bt.h,cb,D.wf,dt,by omega,?_⟩;cases er:Bi.res B.S d with
   |inl e =>
    intro H2 s2;have qJ:=D.same s2;show EH b L B.S _ d O rfl ⟨qJ.bt.wd,qJ.wf,s2 _ _ cb,(by change B.dn.length<_;omega),?_⟩;rw[er];intro H3 s3;have I:=qJ.same s3;ext;rw[cx (rfl:V.str e.nm=V.str e.nm)];apply BQ;show EH B b L _ J Y rfl ⟨I.bt,I.wf,I.wx,I.dn,I.td,I.ld,λH4 s4=>?_⟩;ext;exact fin H4 B L J Y (I.same s4) rfl (by omega)<|p9.trans (.of<|s2.trans (s3.trans s4))
   |inr rr =>
    intro H2 X0 p0 vc t0 qK lY q0 td0;show EH b L B.S _ d O rfl ⟨⟨At.toW (C:=[(p0,.lst<|vc.map V.ref)]) t0.t,D.bt.w.aj q0,D.bt.b⟩,D.wf,q0.t cb,(by change B.dn.length<_;omega),?_⟩;rw[er];intro H3 W3 p3 xs3 t3 q3 td3;obtain⟨wx3,ly⟩:=D.wx.next D.wf er O
    have ve:=At.acI (C:=[(p0,.lst<|vc.map V.ref)]) t3.t;have I:B7 K a b H3 X0 W3 ((l,.lst<|(xs.map V.ref))::R) (J++[O]) (Y++[d.data]):=by
     refine⟨⟨⟨ve.sub<|by rw[Fq,Fq (R:=_::_++_)];exact(Xm _).append (.cons _<|.cons _ (.refl _)),t0.ok.aj q3⟩,by rw[lY];exact t3.ok,t3.b⟩,by rw[lY];exact D.wf.next er O,by rwa[lY],?_,(D.td.aj<|q0.trans q3).app<|.one (AhY d<|(q0.trans q3).t cb) (Ah0 _),λe m=>(Vx.mp m).elim (D.ld e) λm=>by rw[Vl.mp m];exact AhZ d dt⟩;have:X0.S.dn=B.S.dn++[.ref O]:=by rw[lY];exact D.wf.abP er O
     rw [show X0.dn=X0.S.dn from rfl,this,show B.S.dn=B.dn from rfl,D.dn,Vg];rfl
    show U4 ⟨_,_,.lst (.of ve.rest.tl.hd) (td0.aj q3).i,.lst (.of t3.vr.hd) td3.i,ly.c,ly.c,(by have:=ly.k;omega),?_⟩;rw[Zl _ ly.c,<-qK];show EH X0 b W3 _ _ _ rfl ⟨I.bt,I.wf,I.wx,I.dn,I.td,I.ld,λH4 s4=>?_⟩;ext;rw[qK];exact fin H4 X0 W3 _ _ (I.same s4) qK (by rw[VA];change _+1<=_;omega)<|p9.trans (q0.trans<|q3.trans (.of s4))
  .intro σ H' zq;replace zq:=Pa zq;obtain⟨B,L,J,Y,y9,rfl,D,dW,lW,p9⟩:=zq;rw[UW]at lW;ext;exact q H' B L J Y D dW lW p9
local macro_rules | `(tactic| walk_at "s")=>`(tactic| first | assumption | exact BI.get ‹_› | (refine (by first | assumption | exact BI.same ‹_›:Ah _ _) _ _ ?_;walk_at "s"))
local macro_rules | `(tactic| walk_at "S")=>`(tactic| first | assumption | exact Ah.refl _ | exact BI.same ‹_› | (refine Ah.trans ?_ (by first | assumption | exact BI.same ‹_›);walk_at "S"))
local macro_rules | `(tactic| walk_at "g")=>`(tactic| (walk_at"";repeat (refine U6 (Bx _ _ _ _ rfl rfl (.of (by walk_at "s")) (by first | assumption | rfl) ?_);walk_at"")))
def UE(K:UT):Sp:=λvs H Q _=>∃(t l g:ar)(long n v:Int)(zs:List aU)(ts:List Pr),vs=[.ref t,.int v]/\H t=some (.tup [.int long,.ref l,.int n,.ref g])/\H l=some (.lst (zs.map V.str))/\Hv long n zs ts /\
 ∀(H':Hp)(t l g:ar)(zs:List aU)(ts:List Pr),Ah H H'->H' t=some (.tup [.int long,.ref l,.int 60,.ref g])->H' l=some (.lst (zs.map V.str))->H' g=some (.lst (ts.map Bw))->C7 H' ts->Hv long 60 zs ts->H l=none->H g=none->l≠g->Q (.ref t) H'
def UG:EE ["parts","draw","long","lines","seekers","groups","heads","line"] ["parts","draw"] (Ab<|top 59):=.of
def Ah9:Nm (Ab<|top 59) "parts":=.of
def OR:Dw (Ab<|top 59) "long":=(by walk_at "k")
def Kh:Nm (Ab<|top 59) "lines":=.of
def Aia:Nm (Ab<|top 59) "seekers":=.of
def Aib:Nm (Ab<|top 59) "groups":=.of
def OS:Dw (Ab<|top 59) "heads":=(by walk_at "k")
def Aic:Dw (Ab<|top 59) "line":=(by walk_at "k")
def Aid:Gm (Ab<|top 59) "enumerate":=.of
def Aie:Gm (Ab<|top 59) "range":=.of
noncomputable def L8:Scope:={ kind:=.function,names:=[(".0",.local),("k",.local),("head",.local),("draw",.free)],isGenerator:=false,isCoroutine:=false,more:=[] }
def OT:Bl L8 (Ab<|top 59) ["k","head","draw"] ["parts","draw","long","lines","seekers","groups","heads","line"] [none,none,some 1]:=(Bl.mk' rfl `o `o `o `o rfl<|(by decide +kernel))
def UH:Nm L8 "k":=.of
def UI:Nm L8 "head":=.of
def Aif:DF L8 "draw":=(by walk_at "k")
noncomputable def Ki:Scope:={ kind:=.function,names:=[(".0",.local),("line",.cell),("range",.globalImplicit),("heads",.free),("long",.free)],isGenerator:=false,isCoroutine:=false,more:=[] }
def UJ:Bl Ki (Ab<|top 59) ["line","long","heads"] ["parts","draw","long","lines","seekers","groups","heads","line"] [none,some 2,some 6] (some "line"):=(Bl.mk' rfl `o `o `o `o rfl<|(by decide +kernel))
def UK:Dw Ki "line":=(by walk_at "k")
def Aig:DF Ki "long":=(by walk_at "k")
def Aih:Gm Ki "range":=.of
def L9:Scope:={ kind:=.function,names:=[(".0",.local),("size",.local),("heads",.free),("line",.free)],isGenerator:=false,isCoroutine:=false,more:=[] }
def UL:Bl L9 Ki ["size","line","heads"] ["line","long","heads"] [none,some 0,some 2]:=(Bl.mk' rfl `o `o `o `o rfl<|(by decide +kernel))
def OU:Nm L9 "size":=.of
def Aii:DF L9 "line":=(by walk_at "k")
def Aij:DF L9 "heads":=(by walk_at "k")
noncomputable def Ma:Scope:={ kind:=.function,names:=[(".0",.local),("size",.local),("heads",.free),("line",.free)],isGenerator:=false,isCoroutine:=false,more:=[] }
def UM:Bl Ma (Ab<|top 59) ["size","heads","line"] ["parts","draw","long","lines","seekers","groups","heads","line"] [none,some 6,some 7]:=(Bl.mk' rfl `o `o `o `o rfl<|(by decide +kernel))
def OV:Nm Ma "size":=.of
def Aik:DF Ma "heads":=(by walk_at "k")
def UN:DF Ma "line":=(by walk_at "k")
def Ail(F:AE K "_law_wide" "_law_wide" (top 59) f fd)(T:HQ P w K mg a):Az P w K mg base Av 2 f fd ["parts","draw"] (UE K):=by
 refine F.ok UG λai A outer s H vs Q E hr h=>?_
 .obtain ⟨t,l,g,long,n,v,zs,ts,rfl,ht,hl,⟨⟨lo1,uj,_⟩,⟨⟨uJ,uK⟩,oz,iQ⟩,_⟩,q⟩:=h;show 4;have nd:=UG.nd;refine⟨_,(@Ad _ _ _ _ _ (El (Ap 0 Ah9)<|FZ rfl (BW (KR 2 nd OR)<|BW (Cf 3 nd Kh) (BW (Cf 4 nd Aia)<|BW (Cf 5 nd Aib) D7)))<|Ad (Hm 6 nd OS<|A3 B3) (Ad (CM VZ rfl (Dk<|Ap 3 Kh) (KR 7 nd Aic)<|Ai (A4<|Ci VR zI zJ Qr (AQ 6 OS) (Ag<|Ik rfl UM (Nc Aie T.cQ<|AJ Aj (Ar DZ (AQ 2 OR) Aj)) (λcl C L π O Y=>(Cf 0 UM.nd OV.comp)) (λcl C L π O Y=>(GI<|Em (MX K rfl) (FA (Il K rfl) (DE 2 UN.comp) Fy<|Fz (Ap 0 OV.comp)) (DE 1 Aik.comp) (by with_unfolding_all rfl))) (λcl C L π O Y=>(FA (Il K rfl) (DE 2 UN.comp) Fy<|Fz (Ap 0 OV.comp))))))<|Ad (Hl (j:=3) rfl nd rfl (U6 Kh.loc) UJ (Dk<|Ap 3 Kh) (λcl C L π O Y=>(KR 0 UJ.nd UK.comp)) (λcl C L π O Y=>(GI<|A1 (AcM K rfl hu) (Ik rfl UL.comp (Nc Aih.comp T.cQ<|AJ Aj (Ar DZ (DE 1 Aig.comp) Aj)) (λcl C L π O Y=>(Cf 0 UL.nd OU.comp)) (λcl C L π O Y=>(GI<|Em (MX K rfl) (FA (Il K rfl) (DE 1 Aii.comp) Fy<|Fz (Ap 0 OU.comp)) (FA (Il K rfl) (DE 2 Aij.comp) Fy<|Fz Aj) (by with_unfolding_all rfl))) λcl C L π O Y=>(Ap 0 OU.comp)) (A3 B3))) (λcl C L π O Y=>(AQ 0 UK.comp)) (by rfl) (by intro _;rfl)<|U6 rfl) (Ai<|AB (Bp<|Co (AQ 2 OR) (A0 (Ap 3 Kh) Aj<|Ik rfl OT (MK Aid T.kI<|Ag (FA Js (AQ 6 OS) Fy<|Fz Aj)) (λcl C L π O Y=>(Im (X:=Bu _ _ _ cl C L π O Y) K rfl 2 rfl (BW (Cf 0 OT.nd UH.comp)<|BW (Cf 1 OT.nd UI.comp) D7) rfl rfl)) (λcl C L π O Y=>GH) (λcl C L π O Y=>(Bp<|AJ (Ap 1 UI.comp) (Ar BL Aj<|Ar BC (Ar BL (DE 2 Aif.comp)<|Ap 0 UH.comp) Aj)))))))),?_⟩;try dsimp only[av,aw]
  symm;refine CN t _ rfl (.of ht) rfl ?_;symm;refine⟨Am,λhh H1 n1=>?_⟩;symm;have lR:=n1.same _ _ hl;refine⟨⟨_,.of lR⟩,D8 (K:=K) (a:=l) (xs:=zs.map V.str) (λi σ H2=>∃x,σ=[some<|.ref t,some<|.int v,some<|.int long,some<|.ref l,some<|.int n,some<|.ref g,some<|.ref hh,x]/\Ah H H2/\∃hs:List aU,H2 hh=some (.lst<|hs.map V.str)/\hs.Nodup/\hs.length<=4*i/\(∀z∈hs,(1<=z.length/\(z.length:Int)<=long-2)/\Cg z)/\∀z,zs[0]?=some z->0<i->∃r,hs=Ej z [] (long-1-1).toNat++r) ⟨none,rfl,n1.same,[],n1.get,WO,Vb _,(λz hz=>absurd hz<|(by simp)),λz _ c=>absurd c<|Wv _⟩ (λi σ H2 _ ⟨_,_,sm,_⟩=>.of<|sm _ _ hl) ?_ ?_⟩
  .intro i y σ H2 hi B;replace B:=AG B;obtain⟨x,rfl,sm,hs,hH,gO,lh,oh,fh⟩:=B;obtain⟨z,rfl,hk⟩:=Au<|Ke hi;have kN:=(Vz.mp hk).1;obtain⟨zl,zd⟩:=oz z<|Vh hk;symm;refine⟨.inl ⟨rfl,_,.of hH⟩,?_⟩;symm;refine⟨⟨(by omega),(by omega),(by omega),(by omega)⟩,λD nD=>?_⟩;refine JC (lo:=1) (n:=(long-1-1).toNat) (λk σ I=>∃x,σ=[x,some<|.ref hh,some<|.str z]/\Ah H2 I/\I D=some (.lst<|(Ej z hs k).map V.str)) ⟨none,rfl,(Ah.refl H2).upd nD,Ao⟩ ?_ ?_
   .intro k σ I lT B;replace B:=AG B;obtain⟨x,rfl,J,hL⟩:=B;symm;refine U6<|D5 z rfl (by rw[U0];omega) ?_;symm;refine U4<|Eo hh (hs.map V.str) rfl (.inl<|.of (J _ _ hH)) rfl (LY hs) ?_;simp only[if_true];rw[IC];symm;have es:=Uk z hs k;by_cases hm:ER z k∈hs
    .have cF:DC z none (some<|1+(k:Int))∈hs:=hm;rw[cx cF];refine BQ ?_;rw[bf hm,V5]at es;exact⟨_,rfl,J,by rw[es];exact hL⟩
    .have cF:DC z none (some<|1+(k:Int)) ∉ hs:=hm;rw[cN cF];refine B4 ?_;symm;refine U6<|D5 z rfl (by rw[U0];omega) ?_;rw[ck hm]at es;have:=Kc z hs k;refine⟨_,hL,(by rw[UW,U0];omega),_,rfl,J.bq nD,?_⟩;rw[Ao,es,Vg];rfl
   .intro σ I B;replace B:=AG B;obtain⟨x,rfl,J,hL⟩:=B;have nl:=Kc z hs (long-1-1).toNat;obtain⟨qB,de⟩:=Ul (z:=z) (hs:=hs) (n:=(long-1-1).toNat) (by omega) zd gO;refine Be hh D _ _ rfl rfl (J _ _ hH) hL (by rw[UW,UW,U0];omega) ?_;refine C5 _ rfl ⟨(sm.trans J).bq n1.n,hs++Ej z hs (long-1-1).toNat,by rw[Ao,Vg],qB,by rw[VA];omega,LZ oh λy m=>?_,λy hy _=>?_⟩
    .obtain ⟨⟨g1,g2⟩,g3⟩:=de y m;exact⟨⟨g1,(by omega)⟩,g3⟩
    .by_cases c:i=0
     .subst c;rw[hy]at hk;rw[Vq hk,wj.mp (show hs.length=0 by omega)];exact⟨[],(by simp)⟩
     .obtain ⟨r,e⟩:=fh y hy (by omega);exact⟨r++Ej z hs (long-1-1).toNat,by rw[<-Vj,<-e]⟩
  .intro σ H2 B;replace B:=AG B;obtain⟨x,rfl,sm,hs,hH,gO,lh,oh,fh⟩:=B;have bZ:=sm _ _ hl;have z0:∀z,zs[0]?=some z->∀k,k<(long-1-1).toNat->ER z k∈hs.take 40:=λz hz k hk=>by
    obtain⟨r,e⟩:=fh z hz (by rw[UW];omega);have:=Kc z [] (long-1-1).toNat;rw[e,List.take_append,Y5<|(by omega)];exact Yt _<|X5.mpr ⟨Ve.mpr ⟨k,We.mpr hk,rfl⟩,by simp⟩
   symm;refine⟨⟨_,.of bZ⟩,λD nD=>?_⟩;refine KS (K:=K) (a:=l) (xs:=zs.map V.str) (λk σ I=>∃x,σ=[x,some<|.int long,some<|.ref hh]/\Ah H2 I/\∃ys:List aU,I D=some (.lst<|ys.map V.str)/\ys.Sublist (zs.take k)/\(0<k->0<ys.length)) ⟨none,rfl,(Ah.refl H2).upd nD,[],Ao,zL _,λc=>absurd c<|Wv _⟩ (λk σ I _ ⟨_,_,J,_⟩=>.of<|J _ _ bZ) ?_ ?_
   .intro k y σ I hi B;replace B:=AG B;obtain⟨x,rfl,J,ys,hD,sb,py⟩:=B;obtain⟨z,rfl,hk⟩:=Au<|Ke hi;have kl:=(Vz.mp hk).1;obtain⟨zl,zd⟩:=oz z<|Vh hk;symm;refine⟨⟨(by omega),(by omega),(by omega),(by omega)⟩,λD2 iG=>?_⟩;refine JC (lo:=1) (n:=(long-1-1).toNat) (λj σ H4=>∃x,σ=[x,some<|.str z,some<|.ref hh]/\Ah I H4/\∃us:List Int,H4 D2=some (.lst<|us.map V.int)/\us.length<=j/\(k=0->us=[])) ⟨none,rfl,(Ah.refl I).upd iG,[],Ao,Vb _,λ_=>rfl⟩ ?_ ?_
    .intro j σ H4 hj B;replace B:=AG B;obtain⟨x,rfl,iS,us,hU,lu,eu⟩:=B;symm;refine U6<|D5 z rfl (by rw[U0];omega) ?_;symm;refine U4<|Bb hh _ rfl (.of<|iS _ _ (J _ _ hH)) (λp np=>?_);rw[OI _ _<|(by decide)];have n5:BI H4 (upd H4 p<|.lst ((hs.take<|YN 40).map V.str)) p (.lst<|(hs.take<|YN 40).map V.str):=⟨np,rfl⟩;generalize upd H4 _ _=H5 at n5 ⊢;refine U4<|Eo p _ rfl (.inl<|.of n5.get) rfl (LY _) ?_;simp only[if_true];rw[IC];symm;by_cases hm:ER z j∈hs.take 40
     .have cF:DC z none (some<|1+(j:Int))∈hs.take (YN 40):=hm;rw[cx cF];refine BQ ?_;exact⟨_,rfl,iS.trans n5.same,us,n5.same _ _ hU,(by omega),eu⟩
     .have cF:DC z none (some<|1+(j:Int)) ∉ hs.take (YN 40):=hm;rw[cN cF];refine B4 ?_;symm;refine⟨_,n5.same _ _ hU,(by rw[UW,U0];omega),_,rfl,(iS.trans n5.same).bq iG,us++[1+(j:Int)],(by rw[Ao,Vg];rfl),(by rw[VA];change _+1<=_;omega),λc=>?_⟩;subst c;exact absurd (z0 z hk j hj) hm
    .intro σ H4 B;replace B:=AG B;obtain⟨x,rfl,iS,us,hU,lu,eu⟩:=B;symm;refine⟨Am,λle H5 n5=>?_⟩;have ly:Bg 1 (.list<|us.map Wd):=Bg.lst λd m=>by
      obtain⟨i,_,rfl⟩:=Au<|Ve.mp m;exact .int i
     refine U4 ⟨_,.list [],.lst (.of<|n5.same _ _ hU)<|GX us,.lst (.of n5.get) .nil,ly.c,rfl,(by have:=ly.k;omega),?_⟩;have iT:=J.trans<|iS.trans n5.same;have vg:=(iS.trans n5.same) _ _ hD;have tk:zs.take (k+1)=zs.take k++[z]:=by rw[zM,hk];rfl
     ext;cases us with
     |nil =>
      rw [show(if false=true then !(XY<|V1 Wd []).eqv (XY []) else(XY<|V1 Wd []).eqv (XY []))=true by decide];refine B4 ?_;show⟨_,vg,(by rw[UW,U0];have:=sb.length_le;rw[Wg]at this;omega),_,rfl,iT.bq nD,ys++[z],(by rw[Ao,Vg];rfl),(by rw[tk];exact sb.append<|.refl _),λ_=>(by simp)⟩
     |cons u us =>
      rw [show(if false=true then !(XY<|V1 Wd (u::us)).eqv (XY []) else(XY<|V1 Wd (u::us)).eqv (XY []))=false by simp[Yo,PyData.eqvAll]];refine BQ ⟨_,rfl,iT,ys,vg,(by rw[tk];exact sb.trans<|zK _ _),λ_=>py<|Nat.pos_of_ne_zero λc=>nomatch eu c⟩
   .intro σ I B;replace B:=AG B;obtain⟨x,rfl,J,ys,hD,sb,py⟩:=B;rw[UW]at py sb;rw[Wi]at sb;have jG:=J _ _ hH;symm;refine U4<|Bb hh _ rfl (.of jG) (λp np=>?_);rw[OI _ _<|(by decide)];have n4:BI I (upd I p<|.lst ((hs.take 40).map V.str)) p (.lst<|(hs.take 40).map V.str):=⟨np,rfl⟩;have nh:(hs.take 40).Nodup:=gO.sublist<|YY _ _;have vh:∀z∈hs.take 40,(1<=z.length/\(z.length:Int)<=long-2)/\Cg z:=λz m=>oh z<|ZK m;have lh4:(hs.take 40).length<=40:=by rw[Wg];omega
    rw [show YN 40=40 from rfl];generalize hs.take 40=us at n4 nh vh lh4 ⊢;generalize upd I _ _=H4 at n4 ⊢;symm;refine Bb _ _ rfl (.of n4.get) λG nG=>?_;refine QZ (K:=K) (a:=p) (xs:=us.map V.str) (λi σ H'=>∃x y,σ=[x,y,some<|.int v]/\Ah H4 H'/\∃ts:List Pr,H' G=some (.lst<|ts.map Bw)/\C7 H' ts/\ts.map (·.2.1)=us.take i/\∀t∈ts,0<=t.2.2/\t.2.2<=10) ⟨none,none,rfl,(Ah.refl H4).upd nG,[],Ao,(λt m=>nomatch m),rfl,(λt m=>nomatch m)⟩ (λi σ H' _ ⟨_,_,_,sm,_⟩=>.of<|sm _ _ n4.get) ?_ ?_
    .rintro i y tt σ H5 hi ⟨x,y',rfl,iT,aO,hG,lay,eq,ok⟩ lI;obtain⟨z,rfl,hk⟩:=Au<|Ke hi;have il:=(Vz.mp hk).1;have n6:BI H5 (upd H5 tt<|.tup [.int i,.str z]) tt (.tup [.int i,.str z]):=⟨lI,rfl⟩;generalize upd H5 _ _=H6 at n6 ⊢;refine CN tt _ rfl (.of n6.get) rfl ?_;symm;refine⟨Am,λpp H7 n7=>?_⟩;have vi:=n6.same _ _ hG;have jT:=n7.same _ _ vi;have ll:=congrArg Yi eq;rw[UW,Wg]at ll;refine⟨_,jT,(by rw[UW,U0];omega),_,_,rfl,((iT.trans n6.same).trans n7.same).bq nG,aO++[(pp,z,1+(v+(i:Int))%10)],(by rw[Ao,Vg];rfl),λt m=>?_,(by rw[Vg,eq,zM,hk];rfl),λt m=>?_⟩
     .rcases Vx.mp m with m|m
      .exact C7.put (λt m=>(n6.same.trans n7.same) _ _<|lay t m) jT t m
      .rw[Vl.mp m];exact(Aw (Cn vi n7.n).symm).trans n7.get
     .rcases Vx.mp m with m|m
      .exact ok t m
      .rw[Vl.mp m];exact⟨by change 0<=1+(v+(i:Int))%10;omega,by change 1+(v+(i:Int))%10<=10;omega⟩
    .intro σ H5 B;replace B:=BB B;obtain⟨x,y',rfl,iT,aO,hG,lay,eq,ok⟩:=B;rw[UW,Wi]at eq;symm;show 3;refine⟨Am,λt8 H8 n8=>?_⟩;symm;have sA:=iT.trans n8.same;refine q H8 t8 D G ys aO ((sm.trans<|J.trans n4.same).trans sA) n8.get (sA _ _<|n4.same _ _ hD) (n8.same _ _ hG) (λt m=>n8.same _ _<|lay t m) ⟨⟨lo1,uj,(by decide),(by decide)⟩,⟨⟨by have:=py (by omega);omega,by have:=sb.length_le;omega⟩,λz m=>oz z<|sb.subset m,iQ.sublist sb⟩,⟨?_,λt m=>?_,eq▸nh⟩⟩ (sm.free nD) ((sm.trans<|J.trans n4.same).free nG) (Cn (n4.same _ _ hD) nG)
     .have:=congrArg Yi eq;rw[UW]at this;omega
     .obtain ⟨⟨g1,g2⟩,g3⟩:=vh t.2.1 (by rw[<-eq];exact List.mem_map_of_mem m);exact⟨⟨(by omega),g2⟩,g3,ok t m⟩
def Mb(K:UT):Sp:=λvs H Q _=>∃(p:ar)(ns:List Int),vs=[.ref p]/\A2 K H p (ns.map V.int)/\ns.length<=63/\∀H',Q (.bl true) H'
def UO{S:PS}(pos:0<S.lns.length)(v:Int):∃(m:Nat)(ln:Ln),S.lns[m]?=some ln/\Cd ((S.lns.map (·.num)).map V.str) (v%(S.lns.length:Int))=some (.str ln.num):=by have D:=Xw v (show(S.lns.length:Int)≠0 by omega);have I:=Xx v (show 0<(S.lns.length:Int) by omega);obtain⟨m,H⟩:=Y9 D;obtain⟨ln,B⟩:∃ln,S.lns[m]?=some ln:=⟨_,Vi (by omega)⟩;exact⟨m,ln,B,by rw[H];exact FC (by rw[Va,Va,B];rfl)⟩
def Bd:AM ["script","row","parts","world","hall","draw","one","other","end","ends","line"] ["script"] (Ab<|top 62):=.of
def UP:Gm (Ab<|top 62) "_law_draws":=.of
def OW:Gm (Ab<|top 62) "_law_led":=.of
def Aim:Gm (Ab<|top 62) "_law_dials":=.of
def UQ:Gm (Ab<|top 62) "len":=.of
def Ain:Gm (Ab<|top 62) "_law_hall":=.of
def Aio:Gm (Ab<|top 62) "_law_world":=.of
def Aip:Gm (Ab<|top 62) "_law_wide":=.of
def Aiq:Gm (Ab<|top 62) "_law_plan":=.of
def Air(F:AE K "law" "law" (top 62) f fd)(T:HQ P w K mg a)(fX:Bt P w K mg base Av 2 "_law_draws" ["script","k","many","base"] (Nk K))(qL:Bt P w K mg base Av 3 "_law_plan" ["script","at"] (Um K))(qM:Bt P w K mg base Av 2 "_law_wide" ["parts","draw"] (UE K))(qN:Bt P w K mg base Av 2 "_law_world" ["parts"] (Ue K))(qO:Bt P w K mg base Av 6 "_law_hall" ["parts"] (UB K a))(qP:Bt P w K mg base Av 1 "_law_dials" ["line","figures"] UD)(kg:Bt P w K mg base Av 11 "_law_led" ["hall","world","deeds"] (OQ K a)):Az P w K mg base Av 12 f fd ["script"] (Mb K):=by
 refine F.ok Bd.fs λai A outer s H vs Q E hr h=>?_
 .obtain ⟨ps,ns,rfl,hS,hn,q⟩:=h;show 4;have nd:=Bd.fs.nd;refine⟨_,(@Ad _ _ _ _ _ (A8 1 Bd<|A9 fX UP hr.d AK (Co (Aa 0 Bd)<|A0 Aj Aj Aj))<|Ad (A8 2 Bd<|A9 qM Aip hr.d AK (AJ (A9 qL Aiq hr.d AK<|AJ (Aa 0 Bd) Aj)<|AN AO (Aa 1 Bd) Aj (λ_ _=>rfl))) (Ad (A8 3 Bd<|A9 qN Aio hr.d AK (Ag<|Aa 2 Bd))<|Ad (A8 4 Bd<|A9 qO Ain hr.d AK (Ag<|Aa 2 Bd)) (Ad (CM VZ rfl (Dk<|A9 fX UP hr.d AK (Co (Aa 0 Bd)<|A0 Aj (Ar BL Aj<|Ar BC (AN AO (Aa 1 Bd) Aj λ_ _=>rfl) Aj) (Ar Ce (Ar Ce Aj Aj) Aj))) (B9 5 Bd)<|Ad (A8 6 Bd<|AN AO (Aq P w K (Aa 3 Bd) Ae) (Ar BC (Aa 5 Bd)<|Bo B8 UQ T.aR B0 (Ag<|Aq P w K (Aa 3 Bd) Ae)) (λ_ _=>rfl)) (Ad (A8 7 Bd<|AN AO (Aq P w K (Aa 3 Bd) Ae) (Ar BC (Ar EW (Aa 5 Bd) Aj)<|Bo B8 UQ T.aR B0 (Ag<|Aq P w K (Aa 3 Bd) Ae)) (λ_ _=>rfl))<|Ai (AV (A1 (B5 hu) (Aq P w K (Aq P w K (Aa 3 Bd) Ae)<|Aa 6 Bd) Ae)<|Ad (AV (DY<|Dj (A9 kg OW hr.d AK<|A0 (Aa 4 Bd) (Aa 3 Bd) (A9 qP Aim hr.d AK<|AJ (Aa 6 Bd) (Aa 7 Bd))))<|Ai (AB DX)) (Ad (A8 8 Bd<|Ar EW (Aa 5 Bd) Aj)<|Ad (AV (PW.pt<|Fv (A1 (B5 hu) (Aq P w K (Aq P w K (Aa 3 Bd) Ae)<|Aa 6 Bd) Ae) (Fv (A1 Jl (Ar BC (Aa 8 Bd) Aj) Aj)<|Gp (DY<|Dj (A9 kg OW hr.d AK<|A0 (Aa 4 Bd) (Aa 3 Bd) (A3<|Ag (Bp<|AJ Ae (Aa 7 Bd)))))))<|Ai (AB DX)) (Ad (A8 9 Bd<|AN AO (A3<|Co (A3<|AJ (Aa 6 Bd) (Aa 7 Bd)) (A0 (A3<|AJ (Aa 7 Bd) (Aa 6 Bd)) (A3<|Ag (Aa 6 Bd))<|A3 B3)) (Ar BC (Ar EW (Aa 8 Bd) Aj) Aj) (λ_ _=>rfl))<|Ai (CM VZ rfl (Dk<|Aa 9 Bd) (B9 10 Bd)<|Ai (AV (Em Ig (Aq P w K (Aq P w K (Aa 3 Bd) Ae)<|Aa 10 Bd) (Bp<|Ii rfl)<|by with_unfolding_all rfl)<|Ai (AV (DY<|Dj (A9 kg OW hr.d AK<|A0 (Aa 4 Bd) (Aa 3 Bd) (A3<|Ag (Bp<|AJ Ae (Aa 10 Bd)))))<|Ai (AB DX)))))))))<|Ai (AB DX)))),?_⟩;try dsimp only[av,aw]
  obtain⟨C0,c0,kS⟩:∃C0:Ax,At H C0/\∀D,At D C0->Af H D->A2 K D ps (ns.map V.int):=by
   rcases hS with (hS|⟨o,hS⟩)|hS
   .exact ⟨[(ps,_)],⟨λc m=>by rw[Vl.mp m];exact hS,(by simp)⟩,λD t _=>.of t.hd⟩
   .exact ⟨[],⟨(λc m=>nomatch m),.nil⟩,λD _ p=>.inl<|.inr ⟨o,p.f _ _ rfl hS⟩⟩
   .exact ⟨[],⟨(λc m=>nomatch m),.nil⟩,λD _ _=>.inr hS⟩
  show Dv ps ns 2 2 _ rfl ⟨hS,by decide,by decide,hn,by decide,by decide,by decide,by decide,λr row H1 s1 nr dR lr br=>?_⟩;obtain⟨r0,r1,rfl⟩:=zzl lr
  clear lr br
  show BO ps ns 0 rfl ⟨s1.seq hS,hn,by decide,by decide,λH2 pt0 long l0 n0 g0 zs0 aX s2 acJ rY eg0 lay0 good0 _ _ _ _ _=>?_⟩;show U6 (Bx r _ _ _ rfl rfl (.of<|s2 _ _ dR) rfl ?_);show EX pt0 l0 g0 long n0 r0 zs0 aX rfl ⟨acJ,rY,good0,λI pt l g zs ts s3 vm el eg lay good nl ng qE=>?_⟩;have c1:=((c0.add s1 nr dR).same s2).acH s3 nl ng qE el eg;show EX pt l g long 60 zs ts _ rfl ⟨c1,vm,by simp,by simp,lay,good,λH4 W t4 wok p4=>?_⟩;generalize hR:(l,HO.lst<|zs.map V.str)::(g,.lst<|ts.map Bw)::(r,.lst<|[r0,r1].map V.int)::C0=R at t4;show EX pt l g long 60 zs ts (W.A R) rfl ⟨t4,p4.t vm,VW.inR<|by rw[<-hR];simp,VW.inR<|by rw[<-hR];simp,λt m=>p4.t<|lay t m,good,λH5 X aq aO t5 eS pm gN bg wf wx p5=>?_⟩;have b5:BD K a (W.w,W.ln,W.lns) H5 X W R:=⟨t5,by rw[eS];exact(wok aq aO pm gN bg).aj p5,rfl,rfl,rfl⟩;have dn5:X.dn=[]:=by
   have:X.S.dn=[]:=by rw[eS];rfl
   exact this
  have iv5:B7 K a (W.w,W.ln,W.lns) H5 X W R [] []:=⟨b5,wf,wx,dn5,.nil,(λd m=>nomatch m)⟩;have a5:At H5 ((r,.lst<|[r0,r1].map V.int)::C0):=by have z:=b5.r;rw[<-hR]at z;exact z.tl.tl
  have p1:Af H H5:=(Af.of<|s1.trans (s2.trans s3)).trans<|p4.trans p5;show U6 (Bx r _ _ _ rfl rfl (.of a5.hd) rfl ?_);show Dv ps ns 3 _ _ rfl ⟨kS _ a5.tl p1,by decide,by decide,hn,by omega,by omega,by decide,by decide,λd dr H6 s6 nd6 vn vo bdr=>?_⟩;have vo:dr.length<=8:=by rw[vo];omega
  have vp:=iv5.add s6 nd6 vn;generalize eB:(W.w,W.ln,W.lns)=B at vp;have ew:W.w=B.1:=by rw[<-eB]
  rw [ew];show⟨⟨_,.of vn⟩,D8 (K:=K) (a:=d) (xs:=dr.map V.int) (λi σ D=>∃X2 W2 dl ds x5 x6 x7 x8 x9 cv,σ=[some<|.ref ps,some<|.ref r,some<|.ref pt,some<|.ref B.1,some<|.ref X.h,x5,x6,x7,x8,x9,cv]/\B7 K a B D X2 W2 ((d,.lst<|dr.map V.int)::R) dl ds/\X2.h=X.h/\dl.length<=200*i/\Af H6 D) ⟨X,W,[],[],none,none,none,none,none,none,rfl,vp,rfl,Wn _,.refl⟩ (λi σ D _ ⟨_,_,_,_,_,_,_,_,_,_,_,v,_⟩=>.of v.bt.r.hd) ?_ ?_⟩
  .intro i v σ H7 hi zq;obtain⟨X2,W2,dl,ds,x5,x6,x7,x8,x9,cv,rfl,J,eh,ldl,p7⟩:=zq;rw[Va]at hi;obtain⟨c,hc,rfl⟩:=Au<|VH.mp hi;obtain⟨c0,c1⟩:=bdr c<|Vh hc;have il:=(Vz.mp hc).1;have t:=J.bt.wd;have g':=J.wf.g;have pos:=g'.pos;obtain⟨i1,one,h1,e1⟩:=Bz<|UO (S:=X2.S) (by omega) c;obtain⟨i2,d2,h2,e2⟩:=Bz<|UO (S:=X2.S) (by omega) (c / 60);left;refine U4<|Bb _ _ rfl (.inl<|.of t.lns) ?_;rw[UW,UW];refine CN _ _ rfl rfl (by omega) ?_;refine U6<|Bx _ _ _ (.str one.num) rfl rfl (.of t.lns) e1 ?_;left;refine U4<|Bb _ _ rfl (.inl<|.of t.lns) ?_;rw[UW,UW];refine CN _ _ rfl rfl (by omega) ?_;refine U6<|Bx _ _ _ (.str d2.num) rfl rfl (.of t.lns) e2 ?_;left;refine t.lF h1 ?_;left;have m1:one.num∈B.2.2:=by rw[<-J.nm];exact EA h1
   have m2:d2.num∈B.2.2:=by rw[<-J.nm];exact EA h2
   have dg:∀z∈B.2.2,Cg z:=by rw[<-J.nm];exact g'.dg
   have ok:∀z∈B.2.2,Ok z:=by rw[<-J.nm];exact λz m=>(g'.tx z m).1
   have tl:(d2.num.length:Int)=X2.S.long:=g'.tl _<|EA h2;have l2:d2.num.length<=9:=by have:=g'.hi;omega
   refine GA (λ_=>?_) λ_=>?_
   .show⟨dg _ m2,l2,λH8 l8 xs s8 lV hl8 dd lx=>?_⟩;show⟨X2,B,W2,_,dl,ds,l8,xs,(by rw[eh];rfl),J.add s8 lV hl8,(λx m=>by obtain⟨d,e⟩:=dd x m;exact⟨.line d one.num,e,ok _ m1⟩),by omega,λH9 X9 W9 cw cW iU dW lW p9=>?_⟩;have iU:=iU.sub<|.cons _ (.refl _);have p9:=p7.trans<|(Af.of s8).trans p9;have dW:=dW.trans eh;have t9:=iU.bt.wd;clear e1 e2 h1 h2 tl dd t g' J p7
    generalize one.num=z1 at m1 ⊢;generalize d2.num=z2 at m2 l2 ⊢;obtain⟨j1,one,h1,rfl⟩:=Bz<|iU.ln m1;left;rename_i C hC
    have vt:∀(w:LW)(D:Hp) X' W' cM ft (z:aU) (L:Ax) (p l:ar) (H1 H2:Hp) (Q:V->Hp->Prop),z∈B.2.2->B7 K a B D X' W' L cM ft->X'.h=X.h->cM.length<=9999->BI D H1 p (.tup [.str w.wo,.str z])->BI H1 H2 l (.lst [.ref p])->(∀I O W3 Y dw,B7 K a B I O W3 L Y dw->O.h=X.h->Y.length<=cM.length+1->Af D I->Q (.bl true) I)->OQ K a [.ref X.h,.ref B.1,.ref l] H2 Q E0:=λw D X' W' cM ft z L p l H1 H2 Q mz J eh ld n1 n2 q=>⟨X',B,W',L,cM,ft,l,[p],by rw[eh],J.same n1.same |>.new n2,(λx m=>by rw[Vl.mp m];exact⟨.line w z,n2.same _ _ n1.get,ok _ mz⟩),by simp;omega,λI O W3 Y dw bB bx lZ p3=>q I O W3 Y dw (bB.sub<|.cons _ (.refl _)) (bx.trans eh) lZ<|(Af.of<|n1.same.trans n2.same).trans p3⟩;have rest:∀D X' W' cM ft,B7 K a B D X' W' ((d,.lst<|dr.map V.int)::R) cM ft->X'.h=X.h->cM.length<=200*i+122->Af H6 D->C [some<|.ref ps,some<|.ref r,some<|.ref pt,some<|.ref B.1,some<|.ref X.h,some<|.int c,some<|.str one.num,some<|.str z2,some<|.int (c / 3600),x9,cv] D:=by
     intro D X' W' cM ft J eh ld p;refine hC.use ?_;ext;show 3;refine⟨Am,λl1 H1' n1=>?_⟩;ext;show 3;refine⟨Am,λvy H2' n2=>?_⟩;ext;show 3;refine⟨Am,λl3 gD n3=>?_⟩;dsimp only[Gy,BA];refine⟨Am,λl4 lU n4=>?_⟩;refine⟨Am,λl5 lH n5=>?_⟩;have s3:=n3.same.trans<|n4.same.trans n5.same;have vz:=n2.same.trans s3;have sA:=n1.same.trans vz;obtain⟨lk,ys,ek,nk,hk,my,ly⟩:∃(lk:ar)(ys:List aU),Cd [V.ref l1,.ref vy,.ref l3,.ref l4] (c / 3600 / 2%4)=some (.ref lk)/\D lk=none/\lH lk=some (.lst<|ys.map V.str)/\(∀z∈ys,z∈B.2.2)/\ys.length<=2:=by
      have h:c / 3600 / 2%4=0\/c / 3600 / 2%4=1\/c / 3600 / 2%4=2\/c / 3600 / 2%4=3:=(by omega)
      rcases h with h|h|h|h<;>rw[h]
      .exact ⟨l1,[one.num,z2],rfl,n1.n,vz _ _ n1.get,by simp[m1,m2],(by simp)⟩
      .exact ⟨vy,[z2,one.num],rfl,n1.same.free n2.n,s3 _ _ n2.get,by simp[m1,m2],(by simp)⟩
      .exact ⟨l3,[one.num],rfl,(n1.same.trans n2.same).free n3.n,(n4.same.trans n5.same) _ _ n3.get,by simp[m1],(by simp)⟩
      .exact ⟨l4,[],rfl,(n1.same.trans<|n2.same.trans n3.same).free n4.n,n5.same _ _ n4.get,(by simp),(by simp)⟩
     show U6 (Cq (.of n5.get) ek ?_);have acK:=J.add sA nk hk;show⟨⟨_,.of hk⟩,D8 (K:=K) (a:=lk) (xs:=ys.map V.str) (λj σ ia=>∃X4 W4 dA fY y,σ=[some<|.ref ps,some<|.ref r,some<|.ref pt,some<|.ref B.1,some<|.ref X.h,some<|.int c,some<|.str one.num,some<|.str z2,some<|.int (c / 3600),some<|.ref lk,y]/\B7 K a B ia X4 W4 ((lk,.lst<|ys.map V.str)::(d,.lst<|dr.map V.int)::R) dA fY/\X4.h=X.h/\dA.length<=200*i+122+j/\Af H6 ia) ⟨X',W',cM,ft,_,rfl,acK,eh,ld,p.trans<|.of sA⟩ (λj σ ia _ ⟨_,_,_,_,_,_,v,_⟩=>.of v.bt.r.hd) ?_ ?_⟩
     .intro j y σ H2 hj zq;replace zq:=Pa zq;obtain⟨X4,W4,dA,fY,uR,rfl,iV,dY,vA,qQ⟩:=zq;obtain⟨z,rfl,lT⟩:=Au<|Ke hj;have jl:=(Vz.mp lT).1;have mz:=my z<|Vh lT;obtain⟨j3,ln,h3,rfl⟩:=Bz<|iV.ln mz;have jS:=iV.bt.wd;have fin:∀I O W3 Y dw,B7 K a B I O W3 ((lk,.lst<|ys.map V.str)::(d,.lst<|dr.map V.int)::R) Y dw->O.h=X.h->Y.length<=dA.length+1->Af H2 I->∃X4 W4 dA fY y,([some<|.ref ps,some<|.ref r,some<|.ref pt,some<|.ref B.1,some<|.ref X.h,some<|.int c,some<|.str one.num,some<|.str z2,some<|.int (c / 3600),some<|.ref lk,some<|.str ln.num]:St)=[some<|.ref ps,some<|.ref r,some<|.ref pt,some<|.ref B.1,some<|.ref X.h,some<|.int c,some<|.str one.num,some<|.str z2,some<|.int (c / 3600),some<|.ref lk,y]/\B7 K a B I X4 W4 ((lk,.lst<|ys.map V.str)::(d,.lst<|dr.map V.int)::R) dA fY/\X4.h=X.h/\dA.length<=200*i+122+(j+1)/\Af H6 I:=λI O W3 Y dw v e l p=>⟨O,W3,Y,dw,_,rfl,v,e,(by omega),qQ.trans p⟩;left;refine⟨Am,λu3 I n3=>?_⟩;refine U4<|Eo u3 _ rfl (.inr<|.of n3.get) rfl rfl ?_;show GA (λ_=>?_) (λ_=>?_)
      .show⟨Am,λpp cV gM=>?_⟩;refine⟨Am,λpl fj fU=>?_⟩;ext;show 3;refine vt .bR I X4 W4 dA fY ln.num _ pp pl cV fj _ mz (iV.same n3.same) dY (by omega) gM fU λfQ O W3 Y dw bB bx lZ p3=>?_;ext;exact fin fQ O W3 Y dw bB bx lZ<|(Af.of n3.same).trans p3
      .ext;exact fin I X4 W4 dA fY (iV.same n3.same) dY (by omega)<|.of n3.same
     .intro σ H2 zq;replace zq:=Pa zq;obtain⟨X4,W4,dA,fY,uR,rfl,iV,dY,vA,qQ⟩:=zq;rw[UW]at vA;exact⟨X4,W4,dA,fY,_,_,_,_,_,_,rfl,iV.sub<|.cons _ (.refl _),dY,(by omega),qQ⟩
    clear hC
    have fin:=λD s'=>rest D X9 W9 cw cW (iU.same s') dW (by omega)<|p9.trans (.of s');refine GA (λ_=>?_) λ_=>?_
    .show GA (λ_=>?_) (λ_=>?_)
     .show⟨Am,λpp cV gM=>?_⟩;refine⟨Am,λpl fj fU=>?_⟩;ext;show 3;refine vt .lift H9 X9 W9 cw cW z2 _ pp pl cV fj _ m2 iU dW (by omega) gM fU λI O W3 Y dw bB bx lZ p3=>?_;ext;exact rest I O W3 Y dw bB bx (by omega)<|p9.trans p3
     .ext;exact fin H9<|.refl _
    .ext;exact fin H9<|.refl _
   .ext;exact⟨X2,W2,dl,ds,_,_,_,_,_,_,rfl,J,eh,(by omega),p7⟩
  .intro σ H7 zq;obtain⟨X2,W2,dl,ds,x5,x6,x7,x8,x9,cv,rfl,_⟩:=zq;ext;exact q H7
open PySem PySem.Spec PyProof.Rows L2
theorem us1{α:Type}{P:List α->Prop}(h:∀a,P [a]):∀us:List α,us.length=1->P us
 |[a],_=>h a
theorem us2{α:Type}{P:List α->Prop}(h:∀a b,P [a,b]):∀us:List α,us.length=2->P us
 |[a,b],_=>h a b
theorem us3{α:Type}{P:List α->Prop}(h:∀a b c,P [a,b,c]):∀us:List α,us.length=3->P us
 |[a,b,c],_=>h a b c
theorem us4{α:Type}{P:List α->Prop}(h:∀a b c d,P [a,b,c,d]):∀us:List α,us.length=4->P us
 |[a,b,c,d],_=>h a b c d
theorem us5{α:Type}{P:List α->Prop}(h:∀a b c d e,P [a,b,c,d,e]):∀us:List α,us.length=5->P us
 |[a,b,c,d,e],_=>h a b c d e
local macro_rules | `(tactic| walk_at "b")=>`(tactic| first
 | exact λ_ _ _ _ _ _=>us2 λ_ _=>rfl
 | exact λ_ _ _ _ _ _=>us1 λ_=>rfl
 | exact λ_ _ _ _ _ _=>us3 λ_ _ _=>rfl
 | exact λ_ _ _ _ _ _=>us4 λ_ _ _ _=>rfl
 | exact λ_ _ _ _ _ _=>us5 λ_ _ _ _ _=>rfl)
section
variable {P:UZ}{w:UU}{K:UT}{mg:aU->Option af}{base:Heap}{CX:Cp}{k n t:Nat}{x q:aU}{st:Stmt}{ps:List aU}{sp:Sp}{C:ar}{A:An}{R:ar->Prop}{B:aU->aU->Nat->Prop}{L:List (aU×aU×Nat)}
def d6(K:UT)(x q:aU)(st:Stmt)(R:ar->Prop):Prop:=∃(f:ar)(oc:af)(od:Option ar)(sl:Array (Option af))(kV dc pm:af)(an:Option ar)(cd ct:af),R f/\K.lookup f=some ⟨oc,od,.func (Xi x q (Gz st) (FF st) (Ab st) .none kV dc pm an cd ct),sl⟩/\YZ K cd q=true/\WU K (.ref f)=true
abbrev Kj(x q:aU)(st:Stmt)(ps:List aU):Prop:=∀(kV doc pm:af)(an:Option ar)(ai ct:af)(us:List af),us.length=ps.length->bindArgs (Xi x q (Gz st) (FF st) (Ab st) .none kV doc pm an ai ct) ⟨us,[]⟩=pure (ps.zip us)
def d6.out(F:d6 K x q st R)(b:Kj x q st ps):∃f D,R f/\AE K x q st f D/\DI K D ps []/\WU K (.ref f)=true:=by obtain⟨f,H,I,J,kV,O,V,Y,cd,ct,a,l,c,y⟩:=F;have F:=Qx l c y;exact⟨f,_,a,F,F.binds b,y⟩
def d6.of{f:ar}{H:af}{I:Option ar}{J:Array (Option af)}{kV O V:af}{Y:Option ar}{D ct:af}(a:R f)(l:K.lookup f=some ⟨H,I,.func<|Xi x q (Gz st) (FF st) (Ab st) .none kV O V Y D ct,J⟩)(c:YZ K D q=true)(k:WU K (.ref f)=true):d6 K x q st R:=⟨_,_,_,_,_,_,_,_,_,_,a,l,c,k⟩
def Bs(B:aU->aU->Nat->Prop):List (aU×aU×Nat)->Prop
 |[]=>True
 |p::r=>B p.1 p.2.1 p.2.2/\Bs B r
theorem Bs.get:∀{L:List (aU×aU×Nat)}{i:Nat},Bs B L->L[i]?=some (x,q,n)->B x q n
 |_::_,0,h,e=>by cases e;exact h.1
 |_::_,i+1,h,e=>Bs.get (i:=i) h.2 e
abbrev B2(K:UT)(mg:aU->Option af):List (aU×aU×Nat)->Prop:=Bs λx _ n=>d6 K x x (top n) λf=>mg x=some (.ref f)
abbrev Bk(K:UT)(C:ar)(t:Nat):List (aU×aU×Nat)->Prop:=Bs λx q n=>d6 K x q (Al (top t) n) λf=>V4 K (.ref C) x=some (some (.ref f))/\Yy K (.ref f)=true
abbrev EU(K:UT)(A:An)(t:Nat):List (aU×aU×Nat)->Prop:=Bs λx q n=>d6 K x q (Al (top t) n) λf=>V4 K (.ref A.bh) x=some (some (.ref f))/\V4 K (.ref A.aT) x=some (some (.ref f))/\Yy K (.ref f)=true
abbrev IT(K:UT)(mg:aU->Option af)(C:ar)(z:aU):Prop:=mg z=some (.ref C)/\vN K C=true/\WU K (.ref C)=true
def Kk(P:UZ)(w:UU)(mg:aU->Option af)(base:Heap)(X:Prop):Prop:=X
def HS (P:UZ)(w:UU)(mg:aU->Option af)(base:Heap)(h:X):Kk P w mg base X:=h
def B2.fn(h:Kk P w mg base (B2 K mg L))(i:Nat)(o:∀{f D},AE K x x (top n) f D->Az P w K mg base CX k f D ps sp)(e:L[i]?=some (x,q,n):=by rfl)(b:Kj x x (top n) ps:=by walk_at "b"):Bt P w K mg base CX k x ps sp:=by obtain⟨f,D,a,F,b,y⟩:=BB<|(Bs.get h e).out b;exact⟨f,D,a,y,b,o F⟩
def Bk.me(h:Kk P w mg base (Bk K C t L))(i:Nat)(o:∀{f D},AE K x q (Al (top t) n) f D->Az P w K mg base CX k f D ps sp)(e:L[i]?=some (x,q,n):=by rfl)(b:Kj x q (Al (top t) n) ps:=by walk_at "b"):AR P w K mg base CX k C x ps sp:=by obtain⟨f,D,a,F,b,y⟩:=BB<|(Bs.get h e).out b;exact⟨f,D,⟨a.1,a.2,y⟩,b,o F⟩
def Bk.md (h:Kk P w mg base (Bk K C t L))(m:IT K mg C z)(i:Nat)(o:∀{f D},AE K "__init__" q (Al (top t) n) f D->Az P w K mg base CX k f D ps sp)(e:L[i]?=some (("__init__":aU),q,n):=by rfl)(b:Kj "__init__" q (Al (top t) n) ps:=by walk_at "b"):GJ P w K mg base CX k C z ps sp:=by obtain⟨f,D,a,F,b,y⟩:=BB<|(Bs.get h e).out b;exact⟨f,D,m.1,⟨m.2.1,a.1,a.2,m.2.2⟩,b,o F⟩
def EU.me(h:Kk P w mg base (EU K A t L))(i:Nat)(o:∀{f D},AE K x q (Al (top t) n) f D->Az P w K mg base CX k f D ps sp)(e:L[i]?=some (x,q,n):=by rfl)(b:Kj x q (Al (top t) n) ps:=by walk_at "b"):∀C∈A.bw,AR P w K mg base CX k C x ps sp:=by
 obtain⟨f,D,a,F,b,y⟩:=BB<|(Bs.get h e).out b;intro C H;rcases Vc.mp H with e|e
 .subst e;exact⟨f,D,⟨a.1,a.2.2,y⟩,b,o F⟩
 .have e:=Vl.mp e;subst e;exact⟨f,D,⟨a.2.1,a.2.2,y⟩,b,o F⟩
abbrev gR(K:UT)(t:ar)(xs:List V):Prop:=∃(od:Option ar)(its:Array af)(n:Tok)(sl:Array (Option af)),K.lookup t=some ⟨.type "tuple",od,.seq its n,sl⟩/\its.size<=10/\AA xs its.toList
end
section
variable {w:UU}{K:UT}{A:An}{P:UZ}{C x t t1 t2 t3 t4:ar}{xs:List V}{cd:Z4}{es:Array Y3}{n:Nat}
def gR.at(h:gR K t xs)(H:Hp):Bn K H t xs:=by obtain⟨_,_,_,_,l,z,v⟩:=DW h;exact .inr ⟨_,_,_,l,rfl,rfl,V7 z<|(by decide),v⟩
def acL(l:K.lookup C=some ⟨.type "dict",none,.dict es n,#[]⟩)(o:(C == Wj)=false)(v:Lb w.params es.toList [("lift",.ref t1),("pulse",.ref t2),("gap",.ref t3),("hang",.ref t4)])(B:gR K t1 [.str "rests",.str "rung"])(D:gR K t2 [.str "dials"])(I:gR K t3 [.str "dials"])(J:gR K t4 [.str "waits",.str "dials",.str "rings",.str "talks",.str "told"]) :
  ∃t1 t2 t3 t4,K5 P w K C [(.inr "lift",.ref t1),(.inr "pulse",.ref t2),(.inr "gap",.ref t3),(.inr "hang",.ref t4)]/\(∀H,Bn K H t1 [.str "rests",.str "rung"])/\(∀H,Bn K H t2 [.str "dials"])/\(∀H,Bn K H t3 [.str "dials"])/\∀H,Bn K H t4 [.str "waits",.str "dials",.str "rings",.str "talks",.str "told"] :=
 ⟨t1,t2,t3,t4,AdY o l v (show([("lift":aU),"pulse","gap","hang"]).Nodup by decide +kernel) (show 4<=1000 by decide),B.at,D.at,I.at,J.at⟩
def acM(c:Zm K C=some cd)(B:V4 K (.ref C) "__getattribute__"=some (some<|.builtin "BaseException.__getattribute__"))(D:V4 K (.ref C) "__getattr__"=some none)(H:V4 K (.ref C) "__class__"=some (some<|.builtin "object.__class__"))(I:Xy K (.ref C) (.type "object")=some true)(J:Xy K (.ref C) (.type "BaseException")=some true):EZ K C:=⟨by rw[c];rfl,B,D,H,I,J⟩
end
def UR (c:Zm K C=some B)(t:Yd K (.ref C)=some (.type "type"))(s:Xy K x (.ref C)=some r):PySem.W.kitCls K x (.ref C)=some r:=by change(if ((Zm K C).isSome && Yd K (.ref C) == some (.type "type"))=true then Xy K x (.ref C)else none)=some r;rwa[c,t]
def acN (c:Zm K C=some B)(t:Yd K (.ref C)=some (.type "type"))(b:Xy K (.ref C) (.type "BaseException")=some true)(s:Xy K x (.ref C)=some r):ZG K x (.ref C)=some r:=by unfold ZG;rw[b];exact UR c t s
def acO (d:(x == Vo C)=false)(c:Zm K C=some B)(t:Yd K (.ref C)=some (.type "type"))(s:Xy K x (.ref C)=some r):WB K x (.ref C)=some r:=by unfold WB;rw[d];exact UR c t s
def acP (m:zN T=true)(s:Xy K (.ref x) (.type T)=some r):WB K (.ref x) (.type T)=some r:=by change(if zN T=true then Xy K (.ref x) (.type T)else none)=some r;rwa[m]
def mf (h:WB K x c=some false)(q:YG K x B=some r):YG K x (c::B)=some r:=by unfold YG;rwa[h]
def acQ(K:UT)(v:af):WB K v v=some true:=by unfold WB;rw[bf<|beq_self_eq_true v]
def all_mk{l:wb}{w:UU}{K:UT}{mg:aU->Option af}{fa:ar}(hfa:mg "law"=some (.ref fa)){A:An}(mS:IT K mg A.bh "Seekers")(mG:IT K mg A.aT "Group")(mL:IT K mg A.Line "Line")(mH:IT K mg A.ak "Hall")(mP:IT K mg A.Plan "Plan")(T:HQ l.prog w K mg A)(pc:Lq K A.Plan)(B:B2 K mg [("within","",11),("are_figures","",12),("figure_of","",15),("paper_of","",18),("check_counts","",37),("check_lines","",38),("check_groups","",39),("_law_cell","",41),("_law_draws","",42),("_law_number","",43),("_law_plan","",44),("_law_world","",45),("_law_begin","",46),("_law_freed","",47),("_law_free_at","",48),("_law_tones","",49),("_law_paper","",50),("_law_ended","",51),("_law_gap","",52),("_law_hang","",53),("_law_at_line","",54),("_law_due","",55),("_law_answer","",56),("_law_shows","",57),("_law_hall","",58),("_law_wide","",59),("_law_led","",60),("_law_dials","",61),("law","",62)])(J:EU K A 17 [("first_free","Switches.first_free",1),("hold","Switches.hold",2),("free","Switches.free",3),("stick","Switches.stick",4),("mend","Switches.mend",5),("check","Switches.check",6),("holders","Switches.holders",7),("stuck","Switches.stuck",8),("shares","Switches.shares",9)])(hS:Bk K A.bh 24 [("__init__","Seekers.__init__",0),("take","Seekers.take",1),("steps","Seekers.steps",3)])(hG:Bk K A.aT 20 [("take","Group.take",0),("paper","Group.paper",1)])(L:Bk K A.Line 22 [("__init__","Line.__init__",0),("turn","Line.turn",1),("ring","Line.ring",2),("be_told","Line.be_told",3)])(D:Bk K A.ak 28 [("__init__","Hall.__init__",0),("do","Hall.do",1),("at_switch","Hall.at_switch",2),("at_line","Hall.at_line",3),("lift","Hall.lift",4),("pulse","Hall.pulse",5),("gap","Hall.gap",6),("into_group","Hall.into_group",7),("to_line","Hall.to_line",8),("no_call","Hall.no_call",9),("busy","Hall.busy",10),("hang","Hall.hang",11),("left_alone","Hall.left_alone",12),("wait","Hall.wait",13),("release","Hall.release",14),("tones","Hall.tones",15),("line_of","Hall.line_of",16),("switches_of","Hall.switches_of",17),("way","Hall.way",18),("figures","Hall.figures",19),("holds","Hall.holds",20),("other","Hall.other",21),("told_paper","Hall.told_paper",22),("paper","Hall.paper",23),("shares","Hall.shares",24),("waiting","Hall.waiting",25),("steps","Hall.steps",26),("deeds","Hall.deeds",27)])(hP:Bk K A.Plan 36 [("__init__","Plan.__init__",0)])(hi:Bs (λx q n=>d6 K x q (Al (top 17) n) λf=>V4 K (.ref A.hV) x=some (some<|.ref f)/\V4 K (.ref A.aT) x=some (some<|.ref f)/\Yy K (.ref f)=true/\yv K A.hV (.type "type")=true/\Zu K (.ref A.hV) "__getattribute__"=some (some<|.builtin "type.__getattribute__")/\yw K (.ref A.hV) (.type "type") x=some (.val<|.ref f)/\Yd K (.ref f)=some (.type "function")) [("__init__","Switches.__init__",0)]) :
  ∃fd:U7,(∀(s:US)(v:af),Yf s fd ⟨[v],[]⟩ [("script",v)])/\∀base:Heap,K.In base->base.Ns Xd mg->Az l.prog w K mg base Av 12 fa fd ["script"] (Mb K):=by
 obtain⟨f,oc,od,sl,kV,dc,pm,an,cd,ct,a,z,c,y⟩:d6 K "law" "law" (top 62) _:=Bs.get B (i:=28) rfl;have e:=hfa.symm.trans a;cases e;obtain⟨fi,ot,O,Fi,bi,yi⟩:=BB<|hi.1.out (ps:=["self","many"]) (by walk_at "b");have V:=T;have mh:=T.toTxtW;have kh:=T.toTxtG;have H:=T.toTxtH;have qR:=T.toTxtK;have Y:=T.toTxtP;have I:=T.toTxtS;have mi:=T.toTxt;refine⟨Xi "law" "law" (Gz<|top 62) (FF<|top 62) (Ab<|top 62) .none kV dc pm an cd ct,λs v=>.of_eq rfl,λbase _ _=>?_⟩;have B:=HS l.prog w mg base B;have J:=HS l.prog w mg base J;have hS:=HS l.prog w mg base hS;have hG:=HS l.prog w mg base hG;have L:=HS l.prog w mg base L;have D:=HS l.prog w mg base D;have hP:=HS l.prog w mg base hP;have bQ:=B2.fn B 0 λF=>Ael F mi;have nT:=B2.fn B 7 λF=>Aec F mi;have fX:=B2.fn B 8 λF=>Aeh F mi nT;have ic:=B2.fn B 1 λF=>AeP F Y;have oF:=B2.fn B 4 λF=>AeT F Y bQ;have oG:=B2.fn B 5 λF=>AeY F Y bQ ic;have oH:=B2.fn B 6 λF=>Ae3 F Y bQ ic;have ik:=B2.fn B 3 λF=>Afd F I;have pH:=B2.fn B 2 λF=>AfF F kh bQ;have eP:=EU.me J 5 λF=>Aet F I bQ;have oS:=EU.me J 2 λF=>Aex F I eP;have pI:=EU.me J 3 λF=>Aeu F I eP;have pJ:=EU.me J 4 λF=>Aev F I eP;have ie:=EU.me J 6 λF=>Aen F I;have pM:=EU.me J 8 λF=>Aep F I;have ig:=EU.me J 7 λF=>AeE F I;have h8:=EU.me J 1 λF=>Aeq F I;have vB:=EU.me J 0 λF=>Aez F I;have acR:=Bk.me hS 1 λF=>AeK F qR vB h8;have acS:=Bk.me hS 2 λF=>AeG F qR;have acT:=Bk.me hG 0 λF=>Afe F I vB h8;have acU:=Bk.me hG 1 λF=>Afh F I ie ig ik;have MS:=Bk.md hS mS 0 λF=>AeI F qR ⟨O.2.2.2.1,O.2.2.2.2.1,O.2.2.2.2.2.1,O.2.2.2.2.2.2,yi⟩ (RI Fi I) bi;have MG:GJ l.prog w K mg base Av 2 A.aT "Group" ["self","many"] (Lg K A):=⟨_,_,mG.1,⟨mG.2.1,O.2.1,O.2.2.1,mG.2.2⟩,bi,(RI Fi I).mono<|(by decide)⟩;have ki:=Bk.me L 1 λF=>Ae9 F T.lc;have acV:=Bk.me L 2 λF=>Afo F T.lc;have vC:=Bk.me L 3 λF=>Afp F T.lc;have ML:=Bk.md L mL 0 λF=>Afa F T.lc ki;have MP:=Bk.md hP mP 0 λF=>Ae7 F Y oF oG oH;have iY:=Bk.me D 16 λF=>Afl F H;have qS:=Bk.me D 17 λF=>Afn F H;have vD:=Bk.me D 13 λF=>Afr F H ki;have mj:=Bk.me D 14 λF=>Afq F H oS;have acW:=Bk.me D 4 λF=>Afv F H vD;have acX:=Bk.me D 12 λF=>Afu F H ki mj vD;have acY:=Bk.me D 11 λF=>Afw F H ki mj acX;have qT:=Bk.me D 9 λF=>Afx F H mj vC;have vE:=Bk.me D 10 λF=>Afy F H mj vC;have acZ:=Bk.me D 8 λF=>Afz F H qT vE acV;have ac0:=Bk.me D 7 λF=>AfA F H qT vE acT acU;have ac1:=Bk.me D 5 λF=>AfI F kh qT;have ac2:=Bk.me D 6 λF=>AfM F kh pH ac0 acZ;have ac3:=Bk.me D 15 λF=>Afs F H ki acR;have ac4:=Bk.me D 2 λF=>AfN F H qS pI pJ;have ac5:=Bk.me D 3 λF=>AfT F kh iY acW acY ac1 ac2;have ac6:=Bk.me D 1 λF=>AfU F kh ac4 ac5 ac3;have ac7:=Bk.me D 18 λF=>AfV F H iY;have ac8:=Bk.me D 19 λF=>AfW F H iY;have ac9:=Bk.me D 21 λF=>AfX F H iY;have ada:=Bk.me D 22 λF=>AfY F H iY;have adb:=Bk.me D 20 λF=>Af0 F H iY;have ade:=Bk.me D 25 λF=>Af2 F H;have adf:=Bk.me D 27 λF=>Af4 F H;have adg:=Bk.me D 26 λF=>Af6 F H acS;have adh:=Bk.me D 24 λF=>Af8 F H qS pM;have adi:=Bk.me D 23 λF=>Agf F H qS ie ig ik;have MH:=Bk.md D mH 0 λF=>Agp F H ML MG MS;have j8:=B2.fn B 9 λF=>AhL F mi;have qL:=B2.fn B 10 λF=>AhU F Y fX j8;have fT:=B2.fn B 12 λF=>AgB F;have gJ:=B2.fn B 13 λF=>AgE F;have iF:=B2.fn B 14 λF=>AgF F;have fS:=B2.fn B 17 λF=>AgH F gJ;have iK:=B2.fn B 16 λF=>AgM F H;have qm:=B2.fn B 15 λF=>AgT F H iF;have qj:=B2.fn B 19 λF=>Ag6 F gJ fT;have qk:=B2.fn B 18 λF=>Ag3 F mh iF fS iK;have ql:=B2.fn B 20 λF=>Ahb F qj fS qk;have qG:=B2.fn B 21 λF=>Ahj F mh ql qm;have qF:=B2.fn B 22 λF=>Ahv F V ac6;have qH:=B2.fn B 23 λF=>AhA F mh ac7 ac8 adb ac9 ada adi adh ade adg adf iK;have qN:=B2.fn B 11 λF=>AhJ F mh fT;have qO:=B2.fn B 24 λF=>AhX F V MH MP pc;have qM:=B2.fn B 25 λF=>Ail F V;have qP:=B2.fn B 27 λF=>Ah4 F V;have kg:=B2.fn B 26 λF=>Ah8 F V qF qG qH;exact Air (Qx z c y) V fX qL qM qN qO qP kg
def walk{l:wb}{q:UZ}{B:List aU}{I:(aU->Option af)->Heap->Prop}{D:UU->Heap->Prop}{d:DefRec}{K:Y1->UT}(J:l.most=some 63)(L:d.params.defaults=[])(O:∀(w:UU) (h:Heap),D w h->(K w.params).In h)(F:∀(w:UU) (mg:aU->Option af) (fa:ar) (h:Heap),(K w.params).In h->h.Ns Xd mg->mg d.name=some (.ref fa) ->
   ∃H:U7,(∀(s:US) (u:af),Yf s H ⟨[u],[]⟩ [("script",u)])/\∀base:Heap,(K w.params).In base->base.Ns Xd mg->Az l.prog w (K w.params) mg base Av 12 fa H ["script"] (Mb<|K w.params)) :
  PySem.W.WalkO q B I D l.row.toRowW d [] (λf vs=>wa f vs) :=
 L2.aax (n:=63) (k:=12) (x:="script") (CX:=λ_=>Av) (sp:=λw=>Mb<|K w.params) J `x L ⟨rfl,by decide,by decide⟩ O F (λ_ _ a V Y _ hS=>⟨a,V,rfl,hS,Y,λ_=>rfl⟩) λ_ _ _ _ _ z=>z
end
end Lw
local macro_rules | `(tactic| exact "f") => `(tactic| first
  | exact trivial
  | (refine ⟨?_, ?_⟩
     focus
       dsimp only
       refine' Lw.d6.of ?a ?l ?c ?k
       (case a => first | with_reducible exact xj ‹_› ‹_› (by k_is) | (refine And.intro (by k_is) ?_; first | k_is | exact ⟨by k_is, by k_is⟩ | exact ⟨by k_is, by k_is, by k_is, by k_is, by k_is, by k_is⟩))
       (case l => k_is)
       (case c => k_is)
       (case k => k_is)
     exact "f"))
local macro_rules | `(tactic| exact "v") => `(tactic| first | exact .nil | exact .cons ⟨_, rfl⟩ (by exact "v"))
local macro_rules | `(tactic| exact "u") => `(tactic| exact ⟨_, _, _, _, by k_is, by decide, by exact "v"⟩)
local macro_rules | `(tactic| exact "T") => `(tactic| ((try dsimp only [Lw.Er.adr, Lw.Er.is]); first
  | k_is
  | k_exc
  | (show _ = _; k_is)
  | with_reducible exact PySem.W.mg_none_of ‹_› ‹_› (by k_is)
  | with_reducible exact xj ‹_› ‹_› (by k_is)
  | with_reducible exact ⟨_, xj ‹_› ‹_› (by k_is)⟩
  | with_reducible exact Lw.acM (by k_is) (by k_is) (by k_is) (by k_is) (by k_is) (by k_is)
  | with_reducible exact Lw.acN (by k_is) (by k_is) (by k_is) (by k_is)
  | with_reducible exact Lw.acP (by decide +kernel) (by k_is)
  | with_reducible exact Lw.acQ _ _
  | exact Lw.acO (by exact rfl) (by k_is) (by k_is) (by k_is)
  | (refine Lw.mf ?_ (Lw.mf ?_ (Lw.mf ?_ (Lw.mf ?_ ?_))) <;> first | exact "T" | exact rfl)
  | exact Lw.acL (by k_is) rfl (by exact ⟨⟨_, rfl⟩, rfl, rfl, ⟨_, rfl⟩, rfl, rfl, ⟨_, rfl⟩, rfl, rfl, ⟨_, rfl⟩, rfl, rfl, trivial⟩) (by exact "u") (by exact "u") (by exact "u") (by exact "u")
  | exact Lw.gR.at (by exact "u")
  | (refine fun (e : Lw.Er) => ?_; cases e <;> exact "T")
  | exact .head _
  | exact .tail _ (.head _)
  | ((fail_if_success (show _ = _)); constructor <;> exact "T")))
namespace PySem.W.Fast
def w:=True
local macro_rules|`(command|#check $s:str)=>do
 let a:="0123456789ABCDEFGHIJKLMNOPQRSTUVWXYZabcdefghijklmnopqrstuvwxyz!#$%&()*+,.:;<=>?^_{|}~".toList
 let r←(List.range (s.getString.length/10)).mapM λk=>`(command|def $(Lean.mkIdent (.mkSimple s!"tw{((s.getString.toList.drop (10*k)).take 10).foldl (λn c=>n*85+a.idxOf c) 0}")):ident:=w)
 return Lean.mkNullNode (r.toArray.map (·.raw))
#check "z9C;Ze!qetc!mp8:7Njug3S7a^;q9,:eStC^#O;wcYan)H,fm5D#AobA:I68v&}lNi3LT|k4BL7r=LsHmcRmWo{QT<Uz)kS*D5H9wE!btIWVeW5k~Fr.hcLEN%^k54rUWvNwdX=(wE#&v+JqC)n*W;7#KgziqR<,N=%KlD;^2HKAjbnVgs0VIBO8xcA3TXs#Z{12>UtH)XQRp|>{z(WSH4ndtAE^S8<Zl:=DW;&eeOvx<v0}Zry#UUJXL8gBTtOIWqq2hp~:+.ZjGEqLlkksANIp=kv%EiK9P{aL{&,^BUAq)&2X+G;!7T=CftD+T.y+V0!p#RQ~z)iD++?cB>WRG3jaX^#uL%:pNc{$b}l;!jI.2os)^ankOSft:|7o7xhA&9f9k9L;49h#;Fdqexy=#0YU%aw^A9=m8>YHNY6os)4J0S5;z6TD!L91=gU+v_McvTd568,e7^::C^^<&~:+9lm0fi;cgOo%iXGo.8k9Vjfq{8tQ}X490ZrB7xOzqOR8A~jbh%PSX{A2:(St5!._2%xU!$9QsU8^4gOm}!7oec>tEb:dZ>Th~>jk+buTq%(}AU0OFu6%w.PRR3CFHXBCaOgFOORE<n:L)0K,L8rM.Td>v#j=EqR)o~gK>YJIP5VtC5$J&GBDBTz(QadzXtn|#(kod66,3H8f4RzKpM{b.MVASE%q:;w,a(bH24$Ff6F$i|$L~A;r.Ph~Vn:e?+$5Dap:yRU?<UEP1~)$8Mx9()JuikYWN(.ji+V+>3xcm1*CS#whffDY:epDqA}T7FK0;ySpbV>Q(yW*Nqi:l8lFR.tmfPZabi3nEkxyX7NUQ}3eC5SeL?Q~)1Z<;3Ym%ALXiu.<H1DCIAzvK(=ezVKI*y0|rAJN7cjE#:swC_7R)v,67%<UaAD9651Gj&wVDd^.^{:24Q!X,Rk7R%<4+a_yYj^06HL_I.!4^Sn+K|%TV,i7Ic1wFpEU928n+%iPzRs*?0{H_19OKKM;$%U_S_i$K8Wh1Enj$p8cVc|Wv??O*5<|hO<d&5h43m32D6fp7:D6&,3xR)1d^wQ?i>(lK?m+$CNTUj(IF:CImXrFK<oQp(OwR85k4IKN4+09SdnRF;d!3;x31txfQh<,aE&Gy7vj5,i>8+YwCBxglCE>FwSp:?y<g43>3uf>z8pv1HPK1ww3aBVxk_5LNNXE<,}scG8,1P#HBYSu,,dQi+&HbqP<s3vRpmS2=PDd15#951scDq!WbFlsLYSw~2<4KD:WzFTbb5W87o_P=Y&9ok*c7^bqI)91TxEEXO9twX?n?I!F(WYT#uBg|KAQH4X+n{?l+Wil!TG1UqaBdq!HF(2AXr6cAR&EAjTSa:d5ng%9p^Mg4{u5Xvp}FDdChV7,R)T#Nb27TnB#?DtO84ELt)fj=bhNy.YLWM*ZWEReq:W08NqF<u4Id=eWKB&NoNTi$7mCUj17R%0:e%z?o1P.lD9PQOJwD1d^^t}BhBgRS^miP~R3,mfguGTh<La91+aIV2$74g5Dol119v3sQY3OFg{}{NesgB?H>9TEBkJ?^U22}.bSnFX)I$dXA%7vSNL$3IHbwHq8Tht+drWuE.CL1|Wv~tg:_dw&<Fuc+J?TNwq66.YoaE}EO}WHI<y_eY1FoqnqaW!Is7Efu_={86dGabIiTM^?0!9^F!tn.CFGYqNb&v22g#:(<V0&l,mmk5;H#NoiUTS!HTYqY#>&?nz+G4lvfWyY0?.aMyEJNfUbuA<u=QJSOzYh6bm23CkgpQ|Pc6PprmbkU4<H4dze5.wJ2b9tq,#&K<6RVY}:60opT;X,:5!YM:pZl)YyVj2!l?iCDCsfgCtX:>(E*EWzNdsJw7{NdL%k?tkRO~GSNhVb3&DOl?0~FwxSXlw=vY>1<flT.);fb8&nPRYR8Dmd88x5H#p}m7tm52eAm1HN8($7X8XVlvY2ctI|R!<_vnb9nox>&nv:=;)YfGr4;cL}{G0:p;vzMRMrIcJvrur}{U6V)NOCJ^kY5M3Yf2olJyfV!^ce^~3LX2a<#K_Q5sKtt{W3C7+CgvWEJ0H)?9lZozQIZRQy>RS2tcQKLmM34*ZQ%N0?gnOA=KtE%<cC|?{1mmubQVSO~9Xp;gid_}.kc)#wnTF:~r;pkUf(Q0jV?P%KQM!T{iX}6r&J>0RGM4<_u}0fj4R*_3yGaitw:N;.EZ??<V1Rx7C#h%ZDcN$K#BLEFw88zxeT<UN1q1u,z#IdCg!^XazP7CWvsE$NqEJ&6Faq)i4f~oqR4Q%kVSuk9a3Lx~Gsp=ea_P}#:c6L4FJ&6(?%Wb.NJ!naj{#!Q?ep*ZYJe?!Z%N,w5&)KYQ2%p34bmUj<_oUlb85x,y?A?dt:&9Yq~}N5%?YQDXbeCIQ^>0g<D)k(wN08Bqcb,oRhZxQ8xz+w,eW^{Ap6k+pLQP9Cvp2HE04gx5rAvrf^hBL$h?8iMudI*QXw^qjL~~H)wv&20R,#$IKStCC%<l)?V}:kw>Py*sg7EW>P#b4xU~>$6>YHY3oV(lC*&G:;&:ZS+PQ(5au7+DTn1ekG)or)7&eS{:^DVA(%:my<p4ZH*g0l+c^<_wU^Ie2gnB%nu1dhs8i0=p>V|Jbz6W|Y3Dt6U()7)m2<4#HQlOh%%tc5GPtz|xg;!>=Gvir4Q!pxLTg<*9P72#<^jNA:a<awx|j8RH*+Ek90Y7<J$wMoCcTM(z:e$A12CuH6<)diut,xU|MZD{&~p.~,fs5OiETSdWU<?M_Un_0xGL(SD6jzBv>P6YPbzvt8+fjqE$Po%Eh.PhgE.u+#bZW*W<??~yLW9Y4uq8pBUajOpGMTQGPFGf!=+zv9Ng1>&qQ1rA=0D*<t6&wT0z0e_^07A(#+fVsyhd1N)YmMMo9IwXnU5&Ll}ado8*waI4uCB$#<Cql(dpU8*_G_Q(!JtBLR;dAfmw&+dVmc$iH_hgC4=#=nV9PLa^%:ijjBsc42Yt<OKLMIi*f_xg)+(cUw6Or4R3esouk>+(,kA>1T{$oz677|GeK6A2n#YeJd;(vx^0$Oii8nYg8U:cdlDBoo<#R9d3difHD9rGlZ$whALz*$.Bl}5HV.sADe%cpfl35%B;w$hF_XHUyWh&1BA&4>%9?+arjU!=*c;f~m?FMXG^~*JyA8?|Nvq?lXCi^AG~~TVS1vc9%&9E3p#7S=w)erJ)j3^%52LuO}m#8ZmjwsMU4aNakvncde;5lSRg4y8<iX%QA$v#pT;r_qwu=eurv1X^QV6njn%e<:>vRUJO^m9?*+(gu7bP%^aY^R:A|fLDTAf?VAp!a%&cJ:(?TWr,z6Sa*tB)X:w~BvFN+MC8sgH%<jDKWyPf^hq!OEA;:;Kbs6nTt,+4:KMs#Lv%F5F^:?Xc%G2C%u?5Z+r~vJK?~X.A,LOI4ttpOwKQFF7S6$R~*EvPxk2^sl{n.x<,>6C427kO}^qzXkGXYZ~<:OIV9;O)hxq+&FzzI.yC7?oRPt7kNWb^E(gf;.2}Z_s4aP*4T~l(?O43%f,sX6}uMw6RtNhZx$=P!FHMgDsWiVq:4MxXhB{=lh_%yk(4ysTpjMr3D!jqIdsjg!1t~MP)MS=d3qyLN$u_(q!!V>8**0OHy.))Cm~3;H(N68pW:~5*duONw2t0lKAzBx7snB11nuNa<XFDxpm()&vMn(q||NJ&g;SgGReYXPOOz~ytq?%B%xz58Jln7AwFnAG}m)qgIP_:JSzKn8;Q>Iu7BlaG*wH*U+3bPNeEH;{|Mqb+dTSxpLx3L8cTNo4))WnwF1af=J|vRq80*QJ)#LH1$7>>u8X_2u#*kAu$LV:{rZHJ>dw}k^OA>=2K<dUzyden*8|TlzcOZNGFTaCO6*W<8b7Ei(3m~n=U=1SIB0f^m}(,,n<YXE{=97rSXAo{1M3iYcoBA%N3P_XCg<(;0+2F*j#VXa)CV*lwZpG$Y+w|D<%:3Zu6sFr!QZ;b9>Yt|XN|^LOSN^R*BDdo5K1n}Qn(<*S|X&~TXSBlzGKmTFUf,)>OGcZasBi5R)$pjwXV6bKHGV2iSPTI?Pi;}dxOlC=dzB)L<p{merGqyggYU)QT(kR4>*9(vluv3C%sElBhTetKC;)?OreSrHk2$5^#?G#6Uk(>VBXSdLqJd0GhLU;)K>jj+t7+0EdQ?MwF7Iqnp{OeNi>{q3SsWTAc.=l1IVW=7eyRjRKh(t?ep}P$F||+Do?{8iBVXRZ>cKZ6nt0NlAB=2ZPkCz5H:a5Un7kU!P:$z7Ter()!kLvwG}t5w.5!yKC#.oTYrb.)QRJJDBe$4>Q~pK:b.l=_8iq1rw.!u3<bJ5:(06P*iBQz4mK,b+Pmkuk4#~BVhkKlDpnF9FE,6=d$2)1&:39H?*JVLx$))U?d;eZ^V<}hEuGQe+KSrPmdHcmp:H~XeDn=SY,#&$c>*!v6)&~U9ntm;hOQI0k:?T)pGaSs^S<coJnHrhRSBbxla:}~JiYF$KEF;xg(eSP1HC%d%t>J?U3(ZY^dwln.1.TaaeKv2&bqF^4alm+ZHizc:4EEjQ2v+rQK7~nUSYiu20n^EZm<_ll:,mkMZ?Rcs1_C{o+p$v&~pdlm0sZ,O)=dR_=Hmg8?S{!zG(jR8b)h2QyzjDTQh=Q+8+b$!$Lo)C$0d.XI1Mok6J2OilH{>R3,uf(4yMvQb*Ls1hHl#,b0l:eXPnz,XDK:.G>JNTMxv#vK&rHLHC;gcI~Ho%7>I{zz;bY.)Boa2%Z1*pKk5R!?d2f7E.cS!TI;0)S0hwJh*U=OLy*v{X)ll1IWFw{UCPKE=vqGWuVfjaSd6B0YcV{:MA3$t}#ld=.*^;tcSsYEvXWGRvd?LGuox|Id&~klm5yw0k=DKA%xnfye*#|d*P1zlf:j%igFz!hd!$Se?L^Xo)v4#ntIe)y#)HWuo{WFFV}V8+eJ1qgOXT4UMX7)w9$8wq;%!kX!nl3&vc~0bs!9S>ayx^7sK}OD6=Sq+>V+;x0X3C.}J8ssuipr#43QwzTh.#miwwco(S{k$)pW4Fl}8w!,r1hoaX_6Sq8!=(LI6mgBC|j19=e,s?!Z}g^L299f|zBC.veawQCbfFv+n=NZZHAx53:fG3D$^)nhv=+*M#dvj%.Yvu8W2CiP6pTlafjb9NxbCDk|7,.Cjn7vyM#(&xwqW$UQ!ie%Yz^5=o~EXYgSBj8,u=Or%zt^*GIJnKZ}hPFP!bkd?!DZx_#mT2FIo(XFNhH)r!OCE2dGEA<1#F^O*Uri?kVSKxc6hnGA<>Vxw&nx1?+8ADp40ebCuFN:Z|lFwS>a9^~iagqI|mYlJ.WoEXq+MR!}WT|.sVV0ObRCLUrzpI|;2jOK4;80MIH^Tvd{JcghCQNf9.b$$x7!YAr|#GG4<vxvl_Hz?P.iF=*p7h6m,si=%Hw0=+6vmuLoI&M4yPg_(JajQ$x*0<ur;4^_lMTO?LdvQwkF}NAeVQFyZ6(+2y4n|oC8xk!MIwYf7fq#:fzt|T&>fI$BpdVQIe?C!N0;2s&G+y5UR#Cq7Zi*zh>xlfs*nHOJ)k$DpfN;9V9h*zXzfK{uLHvmW}!}:aU1sG2~Tu79k%X(C}:tfeLi||AI~Tb,Z0LN,2Kb*V}^GQ$iuU$oxux~4>+a!>o9Swi|VpQZsZsPgLfq=Z75a)dR{4ApvNXwcqJ5+gSdT<XdtH%eY8#{TsgW0l}TooJ~V4ES&U5WBuhXJOnz:;BXKQH:0;Y)6)+Tg){hIK&GM({(3qA#snjKc?&rn:qZntxmrWTAp}o2oM4Bw|pO*TI+y8gqjU.0Uc2KOKR$ih}<C40bg!R65_<ecBZ.y.p?+5dxVvl1*}C,T)Q3VqfPP(dfISLtmvIh0<GG9Vuo}8uOB;~n^%)U&y=6u9Ye{Xd2;TWPyL8X8{,v%(ZbKx2X6$v8g,.}&8#rJw!5D^kVzQl,w<9XLLl?p8XF3PpE9+GJ{Q7~12Qj4y*$Nb0$OCv$.fI62cHL4u*7b#O{<}iyBmn14J*Nh)LfZp1|&<SFp_rBOhzdj>3Nh*9!pyqqZeI6=2kAKQPC8F>{45s{5XZN>ydaZ_pxRjJYb!?qY1}tz9WsoyQFW,lYGZ0w>EUs,_?xe|bVBRP<?LiAjM69b$?JS,0WAQ5K={{$#WKzI_=h?Qgx~($y;h}D,oNY44zmfq=&7?F|yfu)3rUyLFxaI;=<Ak,!h4$ctA=GMvghxkbd?>Q{gNU>^1XRaSgHbfX:D^F8f:,1du+(iIfu$R,<|~Yt4CojP1rtpmfYR>l3t0ymfShGrRKCv&fN9.Uy.9xBetP~Gu=)dpeU}bH3!jjOeIps>Q?wMMe3f$,^MaZ3d^HSGg!d1jdb>p>$A4iDdG%s:a>%38d6ndWqvt.3cJ*.4$rOpAc2?2R;}*#QbU0a?7D$wRb9{UR8<6{;aLDuRkb83YZXhd7=8.qNZE_~bj?az|Z95i5Q1u{SY;NBaWm#s!Y%uZ#6kO%8Yum%(=C6#?Y36s~i:.B7XXL67LJ$m>V{S1K1c3,NV;hIVIlAQ+VLlbl!d}{239DQlSh.#rUr,ea080U;T$P&)iU<%|Sk2=icC4iHScH}gYA%^zSRA_%De&s*S4bFi=ur6F2)WhROsp3GRvR7w#GA8=Q}>.0Cc6:*2wunzPDm5zQ#y>;jeS?cQgXf%%a{WBQXB*spxBJdQ1#JtL4nYvP*z$!w6vcH2l}p(dN&sbO=i7YNi8PS2fS{:wjG#zOtqIIC%5ceOg!IXQ208{OVMr1?<b)22ZEUbqWs$FNSGkJGUgOINJ~yq$l$ivM;4|Vt6hv0MJQEE1r(yNMG_Q>,cX^QMCv#b6bQg&M3;)?faGq,LHy1qjtj{>K!gIvTE{WSKzGcEY~vY9Koz0zUwJQyKP9iQLgD.mK0^isn?*FlJ*e{V(zjikJd*ws2r;:GJ1.:wzJ+yA1=EKz5*%H4I<rW.>|P+WIp&d4yi)jgIZRO%+$fYEIFJm__F9?%H(u?O7q+ftHqQFMk{w5$HnTl$Vw3Wd1yM1>RBe#&G~7?Rhd8DIGjX&D,VH%(0D^*(t;>g{GP&lf{Vx*&GKy)wfw=noF.u(CkIDJTFq%KAv}e:&FkJw>TI|;=FVFg4Xkn;&E:XA*$Qx!KEa4}l#ncA?EHrM)l96l1E0zq+Kgo_%D=dno_i|D3D%Ln!$geWQDrxI:#RXQnDL{=)Ly{d="
end PySem.W.Fast
open PySem PySem.W PyProof.Rows
set_option maxRecDepth 100000 in
set_option maxHeartbeats 0 in
theorem PySem.Challenge.cw_stephall_k10_talks_end_at_either_end_holds : PySem.Challenge.rw_stephall_k10_talks_end_at_either_end.Holds := by
 w_on;o_law;k_head;(case hw=>w_witness2)
 k_fill
 refine Lw.walk (l:=PySem.Challenge.rw_stephall_k10_talks_end_at_either_end) rfl rfl (λw h Y=>PySem.W.kIn_of Y) ?F;case F =>
  intro w mg fa h KX G je;exact Lw.all_mk (A:=⟨_,_,_,_,_,_,_,_,_,_,_,_,_,_,_,_⟩) je (by exact "T") (by exact "T") (by exact "T") (by exact "T") (by exact "T") (by exact "T") (by exact "T") (by exact "f") (by exact "f") (by exact "f") (by exact "f") (by exact "f") (by exact "f") (by exact "f") (by exact "f")
