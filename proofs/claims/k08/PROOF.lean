import PyProof.Rows.All
import Wide.All
import OpenK.AllK
import Wide.FinOn
import Lean
import PyProof.EqAt
import PyProof.EqKinds
import PyProof.TupleCall
import PyProof.NeData
import PyProof.P3In
import PyProof.SliceStr2
import PyProof.StrLaws
import PyProof.WalksEnum
import PyProof.EnumMake
import PyProof.ListRange
import PyProof.Rows.StrInSeq3
import PyProof.Rows.SortWalk
import PyProof.Rows.SortStr
import PyProof.ConsumeWalk
import KE.KSortTup
import PyProof.Rows.SetFrom
import PyProof.CollectWalk
import PyProof.AutoListH
import PyProof.DictCompW
import PyProof.DictWalks
import PyProof.Rows.StrNews
import PyProof.Rows.StrWeight2
import PyProof.StrLawsChain
import PyProof.TupleIter
import PyProof.WalksMore
import KE.KDictList
import PyProof.Rows.StrRules
import PyProof.StrLawsRepr
import PySem.Challenge.RW_stephall_k08_tone_in_order
set_option genSizeOf false
set_option bootstrap.genMatcherCode false
set_option compiler.extract_closed false
noncomputable section
local macro_rules | `(tactic| omega)=>`(tactic| first | lia | omega +splitNatSub)
open PySem renaming Shared->T2,wpAny->T5,World->T6,model->T8,Expr->T9,wpAny_bind->Ua,Program->Ub,sizeLine_eq->Uc,eval->Ui,FuncData->Uk,starEach->Ul,wpAny_pure->Um,Around->Us,mainGlobals->Ux,backTo->UP,compareOp->UW,bootBuiltins->U9,codeAny->Vk,sysModules->Vq,holding->Vs,wpAny_mono->VB,standAt->VC,step->VD,binaryOp->VP,hashStr->VU,wpAny_holding->VY,pyNext->VZ,IsEnum->V2,assign->V6,backToKw->V7,keywordEach->V8,Builtin->Wa,relabel->Wb,getMethod->Wg,mem_of_lookup->Wi,SetTable->Wm,wpAny_field->Wq,wpAny_truthy_bool->Ws,wpAny_standAt->Wt,atKey->Wx,Model->WC,assignEach->WD,foldedSetIterable->WE,callWith->WL,NameKind->WM,bindL->WN,bindC->WO,call_meets->WR,valueAt->WZ,relayAll->W6,field->Xa,swapsWith->Xd,getItem->Xe,wpAny_passesOwn->Xf,letOwnedTupleGo->Xg,rawInt->Xh,Result->Xj,BindsTo->Xl,codeAny_mono->Xm,Keyword->Xn,sliceBounds->Xq,callerA->Xr,codeAny_builtin->Xs,wpAny_call_entry->Xv,tupleKind->Xw,compPost->XF,layNew->XG,wpAny_rule->XH,GenState->XS,isTrue->XU,wpAny_execs_nil->XW,setItem->XX,Operator->XY,pyIter->XZ,attributeBase->X6,seqIndex?->Ya,Params->Yc,DictEntry->Ye,sliceRange->Yf,wpAny_newObj_type->Yi,wpAny_setField_rec->Yo,PassesOwn->Yw,behindInMarks->Yx,wpAny_call->YA,wpAny_Call_Name_kw->YB,seqIndex_of->YE,subscripted->YF,typeIs_str->YG,compTurn->YQ,compEnvC->YR,comprehension->YS,wpAny_pyIter_enum->YT,wpAny_callSpecial?_slot->YZ,IsEnumOut->Y1,Within->Y9,builtinsNs->Zb,wpAny_Name->Ze,wpAny_pyIter_list->Zf,wpAny_pyIter_tuple->Zg,cellsFrom->Zq,seqIndex_neg->Zu,typeIs_int->Zx,call->ZD,noteFrame->ZG,codeAny_call_builtin->ZH,checkBuiltinCall->ZI,intText?->ZL,reprText->ZM,codeAny_loop->ZN,wpAny_noted->ZO,firstIterPos->ZP,wpAny_comprehension_free->ZQ,wpAny_newFunctionEnv->ZR,tupleKind_room_in1->ZV,wpAny_newList->Z1,setAddHashedIn->Z3,plainId_quiet->Z5,codeAny_of_tree->Z6,wpAny_askSetting->Z7,sizeLine->wa,wpAny_eqBool_int->wc,wpAny_execs_cons->wm,wpAny_assign_Name->wq,wpAny_AugAssign_SubscriptAny->wu,wpAny_loadPart->wB,slot_list_getitem->wL,fitsIndex_both->wQ,wpAny_loadPart_at->wZ,wpAny_formatField_str->xh,wpAny_letOwnedTupleGo_enum->xi,wpAny_getItem_of->xo,wpAny_newTuple->xy,wpAny_storeSet_of->xO,wpAny_runValue->xR,wpAny_seqItems->xV,wpAny_setField->xW,firstArgMember->xY
open PySem.W renaming Frag->T3,findIn->Uz,nsIn->UC,mg_of->U6,keepIn->Vh,fnOf->VG,excIn->VH,mg_none_of->VT,kia_one->V1,plainGet->Wu,emptyDict->Wv,codeIn->Ww,instObj->WB,hasDictIn->WI,isFn->WJ,makesIn->WK,plainOver->Xi,callWith_K->XA,methodCall_KW->XB,hideAll_get->XR,kitOne->X7,hideAll->Yu,lookIn->Yy,specialIn->Yz,methodObj->Za,plainGet_of->Zj,takerIn->Zk,typeIn->Zl,OpenLaw->ZE,nsOkIn->ZF,of_hideAll->wj,handedIn->wA,kitx_list->wC,kitx_dict->wD,callWith_K0->wG,cellsFrom_some->wH,tail_of_in->wU,kitAny->xg,readsIn->xr,findCls->xt,kdl_dict->yd
open List renaming length_map->T7,replicate->Ug,getElem?_map->Uj,mem_cons->Uo,mem_map->Ur,getElem?_eq_getElem->Uu,append_assoc->Uv,mem_of_getElem?->Uw,map_append->Uy,map_map->UD,length_set->UE,size_toArray->UG,nodup_cons->UH,mem_singleton->UL,getD->UM,mem_cons_of_mem->UO,getElem?_eq_some_iff->US,mem_append->UU,mem_cons_self->UY,not_mem_nil->UZ,mem_append_right->U0,length_append->U2,map_cons->Vd,length_cons->Vf,length_replicate->Vi,range->Vj,map_set->Vn,mem_range->Vr,append_nil->Vu,length_singleton->Vv,set_set->Vx,length_take->VF,take_length->VL,set_cons_succ->VM,set_cons_zero->VN,take_add_one->VQ,all_eq_true->V3,map->V4,getElem?_set_ne->V5,length->V9,getElem_of_mem->Wc,find?_cons->Wd,map_congr_left->Wl,nodup_append->Wn,nodup_nil->Wo,getElem_mem->Wz,replicate_succ->WQ,length_range->WS,lookup_cons->WW,cons_append->WY,lookup->Xk,mem_filter->Xx,getElem?_set_self->Xy,flatten_cons->XC,map_nil->XD,mem_iff_getElem?->XI,count->XN,getElem_inj->XT,any_cons->Yb,map_replicate->Yg,flatMap_append->Yq,map_id->Yr,mem_append_left->Yv,take_sublist->YD,take_of_length_le->YN,lt_trans->YU,pairwise_map->YV,range_succ->Y3,set_comm->Y5,count_append->Y6,filterMap_cons->Zd,mem_filterMap->Zh,of_mem_zip->Zp,foldl->Zz,eraseIdxIfInBounds_toArray->ZA,nil_append->ZC,drop_zero->ZJ,idxOf_lt_length_of_mem->ZS,length_erase_le->ZT,length_nil->ZU,le_antisymm->ZX,ext_getElem->ZY,mem_erase_of_ne->Z8,length_pos_of_mem->Z9,filter_append->vQ,filter_cons->vR,filter_nil->vS,length_filter_le->vT,all_map->vU,getElem?_set->vX,mem_or_eq_of_mem_set->vY,getElem?_append_left->wI,length_drop->wJ,foldl_cons->wO,getElem?_eq_none->wW,length_eq_zero_iff->xc,idxOf_cons->xj,pairwise_cons->xu,nodup_range->xw,pairwise_iff_getElem->xK,length_erase_of_mem->xS,find?_append->yf,take_append_drop->yg,any_eq_true->yh,mem_of_find?_eq_some->yi,find?_some->yj,perm_middle->yl,find?_eq_none->yr,getElem_take->yu,mem_replicate->yv,mem_of_mem_take->yz
open PySem.Str renaming ofString->Ud,empty->UJ,length->Xp
open Or renaming inr->Ue,inl->Uh
open Nat renaming le_refl->Uq,ne_of_lt->UB,lt_of_lt_of_le->UN,zero_le->U1,lt_of_le_of_lt->U5,le_trans->U7,add_le_add_left->Vb,le_succ->Vl,le_of_ble_eq_true->Vo,lt_irrefl->VA,ne_of_gt->Wf,lt_succ_self->Xz,succ_ne_self->Yh,lt_succ_of_lt->Ym,succ_le_succ->YH,le_of_lt->Zc,sub_zero->ZK,max_le->v9,min_le_left->xb,min_eq_left->yx,min_eq_right->yy
open PySem.Heap renaming lt_size->Ut,get?_push_of_some->UA,SameBut->U4,get?_push_size->Va,size_push->V0,get?_update_self->Zv,size_update->Z2,get?_update_other->wM,get?_push_ne->xB,get?_update_ne->xC
open PySem.Value renaming ref->UI,none->U8,str->Vc,int->Vg,bool->XO,type->XQ,isStrOf->Yt,builtin->YK,isInt->Y7,float->Y8,isStrOf_shape->wb
open Option.some renaming inj->UK
open Ne renaming symm->UQ
open Sum renaming inr->UR,inl->Xc
open Bool renaming false_ne_true->UT,and_eq_true->Wj,eq_iff_iff->WH,eq_false_iff->Xt,false_eq_true->XE
open Option renaming map_eq_some_iff->UX,map_some->Vw,isSome_iff_exists->YC,getD_none->Zw,bind_some->vZ,map_none->xf,map_eq_none_iff->yt
open PyProof.Rows renaming seqObj->U3,AllBare->We,envOfC->Wh,StrsAre->Xu,callWith_type1->X5,IntsAre->Yd,Subscript_->Zs,subscriptTail->Zt,listUpdate_at->ZZ,seqEpoch_at->Z0,subscriptTail_builtinR->wK,slot_list_sort->xG,entry_list_sort->xH,args_list_sort->xI
open PySem.F renaming plainAttrs_list->Ve,slot_list_append->Vy,type_list_append->Vz,called_set->W8,slot_tuple_iterator_next->Y0,slot_enumerate_next->Y2,slot_dict_get->ZW,slot_int_rmul->wR,excBase_ValueError->wV,typeOf_object_class->wY,attr_ValueError->xa,slot_list_remove->xk,entry_list_remove->xl,args_list_remove_2->xm,entry_dict_get->xp,args_dict_get_3->xq,plain_set_new->xQ,entry_tuple_iterator_next->xT,args_tuple_iterator_next_1->xU,entry_enumerate_next->yb,args_enumerate_next_1->yc,plain_list_iadd->ye,slot_list_pop->yn,type_list_pop->yo,slot_list_remove->yp,type_list_remove->yq
open PySem.Obj renaming mapSeq->Vm,putSet->YW,data_mapFields->xX
open PySem.PassesOwn renaming never->Vp,leaving->vV
open Array renaming length_toList->Vt,getElem?_eq_getElem->WU,getElem?_toList->YJ,mem_toList_iff->wz,perm_iff_toList_perm->xx,all_toList->ym
open True renaming intro->VE
open Int renaming emod_nonneg->VI,emod_lt_of_pos->VJ,toNat_natCast->Xo,eq_ofNat_of_zero_le->Yj,zero_add->Yp,le_of_lt->Y4,emod_eq_of_lt->yw
open False renaming elim->VO
open List.Sublist renaming refl->VR
open PySem.PyData renaming depth->VS,int->Wr,str->WA,depthAll->Xb,canLayAll0->XJ,canLay0->XM,eqv->YL
open Sum.inr renaming inj->VX
open PySem.NameKind renaming free->WV
open PySem.SetTable renaming grown->W7,orStandIn->xM,standIn->xN
open Classical renaming byContradiction->Yk
open PySem.W.KasT renaming kasWp_bind->Yl
open PySem.Around renaming under_plainId->Yn,under->Zm
open PySem.SeqAt renaming eqv_refl->Ys
open PySem.Builtin.List renaming listTooLong->YI
open PySem.Builtin.Str renaming strSliceIndices->YM,occurrences->Zi
open ForInStep renaming yield->YO
open PySem.Heap.SameBut renaming update->YX
open PySem.Builtin.SmallTypes renaming nextOf->YY,ownedTupleIsFree->xZ,ownedTupleHandOut->ya
open PySem.Code renaming isFrame->Zn,quiet_builtin->wX
open PySem.Calls renaming spliced_cons->Zo,evalArgs_plain->Zy,Name_function_global->wk,spliced_nil->wF,callWith_builtin->wN,call_function_entry->xF
open PyProof.Rows.F renaming plain_set_update_loop->Z4,entry_set_update_loop->xP
open PySem.AutoSeq1 renaming wpAny_loadPart'->vO
open And renaming intro->vP
open List.Perm renaming swap->v8,of_eq->xJ,append_right->yk
open PySem.SeqAt.EqAt renaming int_str->we,str_int->wg
open PySem.MeetsSeq renaming list_remove->xn
set_option Elab.async false
set_option linter.all false
set_option maxRecDepth 100000
set_option maxHeartbeats 4000000
namespace L2
theorem Ax {n:Nat}(h:Nat.ble n wa=true:=by rfl):n<=wa:=Vo h
theorem CL {α:Type}{B R:α->Prop}{G:Prop}(h:∃ a,B a/\R a)(q:∀ a,B a->R a->G):G:=by obtain ⟨a,D,r⟩:=h;exact q a D r
theorem Hf {α β:Type}{B R:α->β->Prop}{G:Prop}(h:∃ a b,B a b/\R a b)(q:∀ a b,B a b->R a b->G):G:=by obtain ⟨a,b,D,r⟩:=h;exact q a b D r
theorem AG {α β:Type}{B D R:α->β->Prop}{G:Prop}(h:∃ a b,B a b/\D a b/\R a b)(q:∀ a b,B a b->D a b->R a b->G):G:=by obtain ⟨a,b,H,I,r⟩:=h;exact q a b H I r
theorem Hg {α β:Type}{B D P3 R:α->β->Prop}{G:Prop}(h:∃ a b,B a b/\D a b/\P3 a b/\R a b)(q:∀ a b,B a b->D a b->P3 a b->R a b->G):G:=by obtain ⟨a,b,H,I,h3,r⟩:=h;exact q a b H I h3 r
inductive NL (P1 P2 R:Prop):Prop
 | mk (h1:P1) (h2:P2) (r:R):NL P1 P2 R
theorem AD {B D R:Prop}(h:B/\D/\R):NL B D R:=by obtain ⟨H,I,r⟩:=h;exact ⟨H,I,r⟩
inductive NM {α:Type}(P1 R:α->Prop):Prop
 | mk (a) (h1:P1 a) (r:R a):NM P1 R
theorem Ag {α:Type}{B R:α->Prop}(h:∃ a,B a/\R a):NM B R:=by obtain ⟨a,D,r⟩:=h;exact ⟨a,D,r⟩
inductive NO {α:Type}(P1 P2 R:α->Prop):Prop
 | mk (a) (h1:P1 a) (h2:P2 a) (r:R a):NO P1 P2 R
theorem Av {α:Type}{B D R:α->Prop}(h:∃ a,B a/\D a/\R a):NO B D R:=by obtain ⟨a,H,I,r⟩:=h;exact ⟨a,H,I,r⟩
inductive NP {α β:Type}(P1 R:α->β->Prop):Prop
 | mk (a b) (h1:P1 a b) (r:R a b):NP P1 R
theorem AQ {α β:Type}{B R:α->β->Prop}(h:∃ a b,B a b/\R a b):NP B R:=by obtain ⟨a,b,D,r⟩:=h;exact ⟨a,b,D,r⟩
inductive NQ {α β:Type}(P1 P2 R:α->β->Prop):Prop
 | mk (a b) (h1:P1 a b) (h2:P2 a b) (r:R a b):NQ P1 P2 R
theorem AY {α β:Type}{B D R:α->β->Prop}(h:∃ a b,B a b/\D a b/\R a b):NQ B D R:=by obtain ⟨a,b,H,I,r⟩:=h;exact ⟨a,b,H,I,r⟩
inductive NR {α β:Type}(P1 P2 P3 P4 R:α->β->Prop):Prop
 | mk (a b) (h1:P1 a b) (h2:P2 a b) (h3:P3 a b) (h4:P4 a b) (r:R a b):NR P1 P2 P3 P4 R
theorem Dl {α β:Type}{B D P3 H R:α->β->Prop}(h:∃ a b,B a b/\D a b/\P3 a b/\H a b/\R a b):NR B D P3 H R:=by obtain ⟨a,b,I,J,h3,L,r⟩:=h;exact ⟨a,b,I,J,h3,L,r⟩
inductive NS {α β γ:Type}(P1 R:α->β->γ->Prop):Prop
 | mk (a b c) (h1:P1 a b c) (r:R a b c):NS P1 R
theorem BI {α β γ:Type}{B R:α->β->γ->Prop}(h:∃ a b c,B a b c/\R a b c):NS B R:=by obtain ⟨a,b,c,D,r⟩:=h;exact ⟨a,b,c,D,r⟩
inductive NT {α β γ:Type}(P1 P2 P3 P4 R:α->β->γ->Prop):Prop
 | mk (a b c) (h1:P1 a b c) (h2:P2 a b c) (h3:P3 a b c) (h4:P4 a b c) (r:R a b c):NT P1 P2 P3 P4 R
theorem BZ {α β γ:Type}{B D P3 H R:α->β->γ->Prop}(h:∃ a b c,B a b c/\D a b c/\P3 a b c/\H a b c/\R a b c):NT B D P3 H R:=by obtain ⟨a,b,c,I,J,h3,L,r⟩:=h;exact ⟨a,b,c,I,J,h3,L,r⟩
inductive NU {α β γ δ:Type}(P1 R:α->β->γ->δ->Prop):Prop
 | mk (a b c d) (h1:P1 a b c d) (r:R a b c d):NU P1 R
theorem Cj {α β γ δ:Type}{B R:α->β->γ->δ->Prop}(h:∃ a b c d,B a b c d/\R a b c d):NU B R:=by obtain ⟨a,b,c,d,D,r⟩:=h;exact ⟨a,b,c,d,D,r⟩
inductive NV {α β γ δ:Type}(P1 P2 P3 P4 P5 R:α->β->γ->δ->Prop):Prop
 | mk (a b c d) (h1:P1 a b c d) (h2:P2 a b c d) (h3:P3 a b c d) (h4:P4 a b c d) (h5:P5 a b c d) (r:R a b c d):NV P1 P2 P3 P4 P5 R
theorem Dd {α β γ δ:Type}{B D P3 H I R:α->β->γ->δ->Prop}(h:∃ a b c d,B a b c d/\D a b c d/\P3 a b c d/\H a b c d/\I a b c d/\R a b c d):NV B D P3 H I R:=by obtain ⟨a,b,c,d,J,L,h3,O,V,r⟩:=h;exact ⟨a,b,c,d,J,L,h3,O,V,r⟩
inductive NW {α β γ δ ε:Type}(P1 R:α->β->γ->δ->ε->Prop):Prop
 | mk (a b c d e) (h1:P1 a b c d e) (r:R a b c d e):NW P1 R
theorem Et {α β γ δ ε:Type}{B R:α->β->γ->δ->ε->Prop}(h:∃ a b c d e,B a b c d e/\R a b c d e):NW B R:=by obtain ⟨a,b,c,d,e,D,r⟩:=h;exact ⟨a,b,c,d,e,D,r⟩
inductive NX {α β γ δ ε:Type}(P1 P2 P3 P4 P5 R:α->β->γ->δ->ε->Prop):Prop
 | mk (a b c d e) (h1:P1 a b c d e) (h2:P2 a b c d e) (h3:P3 a b c d e) (h4:P4 a b c d e) (h5:P5 a b c d e) (r:R a b c d e):NX P1 P2 P3 P4 P5 R
theorem Dm {α β γ δ ε:Type}{B D P3 H I R:α->β->γ->δ->ε->Prop}(h:∃ a b c d e,B a b c d e/\D a b c d e/\P3 a b c d e/\H a b c d e/\I a b c d e/\R a b c d e):NX B D P3 H I R:=by obtain ⟨a,b,c,d,e,J,L,h3,O,V,r⟩:=h;exact ⟨a,b,c,d,e,J,L,h3,O,V,r⟩
inductive NY {α β γ δ ε ζ η θ:Type}(P1 R:α->β->γ->δ->ε->ζ->η->θ->Prop):Prop
 | mk (a b c d e f g h) (h1:P1 a b c d e f g h) (r:R a b c d e f g h):NY P1 R
theorem Gh {α β γ δ ε ζ η θ:Type}{B R:α->β->γ->δ->ε->ζ->η->θ->Prop}(h:∃ a b c d e f g h,B a b c d e f g h/\R a b c d e f g h):NY B R:=by obtain ⟨a,b,c,d,e,f,g,h,D,r⟩:=h;exact ⟨a,b,c,d,e,f,g,h,D,r⟩
inductive NZ {α β γ δ ε ζ η θ ι:Type}(P1 R:α->β->γ->δ->ε->ζ->η->θ->ι->Prop):Prop
 | mk (a b c d e f g h i) (h1:P1 a b c d e f g h i) (r:R a b c d e f g h i):NZ P1 R
theorem Eu {α β γ δ ε ζ η θ ι:Type}{B R:α->β->γ->δ->ε->ζ->η->θ->ι->Prop}(h:∃ a b c d e f g h i,B a b c d e f g h i/\R a b c d e f g h i):NZ B R:=by obtain ⟨a,b,c,d,e,f,g,h,i,D,r⟩:=h;exact ⟨a,b,c,d,e,f,g,h,i,D,r⟩
inductive N0 {α β γ δ ε ζ:Type}(P1 R:α->β->γ->δ->ε->ζ->Prop):Prop
 | mk (a b c d e f) (h1:P1 a b c d e f) (r:R a b c d e f):N0 P1 R
theorem Aaa {α β γ δ ε ζ:Type}{B R:α->β->γ->δ->ε->ζ->Prop}(h:∃ a b c d e f,B a b c d e f/\R a b c d e f):N0 B R:=by obtain ⟨a,b,c,d,e,f,D,r⟩:=h;exact ⟨a,b,c,d,e,f,D,r⟩
inductive N1 {α β γ δ ε ζ η:Type}(P1 R:α->β->γ->δ->ε->ζ->η->Prop):Prop
 | mk (a b c d e f g) (h1:P1 a b c d e f g) (r:R a b c d e f g):N1 P1 R
theorem Hh {α β γ δ ε ζ η:Type}{B R:α->β->γ->δ->ε->ζ->η->Prop}(h:∃ a b c d e f g,B a b c d e f g/\R a b c d e f g):N1 B R:=by obtain ⟨a,b,c,d,e,f,g,D,r⟩:=h;exact ⟨a,b,c,d,e,f,g,D,r⟩
end L2
namespace L2
open PySem PySem.Spec PyProof.Rows
abbrev Ar:=Sum Int Str
noncomputable def Ea:Ar->Value->Bool
 | .inl k,v=>Y7 k v
 | .inr x,v=>Yt x v
noncomputable def N2 (w:T6):Ar->Int
 | .inl k=>hashInt k
 | .inr x=>VU w x
theorem Ex:∀{k:Ar}{v:Value},Ea k v=true->(∃ i t,k=Xc i/\v=Vg i t)\/(∃ x t,k=UR x/\v=Vc x t)
 | .inl i,v,h=>by
  obtain ⟨t,e⟩:=Value.isInt_shape (k:=i) (v:=v) h;exact .inl ⟨i,t,rfl,e⟩
 | .inr x,v,h=>by
  obtain ⟨t,e⟩:=wb (x:=x) (v:=v) h;exact .inr ⟨x,t,rfl,e⟩
theorem Aab (i:Int)(t:Tok):Ea (.inl i) (.int i t)=true:=by simp [Ea,Y7]
theorem N3 (x:Str)(t:Tok):Ea (.inr x) (.str x t)=true:=by simp [Ea,Yt]
theorem Aac (a b:Int):decide ((Xc a:Ar)=Xc b)=(a == b):=by
 by_cases e:a=b
 .subst e;simp
 .have h:¬ (Xc a:Ar)=Xc b:=λq=>e (Sum.inl.inj q);rw [decide_eq_false h];exact (beq_eq_false_iff_ne.mpr e).symm
theorem Aad (a b:Str):decide ((UR a:Ar)=UR b)=decide (a=b):=by
 by_cases e:a=b
 .subst e;simp
 .have h:¬ (UR a:Ar)=UR b:=λq=>e (VX q);rw [decide_eq_false h,decide_eq_false e]
theorem Aae (a:Int)(b:Str):decide ((Xc a:Ar)=UR b)=false:=decide_eq_false (λq=>nomatch q)
theorem Aaf (a:Str)(b:Int):decide ((UR a:Ar)=Xc b)=false:=decide_eq_false (λq=>nomatch q)
noncomputable def Bv (prog:Ub)(w:T6):PySem.KeyKind prog w Ar where
 is:=Ea
 hash:=N2 w
 inj:=λv a b ha hb=>by
  rcases Ex ha with ⟨i,t,rfl,rfl⟩ | ⟨x,t,rfl,rfl⟩
  .rcases Ex hb with ⟨j,u,rfl,e⟩ | ⟨y,u,rfl,e⟩
   .injection e with e1 _;rw [e1]
   .exact nomatch e
  .rcases Ex hb with ⟨j,u,rfl,e⟩ | ⟨y,u,rfl,e⟩
   .exact nomatch e
   .injection e with e1 _;rw [e1]
 byValue:=λk v h=>by
  rcases Ex h with ⟨i,t,rfl,rfl⟩ | ⟨x,t,rfl,rfl⟩<;>rfl
 pyHash:=λhv h=>by
  rcases Ex hv with ⟨i,t,rfl,rfl⟩ | ⟨x,t,rfl,rfl⟩
  .exact wpAny_pyHash_int h
  .exact wpAny_pyHash_str h
 eqBool:=λhu hv h=>by
  rcases Ex hu with ⟨i,t,rfl,rfl⟩ | ⟨x,t,rfl,rfl⟩
  .rcases Ex hv with ⟨j,u,rfl,rfl⟩ | ⟨y,u,rfl,rfl⟩
   .rw [Aac] at h;exact wc h
   .rw [Aae] at h;exact we i t y u _ _ _ _ h
  .rcases Ex hv with ⟨j,u,rfl,rfl⟩ | ⟨y,u,rfl,rfl⟩
   .rw [Aaf] at h;exact wg x t j u _ _ _ _ h
   .rw [Aad] at h;exact wpAny_eqBool_str h
 «strs»:=λk x t v h=>by
  rcases Ex h with ⟨i,u,rfl,e⟩ | ⟨y,u,rfl,e⟩
  .exact nomatch e
  .injection e with e1 _;subst e1;cases v<;>rfl
theorem Aag (prog:Ub)(w:T6)(k:Ar)(v:Value):(Bv prog w).is k v=Ea k v:=rfl
theorem Aah (prog:Ub)(w:T6)(i:Int)(t:Tok):(Bv prog w).is (.inl i) (.int i t)=true:=Aab i t
theorem Gi (prog:Ub)(w:T6)(x:Str)(t:Tok):(Bv prog w).is (.inr x) (.str x t)=true:=N3 x t
inductive V where
 | aa | bl (b:Bool) | int (i:Int) | str (x:Str) | cw (b:Array UInt8) | gh (b:UInt64) | ref (a:Addr) | ty (n:String)
 deriving DecidableEq
def AE:V->Value->Prop
 | .aa,u=>u=U8
 | .bl b,u=>u=XO b
 | .int i,u=>∃ t,u=Vg i t
 | .str x,u=>∃ t,u=Vc x t
 | .cw b,u=>∃ t,u=Value.bytes b t
 | .gh b,u=>∃ t,u=Y8 b t
 | .ref a,u=>u=UI a
 | .ty n,u=>u=XQ n
abbrev Ay:List V->List Value->Prop:=Paired AE
theorem Ay.length {xs:List V}{us:List Value}(r:Ay xs us):xs.length=us.length:=Paired.length r
theorem Ay.get:∀{xs:List V}{us:List Value}{i:Nat}{x:V},Ay xs us->xs[i]?=some x->∃ u,us[i]?=some u/\AE x u
 | _,_,_,_,.nil,e=>by simp at e
 | _,_,0,_,.cons r _,e=>by simp at e;subst e;exact ⟨_,rfl,r⟩
 | _,_,i+1,x,.cons _ t,e=>by
  obtain ⟨u,B,D⟩:=Ag (Ay.get (i:=i) (x:=x) t (by simpa using e));exact ⟨u,by simpa using B,D⟩
theorem Ay.set {x:V}{u:Value}(r:AE x u):∀{xs:List V}{us:List Value}(i:Nat),Ay xs us->Ay (xs.set i x) (us.set i u)
 | _,_,_,.nil=>.nil
 | _,_,0,.cons _ t=>.cons r t
 | _,_,i+1,.cons q t=>.cons q (Ay.set r i t)
theorem Ay.append:∀{xs ys:List V}{us ws:List Value},Ay xs us->Ay ys ws->Ay (xs++ys) (us++ws)
 | _,_,_,_,.nil,s=>s
 | _,_,_,_,.cons r t,s=>.cons r (Ay.append t s)
theorem Ay.take:∀{xs:List V}{us:List Value}(n:Nat),Ay xs us->Ay (xs.take n) (us.take n)
 | _,_,0,_=>.nil
 | _,_,_+1,.nil=>.nil
 | _,_,n+1,.cons r t=>.cons r (Ay.take n t)
theorem Ay.drop:∀{xs:List V}{us:List Value}(n:Nat),Ay xs us->Ay (xs.drop n) (us.drop n)
 | _,_,0,r=>r
 | _,_,_+1,.nil=>.nil
 | _,_,n+1,.cons _ t=>Ay.drop n t
def CH:Option V->Option Value->Prop
 | some v,some u=>AE v u
 | none,none=>True
 | _,_=>False
def KV {κ:Type}:List (κ×V)->List (κ×Value)->Prop:=Paired λ(p:κ×V) (q:κ×Value)=>p.1=q.1/\AE p.2 q.2
noncomputable def kV:Ar->V
 | .inl i=>.int i
 | .inr x=>.str x
inductive HO where
 | lst (xs:List V)
 | tup (xs:List V)
 | dK (kvs:List (Ar×V)) | dT (kvs:List (List Ar×V))
 | set (S:Int->Bool) (n:Nat)
 | ins (C dx:Addr) (fs:List (Str×V))
 | own (x:Addr)
 | xd (fs:List (Str×V))
 | met (f x:Addr)
 | cE (lo hi:Int)
 | bX (o:Obj) (u:HO)
 | fF (ps:Array Value)
 | ext (φ:Heap->Prop)
abbrev Hp:=Addr->Option HO
noncomputable def upd (H:Hp)(a:Addr)(o:HO):Hp:=λb=>if b=a then some o else H b
theorem Al {H:Hp}{a:Addr}{o:HO}:upd H a o a=some o:=by unfold upd;rw [if_pos rfl]
theorem Au {H:Hp}{a b:Addr}{o:HO}(h:b≠a):upd H a o b=H b:=by unfold upd;rw [if_neg h]
theorem Hi {H:Hp}{a:Addr}{o u:HO}:upd (upd H a o) a u=upd H a u:=by funext b;unfold upd;split<;>rfl
theorem IT {H:Hp}{a b:Addr}{o u:HO}(h:H a=some o)(h':H b=some u)(d:o≠u):a≠b:=by intro e;subst e;rw [h] at h';exact d (UK h')
theorem B6 {H:Hp}{a b:Addr}{o:HO}(h:H a=some o)(h':H b=none):a≠b:=by intro e;subst e;rw [h] at h';cases h'
section
variable (P:Ub)(w:T6)
def Bl (H:Hp)(h:Heap)(a:Addr):HO->Prop
 | .lst xs=>xs.length<=sizeLine/\∃(its:List Value)(n:Nat),Ay xs its/\h.get? a=some { cls:=.type "list",data:=.seq its.toArray n }
 | .tup xs=>xs.length<=sizeLine/\∃ its:List Value,Ay xs its/\IsTup h a its.toArray
 | .dK kvs=>kvs.length<=sizeLine/\(a == Vq)=false/\∃ vs,KV kvs vs/\h.DictOf (Bv P w) a vs
 | .dT kvs=>kvs.length<=sizeLine/\(a == Vq)=false/\∃ xs:List (List Ar×Addr×Value),
   Paired (λ(p:List Ar×V) (q:List Ar×Addr×Value)=>p.1=q.1/\H q.2.1=some (.tup (p.1.map kV))/\AE p.2 q.2.2) kvs xs /\
   ∃ o es ep,h.get? a=some o/\o.ExactDict/\o.data=.dict es ep/\es.toList=xs.map (entryOfKey (Xw (Bv P w)))/\(xs.map (·.1)).Nodup
 | .set S n=>h.SetOf (intKind P w) a S n
 | .ins C dx fs=>H dx=some (.own a)/\fs.length<=1000/\dx≠a/\h.get? a=some (WB C dx) /\
   ∃ mA,h.Ns1 dx mA/\(∀ f,CH (fs.lookup f) (mA f))/\Y9 mA (fs.map (·.1))
 | .own _=>∃ o,h.get? a=some o
 | .xd fs=>∃ mA,h.Ns1 a mA/\∀ f,CH (fs.lookup f) (mA f)
 | .cE lo hi=>∃ t u v,h.get? a=some { cls:=.type "range",data:=.fields #[.int lo t,.int hi u,.int 1 v] }
 | .bX o u=>h.get? a=some o/\Bl H h a u
 | .fF ps=>h.get? a=some { cls:=.none,data:=.fields ps }
 | .met f x=>h.get? a=some (Za (.ref f) (.ref x))
 | .ext φ=>φ h/\(∃ o,h.get? a=some o)/\∀ h1 h2:Heap,φ h1->(∀ o,h1.get? a=some o->h2.get? a=some o)->φ h2
def AV (H:Hp)(h:Heap):Prop:=∀ a o,H a=some o->Bl P w H h a o
end
section
variable {P:Ub}{w:T6}{H H':Hp}{h h':Heap}{a:Addr}{o:HO}
theorem Bl.lt (x:Bl P w H h a o):a<h.objs.size:=by
 cases o with
 | lst D=>obtain ⟨_,_,_,_,e⟩:=x;exact Ut e
 | tup D=>obtain ⟨_,_,_,p⟩:=x;exact p.lt
 | dK B=>obtain ⟨_,_,_,_,o,_,_,e,_⟩:=AD x;exact Ut e
 | dT B=>obtain ⟨_,_,_,_,o,_,_,e,_⟩:=AD x;exact Ut e
 | set S n=>obtain ⟨o,_,_,_,e,_⟩:=Cj x;exact Ut e
 | ins C dx fs=>obtain ⟨_,_,_,e,_⟩:=AD x;exact Ut e
 | own y=>obtain ⟨_,e⟩:=x;exact Ut e
 | xd fs=>obtain ⟨_,⟨_,_,_,e,_⟩,_⟩:=Ag x;exact Ut e
 | cE lo I=>obtain ⟨_,_,_,e⟩:=x;exact Ut e
 | bX J u=>obtain ⟨e,_⟩:=x;exact Ut e
 | fF L=>exact Ut (show h.get? a=some _ from x)
 | met f y=>exact Ut (show h.get? a=some _ from x)
 | ext φ=>obtain ⟨_,⟨_,e⟩,_⟩:=AD x;exact Ut e
theorem Paired.mj {α β:Type}{F G:α->β->Prop}:∀{B:List α}{D:List β},Paired F B D->(∀ a b,F a b->G a b)->Paired G B D
 | _,_,.nil,_=>.nil
 | _,_,.cons r t,f=>.cons (f _ _ r) (Paired.mj t f)
theorem Bl.eF (x:Bl P w H h a o)(k:∀ b u,(b=a\/H b=some (.own a))->h.get? b=some u->h'.get? b=some u)(V:∀ b,H b=some (.own a)->H' b=some (.own a))(Y:∀ b xs,H b=some (.tup xs)->H' b=some (.tup xs)):Bl P w H' h' a o:=by
 induction o with
 | lst xs=>obtain ⟨z,its,n,r,e⟩:=x;exact ⟨z,its,n,r,k _ _ (.inl rfl) e⟩
 | tup xs=>obtain ⟨z,its,r,B,e,c⟩:=x;exact ⟨z,its,r,B,k _ _ (.inl rfl) e,c⟩
 | dK I=>obtain ⟨z,y,vs,r,B,es,D,e,c⟩:=AD x;exact ⟨z,y,vs,r,B,es,D,k _ _ (.inl rfl) e,c⟩
 | dT I =>
  obtain ⟨z,y,xs,r,B,es,D,e,c⟩:=AD x;exact ⟨z,y,xs,Paired.mj r λp q z=>⟨z.1,Y _ _ z.2.1,z.2.2⟩,B,es,D,k _ _ (.inl rfl) e,c⟩
 | set S n=>obtain ⟨B,es,D,t,e,c⟩:=Cj x;exact ⟨B,es,D,t,k _ _ (.inl rfl) e,c⟩
 | ins C dx fs =>
  obtain ⟨d,z,ne,e,J,⟨L,es,D,e2,c⟩,r⟩:=AD x;exact ⟨V _ d,z,ne,k _ _ (.inl rfl) e,J,⟨L,es,D,k _ _ (.inr d) e2,c⟩,r⟩
 | own y=>obtain ⟨B,e⟩:=x;exact ⟨B,k _ _ (.inl rfl) e⟩
 | xd fs=>obtain ⟨J,⟨L,es,D,e,c⟩,r⟩:=Ag x;exact ⟨J,⟨L,es,D,k _ _ (.inl rfl) e,c⟩,r⟩
 | cE lo hi=>obtain ⟨t,u,v,e⟩:=x;exact ⟨t,u,v,k _ _ (.inl rfl) e⟩
 | bX B u ih=>obtain ⟨e,q⟩:=x;exact ⟨k _ _ (.inl rfl) e,ih q⟩
 | fF O =>
  have e:h.get? a=some { cls:=.none,data:=.fields O }:=x;show h'.get? a=some { cls:=.none,data:=.fields O };exact k a _ (.inl rfl) e
 | met f y =>
  have e:h.get? a=some (Za (.ref f) (.ref y)):=x;show h'.get? a=some (Za (.ref f) (.ref y));exact k a _ (.inl rfl) e
 | ext φ=>obtain ⟨p,⟨o,e⟩,st⟩:=AD x;exact ⟨st _ _ p λo q=>k _ _ (.inl rfl) q,⟨o,k _ _ (.inl rfl) e⟩,st⟩
theorem AV.lt (x:AV P w H h)(e:H a=some o):a<h.objs.size:=(x a o e).lt
theorem AV.fresh (x:AV P w H h)(e:h.objs.size<=a):H a=none:=by
 cases q:H a with
 | none=>rfl
 | some u=>exact absurd (UN (x.lt q) e) (VA _)
theorem AV.kept (x:AV P w H h)(k:∀ b u,h.get? b=some u->h'.get? b=some u):AV P w H h':=λa o e =>
 (x a o e).eF (λb u _ q=>k b u q) (λ_ q=>q) λ_ _ q=>q
theorem AV.laid (x:AV P w H h)(k:∀ b u,h.get? b=some u->h'.get? b=some u)(D:h.objs.size<=a)(new:Bl P w (upd H a o) h' a o):AV P w (upd H a o) h':=λb u e=>by
 have B:=x.fresh D;by_cases hb:b=a
 .subst hb;rw [Al] at e;cases e;exact new
 .rw [Au hb] at e;exact (x b u e).eF (λc v _ q=>k c v q) (λc q=>by rw [Au (B6 q B)];exact q) λc I q=>by rw [Au (B6 q B)];exact q
end
def Rd (H:Hp)(a:Addr)(u:HO):Prop:=H a=some u\/∃ o,H a=some (.bX o u)
theorem Rd.ok {P:Ub}{w:T6}{H:Hp}{h:Heap}{a:Addr}{u:HO}(r:Rd H a u)(x:AV P w H h):Bl P w H h a u:=by
 rcases r with r | ⟨o,r⟩
 .exact x a u r
 .obtain ⟨_,q⟩:=x a _ r;exact q
def Hj:Option HO->Prop
 | some (.lst _)=>True
 | some (.dK _)=>True
 | some (.dT _)=>True
 | some (.set _ _)=>True
 | some (.ins _ _ _)=>True
 | some (.ext _)=>True
 | _=>False
section
variable {P:Ub}{w:T6}{H:Hp}{h h':Heap}{x e:Addr}{o':HO}
theorem AV.write (ok:AV P w H h)(B:Hj (H x))(L:e=x\/H e=some (.own x))(k:∀ b u,b≠e->h.get? b=some u->h'.get? b=some u)(Y:∃ u,h'.get? e=some u)(new:Bl P w (upd H x o') h' x o'):AV P w (upd H x o') h':=λb u q=>by
 have O:∀ c y,H c=some (.own y)->c≠x:=λc y r z=>by subst z;rw [r] at B;exact B
 have J:∀ c D,H c=some (.tup D)->c≠x:=λc D r z=>by subst z;rw [r] at B;exact B
 by_cases hb:b=x
 .subst hb;rw [Al] at q;cases q;exact new
 .rw [Au hb] at q;by_cases I:b=e
  .have V:H b=some (.own x):=by
    rcases L with z | z
    .exact absurd (I.trans z) hb
    .rw [I];exact z
   rw [q] at V;cases V;obtain ⟨v,hv⟩:=Y;exact ⟨v,by rw [I];exact hv⟩
  .refine (ok b u q).eF (λc v hc r=>k c v ?_ r) (λc r=>by rw [Au (O c b r)];exact r) λc D r=>by rw [Au (J c D r)];exact r
   rcases hc with rfl | hc
   .exact I
   .rintro rfl;rcases L with z | z
    .exact O c b hc z
    .rw [hc] at z;cases z;exact hb rfl
end
structure Un (fs ex:List Addr)(H H':Hp)(h h':Heap):Prop where
 keep:∀ b o,h.get? b=some o->H b=none->b ∉ fs->b ∉ ex->h'.get? b=some o
 slot:∀ b o,h.get? b=some o->H b=none->b∈fs->b ∉ ex->∃ sl,h'.get? b=some { o with slots:=sl }
 free:∀ b o,h.get? b=some o->H b=none->b ∉ ex->H' b=none
 there:∀ b o,h.get? b=some o->b ∉ ex->∃ o',h'.get? b=some o'
 ai:∀ b xs,H b=some (.tup xs)->H' b=some (.tup xs)
 cR:∀ b o u,H b=some (.bX o u)->H' b=some (.bX o u)
 cX:∀ b ps,H b=some (.fF ps)->∃ more,H' b=some (.fF (ps++more))
section
variable {fs qJ ex ex':List Addr}{H H1 H2:Hp}{h h1 h2 h':Heap}{a x e:Addr}{o:HO}
theorem Un.any (u:Un fs ex H H1 h h1){b:Addr}{B:Obj}(q:h.get? b=some B)(n:H b=none)(hx:b ∉ ex):∃ D,h1.get? b=some { B with slots:=D }:=by
 by_cases hb:b∈fs
 .exact u.slot b B q n hb hx
 .exact ⟨B.slots,u.keep b B q n hb hx⟩
theorem Un.kept (k:∀ b u,h.get? b=some u->h'.get? b=some u):Un fs ex H H h h' :=
 ⟨λb B q _ _ _=>k b B q,λb B q _ _ _=>⟨B.slots,k b B q⟩,λ_ _ _ n _=>n,λb B q _=>⟨B,k b B q⟩,λ_ _ q=>q,λ_ _ _ q=>q,λ_ D q=>⟨#[],by rw [q];simp⟩⟩
theorem Un.refl:Un fs ex H H h h:=Un.kept λ_ _ q=>q
theorem Un.laid (k:∀ b u,h.get? b=some u->h'.get? b=some u)(D:h.objs.size<=a)(B:H a=none):Un fs ex H (upd H a o) h h' where
 keep:=λb u q _ _ _=>k b u q
 slot:=λb u q _ _ _=>⟨u.slots,k b u q⟩
 free:=λb u q n _=>by rw [Au (UB (UN (Ut q) D))];exact n
 there:=λb u q _=>⟨u,k b u q⟩
 ai:=λb I q=>by rw [Au (B6 q B)];exact q
 cR:=λb u I q=>by rw [Au (B6 q B)];exact q
 cX:=λb J q=>⟨#[],by rw [Au (B6 q B),q];simp⟩
theorem Un.write (B:Hj (H x))(J:e=x\/H e=some (.own x))(k:∀ b u,b≠e->h.get? b=some u->h'.get? b=some u)(L:∃ u,h'.get? e=some u):Un fs ex H (upd H x o) h h':=by
 have hx:∀ b,H b=none->b≠x:=λb n z=>by subst z;rw [n] at B;exact B
 have hb:∀ b,H b=none->b≠e:=λb n z=>by
  subst z;rcases J with r | r
  .exact hx b n r
  .rw [n] at r;cases r
 have D:∀ b u,H b=some u->¬ Hj (some u)->b≠x:=λb u q nm z=>by subst z;rw [q] at B;exact nm B
 refine ⟨λb u q n _ _=>k b u (hb b n) q,λb u q n _ _=>⟨u.slots,k b u (hb b n) q⟩,λb u q n _=>by rw [Au (hx b n)];exact n,λb u q _=>?_,
  λb O q=>by rw [Au (D b _ q λz=>z)];exact q,λb u O q=>by rw [Au (D b _ q λz=>z)];exact q,λb V q=>⟨#[],by rw [Au (D b _ q λz=>z),q];simp⟩⟩
 by_cases I:b=e
 .subst I;exact L
 .exact ⟨u,k b u I q⟩
end
noncomputable def IU (h:Heap)(H:Hp):List Addr:=(Vj h.objs.size).filter λa=>(H a).isSome
def Ey (h:Heap)(H:Hp):Heap:=Yu h (IU h H)
theorem Aai (h:Heap)(H:Hp):(Ey h H).objs.size=h.objs.size:=PySem.W.hideAll_size _ _
theorem Aaj {h:Heap}{H:Hp}{b:Addr}{o:Obj}(e:h.get? b=some o)(n:H b=none):(Ey h H).get? b=some o :=
 XR _ e λB=>by
  have q:(H b).isSome=true:=(Xx.mp B).2;rw [n] at q;simp at q
theorem Aak {h:Heap}{H:Hp}{b:Addr}{o:Obj}(e:(Ey h H).get? b=some o):h.get? b=some o/\H b=none:=by
 have B:h.get? b=some o:=wj (IU h H) e;refine ⟨B,?_⟩;cases q:H b with
 | none=>rfl
 | some x =>
  have D:b∈IU h H:=Xx.mpr ⟨Vr.mpr (Ut B),by simp [q]⟩;have z:(Ey h H).get? b=none:=PySem.W.hideAll_none (IU h H) D;rw [z] at e;cases e
structure Mod (K:T3)(mg:Str->Option Value)(base:Heap):Prop where
 eJ:K.In base
 glob:base.Ns Ux mg
 blt:∃ mb,base.Ns Zb mb/\∀ x:Str,x≠"__name__"->mb x=U9 x
 nolimit:base.NoLimit
structure Cx where
 prog:Ub
 w:T6
 K:T3
 mg:Str->Option Value
 base:Heap
 A:Us
 N:List Str
 s₀:T2
 H₀:Hp
 env:Env
 outer:List Env
 stack:List Env
 ex:List Addr
 fn:Str->Bool
 calm:Bool
 pn:List (Addr×Obj)
 xe:Value->T2->Prop
noncomputable def CM (l:List Env):List Addr:=l.filterMap (·.frame)
abbrev Cx.fs (X:Cx):List Addr:=CM X.outer
def Gj (sc:Scope)(x:Str):Prop:=sc.names.lookup x=some .local\/sc.names.lookup x=some .cell\/sc.names.lookup x=some .free
def Hk (sc:Scope)(x:Str):Prop:=sc.names.lookup x=some .local\/sc.names.lookup x=some .cell
def N4 (env:Env)(h:Heap)(m:Str->Option Value)(x:Str)(u:Value):Prop :=
 (env.kindOf x=some .local/\m x=some u)\/((env.kindOf x=some .cell\/env.kindOf x=some .free)/\∃ c,env.cells.lookup x=some c/\h.IsCell c (some u))
structure Cx.Ok (X:Cx):Prop where
 mod:Mod X.K X.mg X.base
 kind:X.env.scope.kind=.function
 glob:X.env.globals=Ux
 blt:X.env.builtins=Zb
 above:X.s₀.heap.objs.size<=X.env.locals
 inj:∀ x y c,X.env.cells.lookup x=some c->X.env.cells.lookup y=some c->x=y
 has:∀ x,(X.env.kindOf x=some .cell\/X.env.kindOf x=some .free)->∃ c,X.env.cells.lookup x=some c
 dG:∀ x c,X.fn x=true->X.env.cells.lookup x=some c->X.s₀.heap.objs.size<=c
 hd:X.calm=true->X.A.handled=none
 frames:X.A.frames=some X.stack
 bJ:X.stack=X.outer\/(X.stack=X.env :: X.outer/\X.env.frame=some X.env.locals)
 dH:∀ b∈X.ex,b≠X.env.locals/\∀ x c,X.env.cells.lookup x=some c->c≠b
 bs:∀ b o,X.base.get? b=some o->X.s₀.heap.get? b=some o/\X.H₀ b=none
 cF:X.base.objs.size<=X.s₀.heap.objs.size
 dI:∀ b o,X.base.get? b=some o->b ∉ X.ex
 cS:∀ b∈X.ex,b ∉ X.fs
 bK:X.s₀.heap.FunFrames X.base X.outer
 cT:∀ b∈X.fs,X.H₀ b=none
structure Ad (X:Cx)(pins:List (Addr×Obj))(σ:List (Option V))(H:Hp)(s:T2):Prop where
 ok:X.Ok
 os:s.os=X.s₀.os
 bare:We s.gens
 base:Un X.fs X.ex X.H₀ H X.s₀.heap s.heap
 loc:∃ m,s.heap.Ns X.env.locals m/\∀(i:Nat)(x:Str)(v:V),X.N[i]?=some x->σ[i]?=some (some v)->Gj X.env.scope x->∃ u,AE v u/\N4 X.env s.heap m x u
 cell:∀ x c,X.env.cells.lookup x=some c->∃ v,s.heap.IsCell c v
 free:H X.env.locals=none
 bL:∀ x c,X.env.cells.lookup x=some c->H c=none
 pin:∀ p∈X.pn++pins,s.heap.get? p.1=some p.2/\H p.1=none/\p.1≠X.env.locals/\p.1 ∉ X.fs/\∀ v,p.2.data≠.cell v
 af:AV X.prog X.w H s.heap
 len:σ.length=X.N.length
section
variable {X:Cx}{pins:List (Addr×Obj)}{σ:List (Option V)}{H H':Hp}{s:T2}{h':Heap}
theorem Cx.Ok.aab (ok:X.Ok){b:Addr}{o:Obj}(e:X.base.get? b=some o):b ∉ X.fs:=λhb=>by
 have:=(ok.bK.mem hb).1;rw [e] at this;cases this
theorem Ad.bs (I:Ad X pins σ H s):∀ b o,X.base.get? b=some o->s.heap.get? b=some o/\H b=none:=λb o e =>
 ⟨I.base.keep b o (I.ok.bs b o e).1 (I.ok.bs b o e).2 (I.ok.aab e) (I.ok.dI b o e),I.base.free b o (I.ok.bs b o e).1 (I.ok.bs b o e).2 (I.ok.dI b o e)⟩
theorem Ad.bk (I:Ad X pins σ H s):∀ b o,X.base.get? b=some o->s.heap.get? b=some o:=λb o e=>(I.bs b o e).1
theorem Ad.mod (I:Ad X pins σ H s):Mod X.K X.mg X.base:=I.ok.mod
theorem Ad.aJ (I:Ad X pins σ H s):X.K.In s.heap:=I.ok.mod.eJ.keeps I.bk
theorem Ad.lt (I:Ad X pins σ H s):X.env.locals<s.heap.objs.size:=let ⟨_,B,_⟩:=I.loc;B.lt
theorem Ad.sz (I:Ad X pins σ H s):X.s₀.heap.objs.size<=s.heap.objs.size:=U7 I.ok.above (Zc I.lt)
theorem Ad.aac (I:Ad X pins σ H s){a:Addr}(h:s.heap.objs.size<=a):a ∉ X.fs:=λhb=>by
 obtain ⟨_,o,B,_⟩:=I.ok.bK.mem hb;exact absurd (UN (Ut B) (U7 I.sz h)) (VA _)
theorem Ad.eK (I:Ad X pins σ H s):∀ x c,X.env.cells.lookup x=some c->c≠X.env.locals:=λx c e z=>by
 obtain ⟨v,o,B,hd⟩:=AQ (I.cell x c e);obtain ⟨m,⟨L,es,O,D,J,_⟩,_⟩:=Ag I.loc;rw [z,D] at B;cases B;rw [J] at hd;cases hd
theorem Ad.bK (I:Ad X pins σ H s):s.heap.FunFrames X.base X.outer:=by
 have all:∀(l:List Env),(∀ b∈CM l,b∈X.fs)->X.s₀.heap.FunFrames X.base l->s.heap.FunFrames X.base l:=by
  intro l;induction l with
  | nil=>intro _ _;trivial
  | cons env r ih =>
   intro hs J;obtain ⟨hk,⟨L,o,B,O,Y,hd⟩,hr⟩:=AD J;have D:L∈X.fs:=hs L (by unfold CM;rw [Zd,B];exact UY);obtain ⟨sl,e⟩:=I.base.slot L o Y (I.ok.cT L D) D λz=>I.ok.cS L z D;exact ⟨hk,⟨L,_,B,O,e,hd⟩,ih (λb hb=>hs b (by unfold CM;rw [Zd,B];exact UO _ hb)) hr⟩
 exact all X.outer (λ_ hb=>hb) I.ok.bK
theorem Ad.stack (I:Ad X pins σ H s):s.heap.FunFrames X.base X.stack:=by
 rcases I.ok.bJ with e | ⟨e,B⟩
 .rw [e];exact I.bK
 .rw [e];obtain ⟨m,D,_⟩:=Ag I.loc;refine .cons (by rw [I.ok.kind];decide) B D ?_ I.bK;exact Heap.get?_none_of_le (U7 I.ok.cF I.ok.above)
theorem Ad.cZ (I:Ad X pins σ H s):∀ b∈CM X.stack,b∈X.env.locals :: X.fs:=λb hb=>by
 rcases I.ok.bJ with e | ⟨e,B⟩
 .rw [e] at hb;exact UO _ hb
 .rw [e] at hb;unfold CM at hb;rw [Zd,B] at hb;exact hb
theorem Ad.mB (I:Ad X pins σ H s):∀ b∈CM X.stack,H b=none:=λb hb=>by
 rcases Uo.mp (I.cZ b hb) with e | hb
 .rw [e];exact I.free
 .obtain ⟨_,o,B,_⟩:=I.ok.bK.mem hb;exact I.base.free b o B (I.ok.cT b hb) λz=>I.ok.cS b z hb
theorem Ad.step {g':Array XS}{t':Nat}{d':Drawn}{ch:List Addr}(I:Ad X pins σ H s)(L:∀ b∈ch,(b∈X.ex\/X.s₀.heap.objs.size<=b)/\b≠X.env.locals/\(∀ x c,X.env.cells.lookup x=some c->c≠b)/\∀ p∈X.pn++pins,p.1≠b)(keep:∀ b o,b≠X.env.locals->b ∉ X.fs->b ∉ ch->s.heap.get? b=some o->H b=none->h'.get? b=some o)(slot:∀ b o,b≠X.env.locals->b∈X.fs->b ∉ ch->s.heap.get? b=some o->H b=none->∃ sl,h'.get? b=some { o with slots:=sl })(free:∀ b o,b ∉ ch->s.heap.get? b=some o->H b=none->H' b=none)(there:∀ b o,b ∉ ch->s.heap.get? b=some o->∃ o',h'.get? b=some o')(ai:∀ b xs,H b=some (.tup xs)->H' b=some (.tup xs))(cR:∀ b o u,H b=some (.bX o u)->H' b=some (.bX o u))(cX:∀ b ps,H b=some (.fF ps)->∃ more,H' b=some (.fF (ps++more)))(ns:∀ m,s.heap.Ns X.env.locals m->h'.Ns X.env.locals m)(af:AV X.prog X.w H' h')(hg:We g') :
  Ad X pins σ H' { s with heap:=h',gens:=g',drawn:=d',toks:=t' }:=by
 have de:∀ b o,X.s₀.heap.get? b=some o->b≠X.env.locals:=λb o e=>UB (UN (Ut e) I.ok.above);have kj:∀ b o,X.s₀.heap.get? b=some o->b ∉ X.ex->b ∉ ch:=λb o e hx hb=>by
  rcases (L b hb).1 with z | z
  .exact hx z
  .exact absurd (UN (Ut e) z) (VA _)
 have B:∀ x c,X.env.cells.lookup x=some c->∀ v,s.heap.IsCell c v->h'.IsCell c v:=λx c e v zz=>CL zz λo J hd=>by
  have O:c ∉ ch:=λz=>(L c z).2.2.1 x c e rfl;by_cases hc:c∈X.fs
  .obtain ⟨sl,q⟩:=slot c o (I.eK x c e) hc O J (I.bL x c e);exact ⟨_,q,hd⟩
  .exact ⟨o,keep c o (I.eK x c e) hc O J (I.bL x c e),hd⟩
 refine ⟨I.ok,I.os,hg,⟨λb o e n hb hx=>?_,λb o e n hb hx=>?_,λb o e n hx=>?_,λb o e hx=>?_,λb xs e=>ai b xs (I.base.ai b xs e),λb o xs e=>cR b o xs (I.base.cR b o xs e),λb ps e=>?_⟩,?_,λx c e=>?_,?_,λx c e=>?_,λp hp=>?_,af,I.len⟩
 .exact keep b o (de b o e) hb (kj b o e hx) (I.base.keep b o e n hb hx) (I.base.free b o e n hx)
 .obtain ⟨sl,D⟩:=I.base.slot b o e n hb hx;obtain ⟨gY,Y⟩:=slot b _ (de b o e) hb (kj b o e hx) D (I.base.free b o e n hx);exact ⟨gY,Y⟩
 .obtain ⟨o',D⟩:=I.base.there b o e hx;exact free b o' (kj b o e hx) D (I.base.free b o e n hx)
 .obtain ⟨o',D⟩:=I.base.there b o e hx;exact there b o' (kj b o e hx) D
 .obtain ⟨m1,D⟩:=I.base.cX b ps e;obtain ⟨m2,Y⟩:=cX b _ D;exact ⟨m1++m2,by rw [Y,Array.append_assoc]⟩
 .obtain ⟨m,hn,hl⟩:=Ag I.loc;refine ⟨m,ns m hn,λi x v D Y e3=>?_⟩;obtain ⟨u,r,l⟩:=Ag (hl i x v D Y e3);refine ⟨u,r,?_⟩;rcases l with l | ⟨k,c,e,z⟩
  .exact .inl l
  .exact .inr ⟨k,c,e,B x c e _ z⟩
 .obtain ⟨v,z⟩:=I.cell x c e;exact ⟨v,B x c e v z⟩
 .obtain ⟨m,⟨o,_,_,J,_⟩,_⟩:=Ag I.loc;exact free _ o (λz=>(L _ z).2.1 rfl) J I.free
 .obtain ⟨v,o,J,hd⟩:=AQ (I.cell x c e);exact free c o (λz=>(L c z).2.2.1 x c e rfl) J (I.bL x c e)
 .obtain ⟨e,n,ne,nf,d⟩:=AD (I.pin p hp);have O:p.1 ∉ ch:=λz=>(L p.1 z).2.2.2 p hp rfl;exact ⟨keep p.1 p.2 ne nf O e n,free p.1 p.2 O e n,ne,nf,d⟩
theorem Ad.un {t':Nat}(I:Ad X pins σ H s)(u:Un X.fs [] H H' s.heap h')(L:AV X.prog X.w H' h'):Ad X pins σ H' { s with heap:=h',toks:=t' }:=by
 obtain ⟨m,⟨o,es,ep,D,r⟩,_⟩:=Ag (id I.loc);obtain ⟨sl,O⟩:=u.any D I.free (by simp);exact I.step (g':=s.gens) (d':=s.drawn) (ch:=[]) (λ_ z=>nomatch z) (λb o _ hb _ e n=>u.keep b o e n hb (by simp)) (λb o _ hb _ e n=>u.slot b o e n hb (by simp)) (λb o _ e n=>u.free b o e n (by simp)) (λb o _ e=>u.there b o e (by simp)) u.ai u.cR u.cX (λm' Y=>by
  obtain ⟨o',B,mD,J,r'⟩:=BI Y;rw [D] at J;cases J;exact ⟨_,B,mD,O,r'⟩) L I.bare
theorem Ad.call {g':Array XS}{t':Nat}{d':Drawn}{ch:List Addr}(I:Ad X pins σ H s)(u:Un (CM X.stack) ch H H' s.heap h')(Y:AV X.prog X.w H' h')(hg:We g')(J:∀ b∈ch,(b∈X.ex\/X.s₀.heap.objs.size<=b)/\b≠X.env.locals/\(∀ x c,X.env.cells.lookup x=some c->c≠b)/\∀ p∈X.pn++pins,p.1≠b) :
  Ad X pins σ H' { s with heap:=h',gens:=g',drawn:=d',toks:=t' }:=by
 obtain ⟨m,⟨o,es,ep,L,r⟩,_⟩:=Ag (id I.loc);obtain ⟨sl,B⟩:=u.any L I.free λz=>(J _ z).2.1 rfl;exact I.step (ch:=ch) J (λb o B hb hc e n=>u.keep b o e n (λz=>(Uo.mp (I.cZ b z)).elim B hb) hc) (λb o _ _ hc e n=>u.any e n hc) (λb o hc e n=>u.free b o e n hc) (λb o hc e=>u.there b o e hc) u.ai u.cR u.cX (λm' hm=>by
  obtain ⟨o',D,mD,O,r'⟩:=BI hm;rw [L] at O;cases O;exact ⟨_,D,mD,B,r'⟩) Y hg
theorem Ad.turned {t':Nat}{it:Addr}(I:Ad X pins σ H s)(k:∀ b o,b≠it->s.heap.get? b=some o->h'.get? b=some o)(J:H it=none)(B:it≠X.env.locals)(L:it∈X.ex\/X.s₀.heap.objs.size<=it)(O:∀ x c,X.env.cells.lookup x=some c->c≠it)(h3:∀ p∈X.pn++pins,p.1≠it):Ad X pins σ H { s with heap:=h',toks:=t' }:=by
 have D:∀ b u,H b=some u->b≠it:=λb u e z=>by rw [z,J] at e;cases e
 refine I.step (g':=s.gens) (d':=s.drawn) (ch:=[it]) (λb hb=>?_) (λb o _ _ hc e _=>k b o (λz=>hc (by simp [z])) e) (λb o _ _ hc e _=>⟨o.slots,k b o (λz=>hc (by simp [z])) e⟩) (λ_ _ _ _ n=>n)
  (λb o hc e=>⟨o,k b o (λz=>hc (by simp [z])) e⟩) (λ_ _ e=>e) (λ_ _ _ e=>e) (λb ps e=>⟨#[],by rw [e];simp⟩) (λm Y=>?_) (λb u e=>?_) I.bare
 .have e:b=it:=by simpa using hb
  subst e;exact ⟨L,B,O,h3⟩
 .obtain ⟨o,es,ep,ho,r⟩:=BI Y;exact ⟨o,es,ep,k _ o (UQ B) ho,r⟩
 .refine (I.af b u e).eF (λc v hc q=>k c v ?_ q) (λ_ q=>q) λ_ _ q=>q;rcases hc with z | z
  .rw [z];exact D b u e
  .exact D c _ z
theorem Ad.tok (I:Ad X pins σ H s)(t:Nat):Ad X pins σ H { s with toks:=t }:=I.un (h':=s.heap) (t':=t) Un.refl I.af
theorem Ad.kept {t':Nat}(I:Ad X pins σ H s)(k:∀ b u,s.heap.get? b=some u->h'.get? b=some u):Ad X pins σ H { s with heap:=h',toks:=t' }:=I.un (Un.kept k) (I.af.kept k)
theorem Ad.laid {a:Addr}{o:HO}{t':Nat}(I:Ad X pins σ H s)(k:∀ b u,s.heap.get? b=some u->h'.get? b=some u)(B:s.heap.objs.size<=a)(new:Bl X.prog X.w (upd H a o) h' a o) :
  Ad X pins σ (upd H a o) { s with heap:=h',toks:=t' }:=I.un (Un.laid k B (I.af.fresh B)) (I.af.laid k B new)
theorem Ad.write {x e:Addr}{o:HO}{t':Nat}(I:Ad X pins σ H s)(B:Hj (H x))(D:e=x\/H e=some (.own x))(k:∀ b u,b≠e->s.heap.get? b=some u->h'.get? b=some u)(J:∃ u,h'.get? e=some u)(new:Bl X.prog X.w (upd H x o) h' x o):Ad X pins σ (upd H x o) { s with heap:=h',toks:=t' }:=I.un (Un.write B D k J) (I.af.write B D k J new)
theorem Ad.qL {dJ:List (Addr×Obj)}(I:Ad X pins σ H s)(h:∀ p∈dJ,s.heap.get? p.1=some p.2/\H p.1=none/\p.1≠X.env.locals/\p.1 ∉ X.fs/\∀ v,p.2.data≠.cell v):Ad X dJ σ H s :=
 ⟨I.ok,I.os,I.bare,I.base,I.loc,I.cell,I.free,I.bL,λp B=>(UU.mp B).elim (λz=>I.pin p (Yv _ z)) (h p),I.af,I.len⟩
theorem KY {N:List Str}(B:N.Nodup){i j:Nat}{x:Str}(a:N[i]?=some x)(b:N[j]?=some x):i=j:=by obtain ⟨J,D⟩:=US.mp a;obtain ⟨L,I⟩:=US.mp b;exact (XT B).mp (D.trans I.symm)
theorem N5 {M:WC}{A:Us}{E:Value->T2->Prop}{i:Nat}{x:Str}{v:V}{u:Value}{Q:Unit->T2->Prop}(I:Ad X pins σ H s)(hN:X.N.Nodup)(O:X.N[i]?=some x)(hx:Hk X.env.scope x)(r:AE v u)(h:∀ s',Ad X pins (σ.set i (some v)) H s'->(∃ a,U4 a s.heap s'.heap/\(a=X.env.locals\/X.env.cells.lookup x=some a))->Q () s')(hf:X.fn x=true\/X.env.scope.names.lookup x=some .local:=by first | exact .inl rfl | exact .inr rfl | assumption):T5 M A (storeName X.env x u) Q E s:=by
 obtain ⟨m,hn,hl⟩:=Ag (id I.loc);have aad:(X.env.scope.kind == .class || (X.env.scope.kind == .module && X.env.locals != X.env.globals))=false:=by rw [I.ok.kind];rfl
 have qM:i<σ.length:=by rw [I.len];exact (US.mp O).1
 have eK:=I.eK;have B:∀{a:Addr}{h':Heap},(∃ o,s.heap.get? a=some o/\H a=none)->U4 a s.heap h'->AV X.prog X.w H h':=λ{a h'} ha hs b ob e=>by
  obtain ⟨_,_,qN⟩:=Ag ha;refine (I.af b ob e).eF (λc Y hc q=>(hs.2 c ?_).trans q) (λ_ q=>q) λ_ _ q=>q;rintro rfl;rcases hc with rfl | hc
  .rw [qN] at e;cases e
  .rw [qN] at hc;cases hc
 rcases hx with hk | hk
 .refine wpAny_storeName_local hk hn (λh' mE hs=>?_) aad;obtain ⟨oL,_,_,hoL,_⟩:=BI (id hn);refine h _ ⟨I.ok,I.os,I.bare,⟨λb o e n hb hx=>?_,λb o e n hb hx=>?_,I.base.free,λb o e hx=>?_,I.base.ai,I.base.cR,I.base.cX⟩,⟨_,mE,λj y v' D J e3=>?_⟩,λy c e=>?_,I.free,I.bL,λp hp=>?_,B ⟨oL,hoL,I.free⟩ hs,by simpa using I.len⟩ ⟨_,hs,.inl rfl⟩
  .exact (hs.2 b (UB (UN (Ut e) I.ok.above))).trans (I.base.keep b o e n hb hx)
  .obtain ⟨sl,D⟩:=I.base.slot b o e n hb hx;exact ⟨sl,(hs.2 b (UB (UN (Ut e) I.ok.above))).trans D⟩
  .obtain ⟨o',D⟩:=I.base.there b o e hx;exact ⟨o',(hs.2 b (UB (UN (Ut e) I.ok.above))).trans D⟩
  .by_cases L:j=i
   .subst L;rw [O] at D;cases D;rw [Xy qM] at J;cases J;exact ⟨u,r,.inl ⟨hk,by simp⟩⟩
   .rw [V5 (UQ L)] at J;obtain ⟨u',r',q⟩:=Ag (hl j y v' D J e3);refine ⟨u',r',?_⟩;rcases q with ⟨k,e⟩ | ⟨k,c,e,z⟩
    .refine .inl ⟨k,?_⟩;have:y≠x:=λe=>L (KY hN D (e▸O));simp [this,e]
    .exact .inr ⟨k,c,e,z.sameBut hs (eK y c e)⟩
  .obtain ⟨Y,z⟩:=I.cell y c e;exact ⟨Y,z.sameBut hs (eK y c e)⟩
  .obtain ⟨e,n,ne,nf,d⟩:=AD (I.pin p hp);exact ⟨(hs.2 p.1 ne).trans e,n,ne,nf,d⟩
 .have mF:X.fn x=true:=by
   rcases hf with z | z
   .exact z
   .rw [z] at hk;cases hk
  obtain ⟨c,hc⟩:=I.ok.has x (.inl hk);obtain ⟨Y,z⟩:=I.cell x c hc;refine wpAny_storeName_cell I.ok.kind hk hc z (λh' qO hs=>?_);obtain ⟨oc,qP,aae⟩:=Ag (id z);refine h { s with heap:=h' } ⟨I.ok,I.os,I.bare,⟨λb o e n hb hx=>?_,λb o e n hb hx=>?_,I.base.free,λb o e hx=>?_,I.base.ai,I.base.cR,I.base.cX⟩,⟨m,hn.sameBut hs (UQ (eK x c hc)),λj y v' D J e3=>?_⟩,λy c' e=>?_,I.free,I.bL,λp hp=>?_,B ⟨oc,qP,I.bL x c hc⟩ hs,by simpa using I.len⟩ ⟨c,hs,.inr hc⟩
  .exact (hs.2 b (UB (UN (Ut e) (I.ok.dG x c mF hc)))).trans (I.base.keep b o e n hb hx)
  .obtain ⟨sl,D⟩:=I.base.slot b o e n hb hx;exact ⟨sl,(hs.2 b (UB (UN (Ut e) (I.ok.dG x c mF hc)))).trans D⟩
  .obtain ⟨o',D⟩:=I.base.there b o e hx;exact ⟨o',(hs.2 b (UB (UN (Ut e) (I.ok.dG x c mF hc)))).trans D⟩
  .by_cases L:j=i
   .subst L;rw [O] at D;cases D;rw [Xy qM] at J;cases J;exact ⟨u,r,.inr ⟨.inl hk,c,hc,qO⟩⟩
   .rw [V5 (UQ L)] at J;obtain ⟨u',r',q⟩:=Ag (hl j y v' D J e3);refine ⟨u',r',?_⟩;rcases q with q | ⟨k,c',e,z'⟩
    .exact .inl q
    .refine .inr ⟨k,c',e,z'.sameBut hs ?_⟩;rintro rfl;exact L (KY hN D (I.ok.inj _ _ _ e hc▸O))
  .by_cases km:c'=c
   .subst km;exact ⟨_,qO⟩
   .obtain ⟨w2,z2⟩:=I.cell y c' e;exact ⟨w2,z2.sameBut hs km⟩
  .obtain ⟨e,n,ne,nf,d⟩:=AD (I.pin p hp);refine ⟨(hs.2 p.1 ?_).trans e,n,ne,nf,d⟩;intro q;rw [q,qP] at e;have q':oc=p.2:=UK e;exact d Y (by rw [<- q'];exact aae)
theorem KZ {M:WC}{A:Us}{E:Value->T2->Prop}{i:Nat}{x:Str}{v:V}{u:Value}{Q:Unit->T2->Prop}(I:Ad X pins σ H s)(D:X.N.Nodup)(J:X.N[i]?=some x)(hx:Hk X.env.scope x)(r:AE v u)(h:∀ B,Ad X pins (σ.set i (some v)) H B->Q () B)(L:X.fn x=true\/X.env.scope.names.lookup x=some .local:=by first | exact .inl rfl | exact .inr rfl | assumption):T5 M A (storeName X.env x u) Q E s :=
 N5 I D J hx r (λB O _=>h B O) L
theorem Ad.qQ {B:T2}{ch:List Addr}(I:Ad X pins σ H s)(O:B.os=s.os)(u:Un (CM X.stack) ch H H' s.heap B.heap)(Y:AV X.prog X.w H' B.heap)(hg:We B.gens)(bM:∀ b∈ch,(b∈X.ex\/X.s₀.heap.objs.size<=b)/\b≠X.env.locals/\(∀ x c,X.env.cells.lookup x=some c->c≠b)/\∀ p∈X.pn++pins,p.1≠b):Ad X pins σ H' B:=by obtain ⟨h',D,J,L,o'⟩:=B;have e:o'=s.os:=O;subst e;exact I.call (g':=D) (t':=L) (d':=J) u Y hg bM
end
abbrev XK:=Value->Option Addr->Hp->Prop
abbrev St:=List (Option V)
abbrev VK:=V->Hp->Prop
abbrev TE:=St->Hp->VK->Prop
abbrev TT:=St->Hp->(Bool->Hp->Prop)->Prop
abbrev TA:=St->Hp->(List V->Hp->Prop)->Prop
structure DI where
 nx:St->Hp->Prop
 rt:VK
 bk:St->Hp->Prop:=λ_ _=>False
 ct:St->Hp->Prop:=λ_ _=>False
abbrev TS:=DI->St->Hp->Prop
def EP (X:Cx)(pins:List (Addr×Obj))(σ:St)(Q:VK)(u:Value)(s':T2):Prop:=∃ v H',Ad X pins σ H' s'/\AE v u/\Q v H'
def TP (X:Cx)(pins:List (Addr×Obj))(σ:St)(Q:Bool->Hp->Prop)(b:Bool)(s':T2):Prop:=∃ H',Ad X pins σ H' s'/\Q b H'
def AP (X:Cx)(pins:List (Addr×Obj))(σ:St)(Q:List V->Hp->Prop)(us:List Value)(s':T2):Prop:=∃ vs H',Ad X pins σ H' s'/\Ay vs us/\Q vs H'
def SP (X:Cx)(pins:List (Addr×Obj))(D:DI)(f:Flow)(s':T2):Prop :=
 match f with
 | .next=>∃ σ' H',Ad X pins σ' H' s'/\D.nx σ' H'
 | .brk=>∃ σ' H',Ad X pins σ' H' s'/\D.bk σ' H'
 | .cont=>∃ σ' H',Ad X pins σ' H' s'/\D.ct σ' H'
 | .ret u=>∃ v σ' H',Ad X pins σ' H' s'/\AE v u/\D.rt v H'
def PE (X:Cx)(e:T9)(t:TE):Prop :=
 ∀(pins:List (Addr×Obj))(s:T2)(σ:St)(H:Hp)(Q:VK),Ad X pins σ H s->t σ H Q->T5 (T8 X.prog X.w) X.A (Ui e X.env) (EP X pins σ Q) X.xe s
def PT (X:Cx)(e:T9)(t:TT):Prop :=
 ∀(pins:List (Addr×Obj))(s:T2)(σ:St)(H:Hp)(Q:Bool->Hp->Prop),Ad X pins σ H s->t σ H Q->T5 (T8 X.prog X.w) X.A (XU e X.env (Ui e X.env)) (TP X pins σ Q) X.xe s
def PW (X:Cx)(e:T9)(t:TT):Prop :=
 ∀(whole:Sem Value)(pins:List (Addr×Obj))(s:T2)(σ:St)(H:Hp)(Q:Bool->Hp->Prop),Ad X pins σ H s->t σ H Q->T5 (T8 X.prog X.w) X.A (XU e X.env whole) (TP X pins σ Q) X.xe s
theorem PW.pt {X:Cx}{e:T9}{t:TT}(h:PW X e t):PT X e t:=h _
def PA (X:Cx)(es:List T9)(t:TA):Prop :=
 ∀(pos:Pos)(pins:List (Addr×Obj))(s:T2)(σ:St)(H:Hp)(Q:List V->Hp->Prop),Ad X pins σ H s->t σ H Q->T5 (T8 X.prog X.w) X.A (spliced (UP pos (Ul es X.env))) (AP X pins σ Q) X.xe s
def PS (X:Cx)(st:Stmt)(t:TS):Prop :=
 ∀(pins:List (Addr×Obj))(s:T2)(σ:St)(H:Hp)(D:DI),Ad X pins σ H s->t D σ H->T5 (T8 X.prog X.w) X.A (exec st X.env) (SP X pins D) X.xe s
def CN (X:Cx)(st:List Stmt)(t:TS):Prop :=
 ∀(pins:List (Addr×Obj))(s:T2)(σ:St)(H:Hp)(D:DI),Ad X pins σ H s->t D σ H->T5 (T8 X.prog X.w) X.A (execs st X.env) (SP X pins D) X.xe s
theorem Ap {α:Type}{t:Sem α}{Q B:α->T2->Prop}{M:WC}{A:Us}{E:Value->T2->Prop}{s:T2}(h:T5 M A t Q E s)(D:∀ a s,Q a s->B a s):T5 M A t B E s:=VB h D λ_ _ x=>x
section
variable {X:Cx}
def IV (i:Nat):TE:=λσ H Q=>∃ v,σ[i]?=some (some v)/\Q v H
def tC (v:V):TE:=λ_ H Q=>Q v H
theorem K0 {i:Nat}{x:Str}{pos:Pos}(J:X.N[i]?=some x)(hv:Gj X.env.scope x)(hd:(x == ("__debug__":Str))=false:=by decide)(L:(x == ("__classdict__":Str))=false:=by decide):PE X (.Name x pos) (IV i):=by
 intro pins s σ H Q I h;replace h:=Ag h;obtain ⟨v,e,h⟩:=h
 obtain ⟨m,O,V⟩:=Ag I.loc;obtain ⟨u,r,l⟩:=Ag (V i x v J e hv);have B:EP X pins σ Q u s:=⟨v,H,I,r,h⟩;rcases l with ⟨hk,Y⟩ | ⟨hk,c,hc,D⟩
 .exact Ze (wpAny_loadName_local I.ok.kind hk O Y B) hd
 .rcases hk with hk | hk
  .exact Ze (wpAny_loadName_cell I.ok.kind hk hc D B) hd
  .exact Ze (wpAny_loadName_free I.ok.kind hk hc D B L) hd
theorem Am {i j pos}:PE X (.Constant (.int i) j pos) (tC (.int i)):=λ_ _ _ H _ I h=>wpAny_Constant_int ⟨.int i,H,I.tok _,⟨_,rfl⟩,h⟩
theorem DR {b j pos}:PE X (.Constant (.bool b) j pos) (tC (.bl b)):=λ_ _ _ H _ I h=>Constant_bool ⟨.bl b,H,I,rfl,h⟩
theorem Ck {j pos}:PE X (.Constant .none j pos) (tC .aa):=λ_ _ _ H _ I h=>Constant_none ⟨.aa,H,I,rfl,h⟩
theorem Ak {x j pos}:PE X (.Constant (.str x) j pos) (tC (.str x)):=λ_ _ _ H _ I h=>Calls.Constant_str ⟨.str x,H,I.tok _,⟨_,rfl⟩,h⟩
def Gl (X:Cx)(x:Str):Prop:=X.env.kindOf x=some .globalImplicit
theorem Hl {E:Value->T2->Prop}{pins:List (Addr×Obj)}{s:T2}{σ:St}{H:Hp}{x:Str}{u:Value}{pos:Pos}{Q:Value->T2->Prop}(I:Ad X pins σ H s)(B:Gl X x)(D:X.mg x=some u)(h:Q u s)(hd:(x == ("__debug__":Str))=false:=by decide):T5 (T8 X.prog X.w) X.A (Ui (.Name x pos) X.env) Q E s :=
 wk I.ok.kind B (Calls.loadGlobal_global (by rw [I.ok.glob];exact I.mod.glob.keeps I.bk) D h) hd
theorem FC {E:Value->T2->Prop}{pins:List (Addr×Obj)}{s:T2}{σ:St}{H:Hp}{x:Str}{u:Value}{pos:Pos}{Q:Value->T2->Prop}(I:Ad X pins σ H s)(B:Gl X x)(D:X.mg x=none)(hv:U9 x=some u)(h:Q u s)(J:x≠"__name__":=by decide)(hd:(x == ("__debug__":Str))=false:=by decide):T5 (T8 X.prog X.w) X.A (Ui (.Name x pos) X.env) Q E s:=by obtain ⟨V,L,O⟩:=Ag I.mod.blt;exact wk I.ok.kind B (Calls.loadGlobal_builtin (by rw [I.ok.glob];exact I.mod.glob.keeps I.bk) D (by rw [I.ok.blt];exact L.keeps I.bk) ((O x J).trans hv) h) hd
theorem Aal {x:Str}{v:V}{u:Value}{pos:Pos}(B:Gl X x)(D:X.mg x=some u)(r:AE v u)(hd:(x == ("__debug__":Str))=false:=by decide):PE X (.Name x pos) (tC v) :=
 λ_ _ _ H _ I h=>Hl I B D ⟨v,H,I,r,h⟩ hd
theorem Aam {x:Str}{v:V}{u:Value}{pos:Pos}(B:Gl X x)(D:X.mg x=none)(hv:U9 x=some u)(r:AE v u)(J:x≠"__name__":=by decide)(hd:(x == ("__debug__":Str))=false:=by decide):PE X (.Name x pos) (tC v) :=
 λ_ _ _ H _ I h=>FC I B D hv ⟨v,H,I,r,h⟩ J hd
variable {a b:T9}{ta tb:TE}{pos:Pos}
def tB (t:TE):TT:=λσ H Q=>t σ H λx H1=>∃ c,x=.bl c/\Q c H1
theorem Dy {e:T9}{t:TE}(h:PE X e t)(J:∀ B,XU e X.env B=(do let v <- B;VC e.pos;Vs [v] (truthy v)):=by intro _;rfl):PT X e (tB t):=by
 intro pins s σ H Q I hw;refine isTrue_plain (Ap (h pins s σ H _ I hw) λv s1 L=>AG L λx O V Y D=>?_) (J _);replace D:=Ag D;obtain ⟨d,rfl,q⟩:=D
 cases Y;exact Ws ⟨O,V,q⟩
variable {tA ko:TT}{rest:List T9}
def Aan (t u:TT):TT:=λσ H Q=>t σ H λc H1=>if c=true then u σ H1 Q else Q false H1
def tOr (t u:TT):TT:=λσ H Q=>t σ H λc H1=>if c=true then Q true H1 else u σ H1 Q
def Aao (t:TT):TT:=λσ H Q=>t σ H λc H1=>Q (!c) H1
theorem Gk (B:PT X a tA):PW X (.BoolOp .And [a] pos) tA:=by
 intro D pins s σ H Q I h;refine isTrue_and (Ap (B pins s σ H Q I h) λc J e=>?_);cases c with
 | true=>exact isTrue_and_nil e
 | false=>exact e
theorem Hm (B:PT X a tA):PW X (.BoolOp .Or [a] pos) tA:=by
 intro D pins s σ H Q I h;refine isTrue_or (Ap (B pins s σ H Q I h) λc J e=>?_);cases c with
 | false=>exact isTrue_or_nil e
 | true=>exact e
theorem FD (L:PT X a tA)(hb:PW X (.BoolOp .And (b :: rest) pos) ko):PW X (.BoolOp .And (a :: b :: rest) pos) (Aan tA ko):=by
 intro O pins s σ H Q I h;refine isTrue_and (Ap (L pins s σ H _ I h) λc V Y=>CL Y λB D J=>?_);cases c with
 | true=>exact hb O pins V σ B Q D J
 | false=>exact ⟨B,D,J⟩
theorem Hn (L:PT X a tA)(hb:PW X (.BoolOp .Or (b :: rest) pos) ko):PW X (.BoolOp .Or (a :: b :: rest) pos) (tOr tA ko):=by
 intro O pins s σ H Q I h;refine isTrue_or (Ap (L pins s σ H _ I h) λc V Y=>CL Y λB D J=>?_);cases c with
 | true=>exact ⟨B,D,J⟩
 | false=>exact hb O pins V σ B Q D J
theorem DS (B:PT X a tA):PT X (.UnaryOp .Not a pos) (Aao tA):=by intro pins s σ H Q I h;exact isTrue_not (B pins s σ H (λc D=>Q (!c) D) I h)
def Aap (ta tb:TE):TE:=λσ H Q=>ta σ H λx H1=>∃ c,x=.bl c/\if c=true then tb σ H1 Q else Q (.bl false) H1
def Aaq (ta:TE):TE:=λσ H Q=>ta σ H λx H1=>∃ c,x=.bl c/\Q (.bl (!c)) H1
theorem K1 {op} {t:TE} (h:PE X a t):PE X (.BoolOp op [a] pos) t:=λpins s σ H Q I hw=>BoolOp_one (h pins s σ H Q I hw)
theorem N6 (L:PE X a ta)(hb:PE X (.BoolOp .And (b :: rest) pos) tb):PE X (.BoolOp .And (a :: b :: rest) pos) (Aap ta tb):=by
 intro pins s σ H Q I h;refine BoolOp_and (Ap (L pins s σ H _ I h) λv O V=>AG V λx D J Y B=>?_);replace B:=Ag B;obtain ⟨c,rfl,B⟩:=B
 cases Y;refine Ws ?_;cases c with
 | true=>exact hb pins O σ D Q J B
 | false=>exact ⟨.bl false,D,J,rfl,B⟩
theorem N7 (D:PE X a ta):PE X (.UnaryOp .Not a pos) (Aaq ta):=by
 intro pins s σ H Q I h;refine UnaryOp_ (Ap (D pins s σ H _ I h) λv Y J=>AG J λx L O V B=>?_);replace B:=Ag B;obtain ⟨c,rfl,B⟩:=B
 cases V;exact not_of (Ws ⟨.bl (!c),L,O,rfl,B⟩)
def tIf (t:TT)(ta tb:TE):TE:=λσ H Q=>t σ H λc H1=>if c=true then ta σ H1 Q else tb σ H1 Q
theorem N8 {c:T9}(hc:PT X c tA)(O:PE X a ta)(hb:PE X b tb):PE X (.IfExp c a b pos) (tIf tA ta tb):=by
 intro pins s σ H Q I h;refine wpAny_IfExp (Ap (hc pins s σ H _ I h) λd B V=>CL V λD J L=>?_);cases d with
 | true=>exact O pins B σ D Q J L
 | false=>exact hb pins B σ D Q J L
end
def Bg (K:T3)(H:Hp)(a:Addr)(xs:List V):Prop :=
 Rd H a (.lst xs) \/
  ∃(o:Obj)(its:Array Value)(n:Nat),K.lookup a=some o/\o.cls=.type "list"/\o.dict=none/\o.data=.seq its n/\its.size<=sizeLine/\Ay xs its.toList
def Bt (K:T3)(H:Hp)(a:Addr)(xs:List V):Prop :=
 Rd H a (.tup xs) \/
  ∃(o:Obj)(its:Array Value)(n:Nat),K.lookup a=some o/\o.cls=.type "tuple"/\o.data=.seq its n/\its.size<=sizeLine/\Ay xs its.toList
noncomputable def Aar:Value->Option V
 | .none=>some .aa
 | .bool b=>some (.bl b)
 | .int i _=>some (.int i)
 | .str x _=>some (.str x)
 | .bytes b _=>some (.cw b)
 | .float b _=>some (.gh b)
 | .ref a=>some (.ref a)
 | .type n=>some (.ty n)
 | _=>none
theorem AE.abs {x:V}{u:Value}(r:AE x u):Aar u=some x:=by
 cases x with
 | aa=>cases r;rfl
 | bl _=>cases r;rfl
 | int _=>obtain ⟨t,rfl⟩:=r;rfl
 | str _=>obtain ⟨t,rfl⟩:=r;rfl
 | cw _=>obtain ⟨t,rfl⟩:=r;rfl
 | gh _=>obtain ⟨t,rfl⟩:=r;rfl
 | ref _=>cases r;rfl
 | ty _=>cases r;rfl
theorem AE.inj {x y:V}{u:Value}(r:AE x u)(q:AE y u):x=y:=UK (r.abs.symm.trans q.abs)
theorem Ay.inj:∀{xs ys:List V}{us:List Value},Ay xs us->Ay ys us->xs=ys
 | _,_,_,.nil,.nil=>rfl
 | _,_,_,.cons r t,.cons B D=>by rw [r.inj B,Ay.inj t D]
section
variable {X:Cx}{pins:List (Addr×Obj)}{σ:St}{H:Hp}{s:T2}{a:Addr}{xs ys:List V}
theorem Bg.of {K:T3}(h:H a=some (.lst xs)):Bg K H a xs:=.inl (.inl h)
theorem Bt.of {K:T3}(h:H a=some (.tup xs)):Bt K H a xs:=.inl (.inl h)
theorem Ad.list (I:Ad X pins σ H s)(h:Bg X.K H a xs):∃ its:List Value,Ay xs its/\PlainL s.heap a its.toArray/\xs.length<=sizeLine:=by
 rcases h with h | ⟨o,its,n,hk,hc,hd,hs,B,r⟩
 .obtain ⟨z,its,n,r,e⟩:=h.ok I.af;exact ⟨its,r,⟨_,n,e,rfl,rfl,rfl⟩,z⟩
 .refine ⟨its.toList,r,⟨o,n,I.aJ a o hk,hc,hd,by simpa using hs⟩,?_⟩;have e:=r.length;simp only [Vt] at e;omega
theorem Ad.tuple (I:Ad X pins σ H s)(h:Bt X.K H a xs):∃ its:List Value,Ay xs its/\IsTup s.heap a its.toArray/\xs.length<=sizeLine:=by
 rcases h with h | ⟨o,its,n,hk,hc,hs,B,r⟩
 .obtain ⟨z,its,r,p⟩:=h.ok I.af;exact ⟨its,r,p,z⟩
 .refine ⟨its.toList,r,⟨o,I.aJ a o hk,hc,n,by simpa using hs⟩,?_⟩;have e:=r.length;simp only [Vt] at e;omega
theorem Ad.qS (I:Ad X pins σ H s)(h:Bg X.K H a xs)(h':Bg X.K H a ys):xs=ys:=by
 obtain ⟨its,r,⟨o,n,e,_,_,d⟩,_⟩:=Av (I.list h);obtain ⟨B,L,⟨Y,n',D,_,_,J⟩,_⟩:=Av (I.list h');rw [e] at D;cases D;rw [d] at J;injection J with O _;have:its=B:=by simpa using congrArg Array.toList O
 subst this;exact r.inj L
theorem Ad.qT (I:Ad X pins σ H s)(h:Bt X.K H a xs)(h':Bt X.K H a ys):xs=ys:=by
 obtain ⟨its,r,⟨o,e,_,n,d⟩,_⟩:=Av (I.tuple h);obtain ⟨B,L,⟨Y,D,_,n',J⟩,_⟩:=Av (I.tuple h');rw [e] at D;cases D;rw [d] at J;injection J with O _;have:its=B:=by simpa using congrArg Array.toList O
 subst this;exact r.inj L
end
noncomputable abbrev Cx.dM (X:Cx)(E:Value->T2->Prop):Cx:={ X with xe:=E }
noncomputable abbrev Cx.kq (X:Cx):Cx:=X.dM λ_ _=>False
theorem Cx.Ok.dM {X:Cx}(ok:X.Ok)(E:Value->T2->Prop):(X.dM E).Ok :=
 ⟨ok.mod,ok.kind,ok.glob,ok.blt,ok.above,ok.inj,ok.has,ok.dG,ok.hd,ok.frames,ok.bJ,ok.dH,ok.bs,ok.cF,ok.dI,ok.cS,ok.bK,ok.cT⟩
theorem Cx.Ok.fI {X:Cx}{E:Value->T2->Prop}(ok:(X.dM E).Ok):X.Ok :=
 ⟨ok.mod,ok.kind,ok.glob,ok.blt,ok.above,ok.inj,ok.has,ok.dG,ok.hd,ok.frames,ok.bJ,ok.dH,ok.bs,ok.cF,ok.dI,ok.cS,ok.bK,ok.cT⟩
section
variable {X:Cx}{pins:List (Addr×Obj)}{σ:St}{H:Hp}{s:T2}{E:Value->T2->Prop}
theorem Ad.dM (I:Ad X pins σ H s)(E:Value->T2->Prop):Ad (X.dM E) pins σ H s:=⟨I.ok.dM E,I.os,I.bare,I.base,I.loc,I.cell,I.free,I.bL,I.pin,I.af,I.len⟩
theorem Ad.fI (I:Ad (X.dM E) pins σ H s):Ad X pins σ H s:=⟨I.ok.fI,I.os,I.bare,I.base,I.loc,I.cell,I.free,I.bL,I.pin,I.af,I.len⟩
theorem SP.fI {D:DI}{f:Flow}{J:T2}(h:SP (X.dM E) pins D f J):SP X pins D f J:=by
 cases f with
 | next=>obtain ⟨σ',B,I,q⟩:=AQ h;exact ⟨σ',B,I.fI,q⟩
 | brk=>obtain ⟨σ',B,I,q⟩:=AQ h;exact ⟨σ',B,I.fI,q⟩
 | cont=>obtain ⟨σ',B,I,q⟩:=AQ h;exact ⟨σ',B,I.fI,q⟩
 | ret u=>obtain ⟨v,σ',B,I,r,q⟩:=BI h;exact ⟨v,σ',B,I.fI,r,q⟩
theorem CN.kq {st:List Stmt}{t:TS}(h:CN X.kq st t):CN X st t:=λpins s σ H D I hw =>
 VB (h pins s σ H D (I.dM _) hw) (λ_ _ q=>q.fI) λ_ _ z=>VO z
end
section
variable {X:Cx}{st:Stmt}{rest:List Stmt}{t u:TS}{e:T9}{te:TE}{pos:Pos}
def Aas:TS:=λD σ H=>D.nx σ H
def K2 (t u:TS):TS:=λD σ H=>t { D with nx:=u D } σ H
theorem Be:CN X [] Aas:=λ_ _ σ H _ I h=>XW ⟨σ,H,I,h⟩
theorem Aj (B:PS X st t)(J:CN X rest u):CN X (st :: rest) (K2 t u):=by
 intro pins s σ H D I h;refine wm (Ap (B pins s σ H { D with nx:=u D } I h) λf L q=>?_);cases f with
 | next =>
  replace q:=AQ q;obtain ⟨σ',O,V,q⟩:=q
  exact J pins L σ' O D V q
 | ret v=>exact q
 | brk=>exact q
 | cont=>exact q
theorem An (B:PS X st t):CN X [st] t:=by
 intro pins s σ H D I h;refine wm (Ap (B pins s σ H D I h) λf J q=>?_);cases f with
 | next=>exact XW q
 | ret v=>exact q
 | brk=>exact q
 | cont=>exact q
theorem Ad.quiet {pins:List (Addr×Obj)}{σ:St}{H:Hp}{s:T2}(I:Ad X pins σ H s):interactive X.env=false:=by simp [interactive,I.ok.kind]
def Aat (te:TE):TS:=λD σ H=>te σ H λ_ H1=>D.nx σ H1
theorem Bi (B:PE X e te)(hs:Xd e none pos.line X.env=pure false:=by rfl):PS X (.Expr e pos) (Aat te):=by intro pins s σ H D I h;exact wpAny_Expr_any (Ap (B pins s σ H _ I h) λv Y J=>AG J λx L O r1 V=>⟨σ,L,O,V⟩) I.quiet hs
def Aau (te:TE):TS:=λD σ H=>te σ H D.rt
theorem AO (B:PE X e te):PS X (.Return (some e) pos) (Aau te):=by intro pins s σ H D I h;exact wpAny_Return_some (Ap (B pins s σ H _ I h) λv s1 J=>AG J λx L O V Y=>⟨x,σ,L,O,V,Y⟩)
def Aav (c:TT)(t u:TS):TS:=λD σ H=>c σ H λb H1=>if b=true then t D σ H1 else u D σ H1
theorem Ba {c:T9}{a b:List Stmt}{B:TT}(hc:PT X c B)(Y:CN X a t)(hb:CN X b u):PS X (.If c a b pos) (Aav B t u):=by
 intro pins s σ H D I h;refine wpAny_If (Ap (hc pins s σ H _ I h) λd J zz=>CL zz λL O V=>?_);cases d with
 | true=>exact Y pins J σ L D O V
 | false=>exact hb pins J σ L D O V
end
abbrev TG:=V->St->Hp->(St->Hp->Prop)->Prop
abbrev E9:=List V->St->Hp->(St->Hp->Prop)->Prop
def PG (X:Cx)(target:T9)(t:TG):Prop :=
 ∀(pins:List (Addr×Obj))(s:T2)(σ:St)(H:Hp)(v:V)(u:Value)(Q:St->Hp->Prop),Ad X pins σ H s->AE v u->t v σ H Q ->
  T5 (T8 X.prog X.w) X.A (V6 target X.env u) (λ_ s'=>∃ σ' H',Ad X pins σ' H' s'/\Q σ' H') X.xe s
def Ho (X:Cx)(ts:List T9)(t:E9):Prop :=
 ∀(pins:List (Addr×Obj))(s:T2)(σ:St)(H:Hp)(vs:List V)(us:List Value)(Q:St->Hp->Prop),Ad X pins σ H s->Ay vs us->t vs σ H Q ->
  T5 (T8 X.prog X.w) X.A (assignInOrder ((WD ts X.env).map (·.2)) us) (λ_ s'=>∃ σ' H',Ad X pins σ' H' s'/\Q σ' H') X.xe s
abbrev Hq:=V->V->V->Hp->(Hp->Prop)->Prop
def K4 (X:Cx)(t:Hq):Prop :=
 ∀(pins:List (Addr×Obj))(s:T2)(σ:St)(H:Hp)(o i v:V)(ov iv u:Value)(Q:Hp->Prop),Ad X pins σ H s->AE o ov->AE i iv->AE v u->t o i v H Q ->
  T5 (T8 X.prog X.w) X.A (XX ov iv u) (λ_ s'=>∃ H',Ad X pins σ H' s'/\Q H') X.xe s
abbrev IW:=V->V->Hp->VK->Prop
def N9 (X:Cx)(op:XY)(t:IW):Prop :=
 ∀(pins:List (Addr×Obj))(s:T2)(σ:St)(H:Hp)(x y:V)(v u:Value)(Q:VK),Ad X pins σ H s->AE x v->AE y u->t x y H Q ->
  T5 (T8 X.prog X.w) X.A (inplaceOp op v u) (EP X pins σ Q) X.xe s
section
variable {X:Cx}{pos:Pos}
def Ez (i:Nat):TG:=λv σ H Q=>Q (σ.set i (some v)) H
theorem Oa {i:Nat}{x:Str}(B:X.N.Nodup)(D:X.N[i]?=some x)(hx:Hk X.env.scope x)(J:X.fn x=true\/X.env.scope.names.lookup x=some .local:=by first | exact .inl rfl | exact .inr rfl | assumption):PG X (.Name x pos) (Ez i):=by intro pins s σ H v u Q I r h;exact wq (KZ I B D hx r (λO L=>⟨_,H,L,h⟩) J)
def Aaw:E9:=λvs σ H Q=>vs=[]/\Q σ H
def Aax (t:TG)(u:E9):E9:=λvs σ H Q=>∃ v r,vs=v :: r/\t v σ H λσ' H'=>u r σ' H' Q
theorem DT:Ho X [] Aaw:=by intro pins s σ H vs B Q I r h;obtain ⟨e,h⟩:=h;subst e;cases r;exact assignInOrder_nil ⟨σ,H,I,h⟩
theorem B9 {e:T9}{es:List T9}{t:TG}{u:E9}(B:PG X e t)(D:Ho X es u)(hs:(WD (e :: es) X.env).map (·.2)=V6 e X.env :: (WD es X.env).map (·.2):=by rfl):Ho X (e :: es) (Aax t u):=by
 intro pins s σ H vs us Q I r h;replace h:=AQ h;obtain ⟨v,vr,J,h⟩:=h
 subst J;cases r with
 | cons r L =>
  rw [hs];refine assignInOrder_cons (Ap (B pins s σ H _ _ _ I r h) λ_ O V=>Hf V λσ1 Y I1 q1=>?_);exact D pins O σ1 Y _ _ Q I1 L q1
def Ob (K:T3)(n:Nat)(t:E9):TG:=λv σ H Q=>∃ a xs,v=.ref a/\Bt K H a xs/\xs.length=n/\t xs σ H Q
theorem Fb {es:List T9}{k:Nat}{t:E9}{n:Nat}(hc:X.calm=true)(h:Ho X es t)(D:(WD es X.env).length=n:=by rfl)(J:(WD es X.env).findIdx? (·.1)=none:=by rfl):PG X (.Tuple es k pos) (Ob X.K n t):=by
 intro pins s σ H v u Q I r hw;replace hw:=AY hw;obtain ⟨a,L,O,hq,V,hw⟩:=hw
 subst O;cases r;obtain ⟨its,B,Y,hz⟩:=Av (I.tuple hq);refine assign_Tuple_tuple (I.ok.hd hc) Y (by simp [D,<- V,B.length]) J λh' hx=>?_;have I1:Ad X pins σ H { s with heap:=h' }:=I.kept (t':=s.toks) λb o e=>hx b o (UB (Ut e)) e;exact h pins _ σ H L _ Q I1 (by simpa using B) hw
def Aay (to ti:TE)(t:Hq):TG:=λv σ H Q=>to σ H λo H1=>ti σ H1 λi H2=>t o i v H2 λH3=>Q σ H3
theorem EA {o i:T9}{L O:TE}{t:Hq}(V:PE X o L)(Y:PE X i O)(hs:K4 X t)(ha:∀ v,V6 (.Subscript o i pos) X.env v=(do
   let B <- Vs [v] (Ui o X.env)
   let D <- Vs [v,B] (Ui i X.env)
   VC pos
   Vs [v,B,D] (XX B D v)
   release [v,B,D] []):=by intro _;rfl):PG X (.Subscript o i pos) (Aay L O t):=by
 intro pins s σ H v u Q I r h;rw [ha];refine Ua (VY (Ap (V pins s σ H _ I h) λB s1 J=>AG J λx H1 I1 r1 q1=>?_));refine Ua (VY (Ap (Y pins s1 σ H1 _ I1 q1) λD s2 J=>AG J λy H2 I2 r2 q2=>?_));refine Ua (Wt (Ua (VY (Ap (hs pins s2 σ H2 x y v B D u _ I2 r1 r2 r q2) λ_ s3 J=>CL J λH3 I3 q3=>?_))));exact wpAny_release ⟨σ,H3,I3,q3⟩
def Gn (te:TE)(g:TG):TS:=λD σ H=>te σ H λx H1=>g x σ H1 D.nx
theorem DU {B e:T9}{J:TE}{g:TG}(L:PE X e J)(O:PG X B g)(hs:swapsWithSole [B] e pos.line X.env=pure false:=by rfl)(hw:swappedStores [B] e X.env=pure none:=by rfl)(V:(WD [B] X.env).map (·.2)=[V6 B X.env]:=by rfl):PS X (.Assign [B] e pos) (Gn J g):=by intro pins s σ H D I h;refine wpAny_Assign_stores (Ap (L pins s σ H _ I h) λv Y zz=>AG zz λx H1 I1 r1 q1=>?_) hs hw;rw [V];exact Ap (O pins Y σ H1 x v _ I1 r1 q1) λ_ s2 q=>q
theorem Oc {i:Nat}{x:Str}{e:T9}{J:TE}{B:Pos}(L:X.N.Nodup)(O:X.N[i]?=some x)(hx:Hk X.env.scope x)(V:PE X e J)(hs:Xd e (some (.Name x B)) pos.line X.env=pure false:=by rfl)(Y:X.fn x=true\/X.env.scope.names.lookup x=some .local:=by first | exact .inl rfl | exact .inr rfl | assumption) :
  PS X (.Assign [.Name x B] e pos) (Gn J (Ez i)):=by
 intro pins s σ H D I h;refine wpAny_Assign_Name (Ap (V pins s σ H _ I h) λv s1 zz=>AG zz λy H1 I1 r1 q1=>?_) hs;exact KZ I1 L O hx r1 (λs2 I2=>⟨_,H1,I2,q1⟩) Y
def Aaz (to ti te:TE)(kr:V->V->Hp->VK->Prop)(ku:IW)(kz:Hq):TS:=λD σ H=>to σ H λo H1=>ti σ H1 λi H2=>kr o i H2 λx H3=>te σ H3 λy H4=>ku x y H4 λz H5=>kz o i z H5 λH6=>D.nx σ H6
def Od (X:Cx)(t:V->V->Hp->VK->Prop):Prop :=
 ∀(pins:List (Addr×Obj))(s:T2)(σ:St)(H:Hp)(o i:V)(ov iv:Value)(Q:VK),Ad X pins σ H s->AE o ov->AE i iv->t o i H Q ->
  T5 (T8 X.prog X.w) X.A (Xe ov iv) (EP X pins σ Q) X.xe s
theorem IX {o i e:T9}{Y ti te:TE}{kr:V->V->Hp->VK->Prop}{ku:IW}{kz:Hq}{op:XY}{kA:Pos}(ho:PE X o Y)(hi:PE X i ti)(hg:Od X kr)(he:PE X e te)(hp:N9 X op ku)(hs:K4 X kz)(ha:∀ J L new,augStore i J L new=(do Vs [new,J,L] (XX J L new);release [new,J,L] [];pure .next):=by intros;rfl):PS X (.AugAssign (.Subscript o i kA) op e pos) (Aaz Y ti te kr ku kz):=by intro pins s σ H D I h;refine wu (Ap (ho pins s σ H _ I h) λJ s1 B=>AG B λx1 H1 I1 r1 q1=>?_) ha;refine Ap (hi pins s1 σ H1 _ I1 q1) λL s2 B=>AG B λx2 H2 I2 r2 q2=>?_;refine Ap (hg pins s2 σ H2 x1 x2 J L _ I2 r1 r2 q2) λO s3 B=>AG B λx3 H3 I3 r3 q3=>?_;refine Ap (he pins s3 σ H3 _ I3 q3) λv s4 B=>AG B λx4 H4 I4 r4 q4=>?_;refine Ap (hp pins s4 σ H4 x3 x4 O v _ I4 r3 r4 q4) λnew s5 B=>AG B λx5 H5 I5 r5 q5=>?_;exact Ap (hs pins s5 σ H5 x1 x2 x5 J L new _ I5 r1 r2 r5 q5) λ_ s6 B=>CL B λH6 I6 q6=>⟨σ,H6,I6,q6⟩
def ipI (f:Int->Int->Int):IW:=λx y H Q=>∃ i j,x=.int i/\y=.int j/\Q (.int (f i j)) H
theorem IY:N9 X .Add (ipI λi j=>i+j):=by intro pins s σ H x y v u Q I B D h;obtain ⟨i,j,J,L,q⟩:=AY h;subst J;subst L;obtain ⟨t,rfl⟩:=B;obtain ⟨O,rfl⟩:=D;exact iadd_int ⟨.int _,H,I.tok _,⟨_,rfl⟩,q⟩
end
section
variable {X:Cx}{pos:Pos}
def AaA (c:TT)(tb:TS):TS:=λD σ H=>∃ W:Nat->St->Hp->Prop,(∃ m,W m σ H)/\∀ m σ H,W m σ H ->
 c σ H λb H1=>if b=true then ∃ N:St->Hp->Prop,(∀ σ' H',N σ' H'->∃ m',m'<m/\W m' σ' H')/\tb { D with nx:=N,ct:=N,bk:=D.nx } σ H1 else D.nx σ H1
theorem Oe {c:T9}{body:List Stmt}{tc:TT}{tb:TS}(hp:Yw (T8 X.prog X.w) X.A X.env X.xe)(hc:PT X c tc)(hb:CN X body tb):PS X (.While c body [] pos) (AaA tc tb):=by
 intro pins s σ H D I h;obtain ⟨W,⟨m0,w0⟩,turn⟩:=Ag h;refine wpAny_While (codeAny_whileLoop (λn s'=>∃ σ' H',Ad X pins σ' H' s'/\W n σ' H') ?_ m0 ⟨σ,H,I,w0⟩);rintro n s1 ⟨σ1,H1,I1,w1⟩;refine Xf hp (Ap (hc pins s1 σ1 H1 _ I1 (turn n σ1 H1 w1)) λb s2 zz=>CL zz λH2 I2 B=>?_);cases b with
 | true =>
  replace B:=Ag B;obtain ⟨N,hN,B⟩:=B
  rw [if_pos rfl];refine Xf hp (Ap (hb pins s2 σ1 H2 _ I2 B) λf s3 L=>?_);cases f with
  | next =>
   obtain ⟨σ3,J,O,V⟩:=AQ L;obtain ⟨m',Y,w3⟩:=Ag (hN σ3 J V);exact ⟨m',Y,σ3,J,O,w3⟩
  | cont =>
   obtain ⟨σ3,J,O,V⟩:=AQ L;obtain ⟨m',Y,w3⟩:=Ag (hN σ3 J V);exact ⟨m',Y,σ3,J,O,w3⟩
  | brk=>exact L
  | ret v=>exact L
 | false =>
  rw [if_neg UT];exact XW ⟨σ1,H2,I2,B⟩
end
structure It where
 go:Nat->Hp->Prop
 bY:Nat->Hp->V->Hp->Prop
 stop:Nat->Hp->Prop
def De (X:Cx)(pins:List (Addr×Obj))(H:Hp)(b:Addr):Prop :=
 H b=none/\b≠X.env.locals/\b ∉ X.fs/\(b∈X.ex\/X.s₀.heap.objs.size<=b)/\(∀ x c,X.env.cells.lookup x=some c->c≠b)/\∀ p∈X.pn++pins,p.1≠b
theorem Ad.fJ {X:Cx}{pins:List (Addr×Obj)}{σ:St}{H B:Hp}{s:T2}{b:Addr}(I:Ad X pins σ H s)(hb:s.heap.objs.size<=b)(D:B b=none):De X pins B b:=by
 refine ⟨D,Wf (UN I.lt hb),I.aac hb,.inr (U7 I.sz hb),λx c e z=>?_,λp J z=>?_⟩
 .obtain ⟨v,q⟩:=I.cell x c e;exact absurd (UN q.lt (by rw [z];exact hb)) (VA _)
 .exact absurd (UN (Ut (I.pin p J).1) (by rw [z];exact hb)) (VA _)
structure FE (P:Ub)(w:T6)(K:T3)(tg:T9)(J:It)(fp:List Addr)(it:Addr)(tn:Nat->Heap->Prop):Prop where
 mem:it∈fp
 obj:∀ i h,tn i h->∀ b∈fp,∃ o,h.get? b=some o/\∀ v,o.data≠.cell v
 keep:∀ i h h',tn i h->(∀ b∈fp,∀ o,h.get? b=some o->h'.get? b=some o)->tn i h'
 item:∀(X:Cx),X.prog=P->X.w=w->X.K=K->X.calm=true->∀(i:Nat)(pins:List (Addr×Obj))(s:T2)(σ:St)(H:Hp)(E:Value->T2->Prop),Ad X pins σ H s->(∀ b∈fp,De X pins H b)->tn i s.heap->J.go i H ->
  T5 (T8 P w) X.A (VZ (.ref it)) (λr s1=>∃ u,r=some u /\
   T5 (T8 P w) X.A (Xg tg (.ref it) u) (λ_ s2=>∃ x H',Ad X pins σ H' s2/\AE x u/\J.bY i H x H'/\tn (i+1) s2.heap/\∀ b∈fp,H' b=none) E s1) E s
 done:∀(X:Cx),X.prog=P->X.w=w->X.K=K->X.calm=true->∀(i:Nat)(pins:List (Addr×Obj))(s:T2)(σ:St)(H:Hp)(E:Value->T2->Prop),Ad X pins σ H s->(∀ b∈fp,De X pins H b)->tn i s.heap->J.stop i H ->
  T5 (T8 P w) X.A (VZ (.ref it)) (λr s1=>r=none/\Ad X pins σ H s1) E s
 self:∀(A:Us)(i:Nat)(s:T2)(Q:Value->T2->Prop)(E:Value->T2->Prop),tn i s.heap->Q (.ref it) s->T5 (T8 P w) A (XZ (.ref it)) Q E s
abbrev TI:=St->Hp->(It->Hp->Prop)->Prop
def Of (X:Cx)(pins:List (Addr×Obj))(σ:St)(tg:T9)(R:It->Hp->Prop)(iT:Value)(s2:T2):Prop :=
 ∃(it:Addr)(fp:List Addr)(tn:Nat->Heap->Prop)(J:It)(H':Hp),iT=.ref it/\Ad X pins σ H' s2/\FE X.prog X.w X.K tg J fp it tn/\tn 0 s2.heap/\(∀ b∈fp,De X pins H' b)/\R J H'
def PI (X:Cx)(tg iter:T9)(wi:TI):Prop :=
 ∀(pins:List (Addr×Obj))(s:T2)(σ:St)(H:Hp)(R:It->Hp->Prop),Ad X pins σ H s->wi σ H R ->
  T5 (T8 X.prog X.w) X.A (Ui iter X.env) (λv s1=>T5 (T8 X.prog X.w) X.A (XZ v) (Of X pins σ tg R) X.xe s1) X.xe s
theorem IZ {M:WC}{A:Us}{E:Value->T2->Prop}{s:T2}{D:T9}{it:Addr}{u:Value}{o:Obj}{n:String}{vs:Array Value}{Q:Unit->T2->Prop}(H:s.heap.get? it=some o)(hc:o.cls=.type n)(hd:o.data=.fields vs)(I:["enumerate","zip","dict_itemiterator","dict_reverseitemiterator","odict_iterator","itertools.zip_longest","itertools.pairwise"].contains n=false)(B:Q () s):T5 M A (Xg D (.ref it) u) Q E s:=by
 unfold Xg;cases D<;>first
  | exact Um B
  | (cases u<;>first
    | exact Um B
    | (refine Ua (wpAny_load H ?_)
       rw [hc,hd];show T5 M A (if (["enumerate","zip","dict_itemiterator","dict_reverseitemiterator","odict_iterator","itertools.zip_longest","itertools.pairwise"].contains n && vs[0]? == some (Xh _))=true then _ else _) Q E s;rw [if_neg (by intro h;rw [I,Bool.false_and] at h;cases h)];exact Um B))
def DV (K:T3)(a:Addr):It :=
 ⟨λi H=>∃ xs x,Bg K H a xs/\xs[i]?=some x,λi H x H'=>H'=H/\∀ xs,Bg K H a xs->xs[i]?=some x,λi H=>∃ xs,Bg K H a xs/\xs.length<=i⟩
def Fc (K:T3)(a:Addr):It :=
 ⟨λi H=>∃ xs x,Bt K H a xs/\xs[i]?=some x,λi H x H'=>H'=H/\∀ xs,Bt K H a xs->xs[i]?=some x,λi H=>∃ xs,Bt K H a xs/\xs.length<=i⟩
def Eb (lo:Int)(n:Nat):It:=⟨λi _=>i<n,λi H x H'=>H'=H/\x=.int (lo+i),λi _=>n<=i⟩
theorem AaB {P:Ub}{w:T6}{K:T3}{tg:T9}(a it:Addr):FE P w K tg (DV K a) [it] it (λi h=>h.IsListIter it a i) where
 mem:=by simp
 obj:=λi h st b hb=>by
  have e:b=it:=by simpa using hb
  subst e;obtain ⟨o,e,c,d⟩:=Av st;exact ⟨o,e,λv z=>by rw [d] at z;cases z⟩
 keep:=λi h B st k=>st.at λo e=>k it (by simp) o e
 item:=by intro X J hw L hc i pins s σ H E I D st O;subst J hw L;obtain ⟨xs,x,hq,hx⟩:=AQ O;obtain ⟨its,V,p,hz⟩:=Av (I.list hq);obtain ⟨u,hu,ru⟩:=Ag (V.get hx);obtain ⟨Y,f1,f2,f3,f4,f5⟩:=AD (D it (by simp));refine wpAny_pyNext_list_item st p.isList (x:=u) (by simpa using hu) λB bB sb=>?_;have I1:Ad X pins σ H { s with heap:=B }:=I.turned (t':=s.toks) (λb o hb e=>(sb.2 b hb).trans e) Y f1 f3 f4 f5;obtain ⟨o,e,c,d⟩:=Av (id bB);exact ⟨u,rfl,IZ (s:={ s with heap:=B }) e c d (by decide) ⟨x,H,I1,ru,⟨rfl,λys hy=>by rw [I.qS hy hq];exact hx⟩,bB,λb hb=>(D b hb).1⟩⟩
 done:=by intro X J hw L hc i pins s σ H E I D st O;subst J hw L;obtain ⟨xs,hq,hx⟩:=Ag O;obtain ⟨its,V,p,hz⟩:=Av (I.list hq);obtain ⟨Y,f1,f2,f3,f4,f5⟩:=AD (D it (by simp));have hl:=V.length;exact wpAny_pyNext_list_end (I.ok.hd hc) st p.isList (by simp;omega) λB eb=>⟨rfl,I.turned (t':=s.toks) (λb o hb e=>eb b o hb e) Y f1 f3 f4 f5⟩
 self:=λ_ _ _ _ _ st h=>wpAny_pyIter_listiter st h
theorem AaC {P:Ub}{w:T6}{K:T3}{tg:T9}(a it:Addr):FE P w K tg (Fc K a) [it] it (λi h=>h.IsTupleIter it a i) where
 mem:=by simp
 obj:=λi h st b hb=>by
  have e:b=it:=by simpa using hb
  subst e;obtain ⟨o,e,c,d⟩:=Av st;exact ⟨o,e,λv z=>by rw [d] at z;cases z⟩
 keep:=λi h B st k=>st.at λo e=>k it (by simp) o e
 item:=by intro X J hw L hc i pins s σ H E I D st O;subst J hw L;obtain ⟨xs,x,hq,hx⟩:=AQ O;obtain ⟨its,V,p,hz⟩:=Av (I.tuple hq);obtain ⟨u,hu,ru⟩:=Ag (V.get hx);obtain ⟨Y,f1,f2,f3,f4,f5⟩:=AD (D it (by simp));refine wpAny_pyNext_tuple_item st (show s.heap.IsTuple a its.toArray from p) (x:=u) (by simpa using hu) λB bB sb=>?_;have I1:Ad X pins σ H { s with heap:=B }:=I.turned (t':=s.toks) (λb o hb e=>(sb.2 b hb).trans e) Y f1 f3 f4 f5;obtain ⟨o,e,c,d⟩:=Av (id bB);exact ⟨u,rfl,IZ (s:={ s with heap:=B }) e c d (by decide) ⟨x,H,I1,ru,⟨rfl,λys hy=>by rw [I.qT hy hq];exact hx⟩,bB,λb hb=>(D b hb).1⟩⟩
 done:=by intro X J hw L hc i pins s σ H E I D st O;subst J hw L;obtain ⟨xs,hq,hx⟩:=Ag O;obtain ⟨its,V,p,hz⟩:=Av (I.tuple hq);obtain ⟨Y,f1,f2,f3,f4,f5⟩:=AD (D it (by simp));have hl:=V.length;exact wpAny_pyNext_tuple_end (I.ok.hd hc) st (show s.heap.IsTuple a its.toArray from p) (by simp;omega) λB eb=>⟨rfl,I.turned (t':=s.toks) (λb o hb e=>eb b o hb e) Y f1 f3 f4 f5⟩
 self:=λ_ _ _ _ _ st h=>wpAny_pyIter_tupleiter st h
theorem AaD {P:Ub}{w:T6}{K:T3}{tg:T9}(it:Addr)(lo:Int)(n:Nat):FE P w K tg (Eb lo n) [it] it (λi h=>IsRangeIter h it (lo+(i:Nat) * 1) ((n:Int) - (i:Nat)) 1) where
 mem:=by simp
 obj:=λi h st b hb=>by
  have e:b=it:=by simpa using hb
  subst e;exact ⟨_,st,λv z=>by
   have z':Data.fields _=Data.cell v:=z;cases z'⟩
 keep:=λi h B st k=>k it (by simp) _ st
 item:=by intro X J hw L hc i pins s σ H E I D st O;subst J hw L;obtain ⟨V,f1,f2,Y,f4,f5⟩:=AD (D it (by simp));have W:=Walks.range (prog:=X.prog) (w:=X.w) (I.ok.hd hc) it lo 1 n;refine W.item i s _ _ O st λv B tk hv bB kk=>?_;obtain ⟨t,rfl⟩:=hv;have I1:Ad X pins σ H { s with heap:=B,toks:=tk }:=I.turned (λb o hb e=>kk b o (by simpa using hb) e) V f1 Y f4 f5;refine ⟨_,rfl,IZ (s:={ s with heap:=B,toks:=tk }) (n:="range_iterator") bB rfl rfl (by decide) ⟨.int (lo+i),H,I1,⟨t,?_⟩,⟨rfl,rfl⟩,bB,λb hb=>(D b hb).1⟩⟩;rw [Int.mul_one]
 done:=by intro X J hw L hc i pins s σ H E I D st O;subst J hw L;obtain ⟨V,f1,f2,Y,f4,f5⟩:=AD (D it (by simp));exact wpAny_pyNext_range_end (I.ok.hd hc) st (by have:n<=i:=O;omega) λB eb=>⟨rfl,I.turned (t':=s.toks) (λb o hb e=>eb b o hb e) V f1 Y f4 f5⟩
 self:=λ_ _ _ _ _ st h=>wpAny_pyIter_rangeiter st h
section
variable {X:Cx}{tg:T9}
def AaE (K:T3)(tl:TE):TI:=λσ H R=>tl σ H λx H1=>∃ a,x=.ref a/\(∃ xs,Bg K H1 a xs)/\R (DV K a) H1
def AaF (K:T3)(tl:TE):TI:=λσ H R=>tl σ H λx H1=>∃ a,x=.ref a/\(∃ xs,Bt K H1 a xs)/\R (Fc K a) H1
theorem Df {l:T9}{tl:TE}(J:PE X l tl):PI X tg l (AaE X.K tl):=by
 intro pins s σ H R I h;refine Ap (J pins s σ H _ I h) λv B L=>AG L λx O D V Y=>?_;obtain ⟨a,e,⟨xs,hq⟩,q⟩:=Av Y;subst e;cases V;obtain ⟨its,rv,p,hz⟩:=Av (D.list hq);refine Zf p.isList ?_;refine ⟨B.heap.objs.size,[B.heap.objs.size],_,_,O,rfl,D.kept (t':=B.toks) λb o e=>UA _ e,AaB a _,⟨_,Va _ rfl,rfl,rfl⟩,λb hb=>?_,q⟩;have e:b=B.heap.objs.size:=by simpa using hb
 subst e;exact D.fJ (Uq _) (D.af.fresh (Uq _))
theorem Og {l:T9}{tl:TE}(J:PE X l tl):PI X tg l (AaF X.K tl):=by
 intro pins s σ H R I h;refine Ap (J pins s σ H _ I h) λv B L=>AG L λx O D V Y=>?_;obtain ⟨a,e,⟨xs,hq⟩,q⟩:=Av Y;subst e;cases V;obtain ⟨its,rv,p,hz⟩:=Av (D.tuple hq);refine Zg (show B.heap.IsTuple a its.toArray from p) ?_;refine ⟨B.heap.objs.size,[B.heap.objs.size],_,_,O,rfl,D.kept (t':=B.toks) λb o e=>UA _ e,AaC a _,⟨_,Va _ rfl,rfl,rfl⟩,λb hb=>?_,q⟩;have e:b=B.heap.objs.size:=by simpa using hb
 subst e;exact D.fJ (Uq _) (D.af.fresh (Uq _))
theorem Oh {pins:List (Addr×Obj)}{σ:St}{H:Hp}{s:T2}{R:It->Hp->Prop}{E:Value->T2->Prop}{lo B:Int}{t u v:Tok}{tk:Nat}(I:Ad X pins σ H s)(J:-(2 ^ 62)<=lo)(L:lo<2 ^ 62)(h3:-(2 ^ 62)<=B)(O:B<2 ^ 62)(q:R (Eb lo (B - lo).toNat) H):T5 (T8 X.prog X.w) X.A (XZ (.ref s.heap.objs.size)) (Of X pins σ tg R) E { s with heap:=s.heap.push { cls:=.type "range",data:=.fields #[.int lo t,.int B u,.int 1 v] },toks:=tk }:=by
 refine wpAny_pyIter_range (IsRange.new ..) (small_one J L h3 O) ?_;have D:Ad X pins σ H { s with heap:=s.heap.push { cls:=.type "range",data:=.fields #[.int lo t,.int B u,.int 1 v] },toks:=tk }:=I.kept λb o e=>UA _ e;refine ⟨(s.heap.push { cls:=.type "range",data:=.fields #[.int lo t,.int B u,.int 1 v] }).objs.size,[(s.heap.push { cls:=.type "range",data:=.fields #[.int lo t,.int B u,.int 1 v] }).objs.size],_,_,H,rfl,
  D.kept (t':=tk) λb o e=>UA _ e,AaD _ lo (B - lo).toNat,?_,λb hb=>?_,q⟩
 .have V:lo+((0:Nat):Int) * 1=lo:=by simp
  have Y:(((B - lo).toNat:Nat):Int) - ((0:Nat):Int)=Builtin.Range.rangeSize lo B 1:=by rw [rangeSize_one];split<;>omega
  show IsRangeIter _ _ (lo+((0:Nat):Int) * 1) ((((B - lo).toNat:Nat):Int) - ((0:Nat):Int)) 1;rw [V,Y];exact Va _ rfl
 .have e:b=(s.heap.push { cls:=.type "range",data:=.fields #[.int lo t,.int B u,.int 1 v] }).objs.size:=by simpa using hb
  subst e;exact D.fJ (Uq _) (D.af.fresh (Uq _))
def Oi (ta:TA):TI:=λσ H R=>ta σ H λvs H1=>∃ j:Int,vs=[.int j]/\-(2 ^ 62)<=j/\j<2 ^ 62/\R (Eb 0 j.toNat) H1
def Oj (ta:TA):TI:=λσ H R=>ta σ H λvs H1=>∃ i j:Int,vs=[.int i,.int j]/\(-(2 ^ 62)<=i/\i<2 ^ 62/\-(2 ^ 62)<=j/\j<2 ^ 62)/\R (Eb i (j - i).toNat) H1
theorem AaG {a:T9}{D:TA}{p pos:Pos}(J:Gl X "range")(L:X.mg "range"=none)(O:PA X [a] D)(hs:Ul [a] X.env=[(false,Ui a X.env)]:=by rfl):PI X tg (.Call (.Name "range" p) [a] [] pos) (Oi D):=by
 intro pins s σ H R I h;refine Call_ (FC I J L boot_range (X5 (Ap (O pos pins s σ H _ I h) λus s1 V=>AG V λvs H1 Y r1 B=>?_) hs rfl));replace B:=Av B;obtain ⟨j,e,B,q2,q⟩:=B
 subst e;cases r1 with
 | cons r rr =>
  cases rr;obtain ⟨t,rfl⟩:=r;exact call_range_1 (Oh Y (by omega) (by omega) B q2 (by simpa using q))
theorem AaH {a b:T9}{J:TA}{p pos:Pos}(O:Gl X "range")(V:X.mg "range"=none)(Y:PA X [a,b] J)(hs:Ul [a,b] X.env=[(false,Ui a X.env),(false,Ui b X.env)]:=by rfl)(L:Ul [b] X.env=[(false,Ui b X.env)]:=by rfl) :
  PI X tg (.Call (.Name "range" p) [a,b] [] pos) (Oj J):=by
 intro pins s σ H R I h;refine Call_ (FC I O V boot_range (X5 (Ap (Y pos pins s σ H _ I h) λus s1 zz=>AG zz λvs H1 I1 r1 B=>?_) (by rw [hs,L]) (by rw [L];rfl)));replace B:=AY B;obtain ⟨i,j,e,⟨B,q2,q3,q4⟩,q⟩:=B
 subst e;cases r1 with
 | cons r D =>
  cases D with
  | cons r' D =>
   cases D;obtain ⟨t,rfl⟩:=r;obtain ⟨t',rfl⟩:=r';exact call_range_2 (Oh I1 B q2 q3 q4 q)
def AaI (wi:TI)(g:TG)(tb:TS):TS:=λD σ H=>wi σ H λJ H1=>∃ W:Nat->Nat->St->Hp->Prop,(∃ m,W 0 m σ H1)/\∀ i m σ H,W i m σ H ->
 (J.stop i H/\D.nx σ H)\/(J.go i H/\∃ N:St->Hp->Prop,(∀ σ' H',N σ' H'->∃ m',m'<m/\W (i+1) m' σ' H')/\∀ x H',J.bY i H x H'->g x σ H' λσ2 H2=>tb { D with nx:=N,ct:=N,bk:=D.nx } σ2 H2)
noncomputable def FF (fp:List Addr)(h:Heap):List (Addr×Obj):=fp.filterMap λb=>(h.get? b).map λo=>(b,o)
theorem Fd {B:List Addr}{h:Heap}{b:Addr}{o:Obj}(hb:b∈B)(e:h.get? b=some o):(b,o)∈FF B h:=Zh.mpr ⟨b,hb,by rw [e];rfl⟩
theorem AaJ {B:List Addr}{h:Heap}{p:Addr×Obj}(D:p∈FF B h):p.1∈B/\h.get? p.1=some p.2:=by
 obtain ⟨b,hb,e⟩:=Ag (Zh.mp D);cases q:h.get? b with
 | none=>rw [q] at e;cases e
 | some o =>
  rw [q] at e;have H:(b,o)=p:=UK e;subst H;exact ⟨hb,q⟩
theorem Ad.pinned {pins:List (Addr×Obj)}{σ:St}{H:Hp}{s:T2}{B:List Addr}(I:Ad X pins σ H s)(J:∀ b∈B,De X pins H b)(L:∀ b∈B,∃ o,s.heap.get? b=some o/\∀ v,o.data≠.cell v):Ad X (pins++FF B s.heap) σ H s :=
 I.qL λp O=>(UU.mp O).elim (λz=>I.pin p (U0 _ z)) λz=>by
  obtain ⟨hb,e⟩:=AaJ z;obtain ⟨V,f1,f2,_⟩:=AD (J p.1 hb);obtain ⟨o,D,d⟩:=Ag (L p.1 hb);rw [e] at D;cases D;exact ⟨e,V,f1,f2,d⟩
theorem Ad.gj {pins pl:List (Addr×Obj)}{σ:St}{H:Hp}{s:T2}(I:Ad X (pins++pl) σ H s):Ad X pins σ H s:=I.qL λp B=>I.pin p (U0 _ (Yv _ B))
theorem CO {iter:T9}{body:List Stmt}{wi:TI}{g:TG}{tb:TS}{pos:Pos}(Y:Yw (T8 X.prog X.w) X.A X.env X.xe)(hc:X.calm=true)(hi:PI X tg iter wi)(hg:PG X tg g)(hb:CN X body tb)(hs:∀ x,WE iter X.env x=pure x:=by intro _;rfl):PS X (.For tg iter body [] pos) (AaI wi g tb):=by
 intro pins s σ H D I h;refine wpAny_For (Ap (hi pins s σ H _ I h) λv s1 h1=>Ap h1 λiT s2 h2=>?_) hs;obtain ⟨it,fp,tn,J,H2,e,I2,T,st2,f2,W,⟨m0,w0⟩,turn⟩:=Dm h2;subst e;have mH:∀{V:Hp},(∀ b∈fp,V b=none)->∀ b∈fp,De X pins V b:=λhn b hb=>⟨hn b hb,(f2 b hb).2⟩;refine codeAny_forLoop_any (λn s'=>∃ i σ' V,Ad X pins σ' V s'/\tn i s'.heap/\(∀ b∈fp,V b=none)/\W i n σ' V) ?_ m0 ⟨0,σ,H2,I2,st2,λb hb=>(f2 b hb).1,w0⟩;rintro n s3 ⟨i,σ3,H3,I3,dg,dh,w3⟩;rcases turn i n σ3 H3 w3 with ⟨stop,qn⟩ | ⟨go,N,hN,VD⟩
 .refine Xf Y (Ap (T.done X rfl rfl rfl hc i pins s3 σ3 H3 X.xe I3 (mH dh) dg stop) λr s4 ⟨hr,I4⟩=>?_);subst hr;exact XW ⟨σ3,H3,I4,qn⟩
 .refine Xf Y (Ap (T.item X rfl rfl rfl hc i pins s3 σ3 H3 X.xe I3 (mH dh) dg go) λr s4 zz=>CL zz λu hr h4=>?_);subst hr;refine Xf Y (Ap h4 λ_ s5 zz=>AG zz λx H5 I5 r5 ⟨y5,cg,gm⟩=>?_);have gp:=I5.pinned (mH gm) (T.obj _ _ cg);refine Xf Y (Ap (hg _ s5 σ3 H5 x u _ gp r5 (VD x H5 y5)) λ_ s6 zz=>Hf zz λσ6 H6 I6 q6=>?_);refine Xf Y (Ap (hb _ s6 σ6 H6 _ I6 q6) λf s7 B=>?_);have again:∀{σ7:St}{L:Hp},Ad X (pins++FF fp s5.heap) σ7 L s7->N σ7 L->∃ m,m<n/\∃ i σ' V,Ad X pins σ' V s7/\tn i s7.heap/\(∀ b∈fp,V b=none)/\W i m σ' V:=λ{σ7 L} O n7=>by
   obtain ⟨m',hm,w7⟩:=Ag (hN σ7 L n7);refine ⟨m',hm,i+1,σ7,L,O.gj,T.keep _ _ _ cg λb hb o e=>(O.pin (b,o) (U0 _ (U0 _ (Fd hb e)))).1,λb hb=>?_,w7⟩;obtain ⟨o,e,d⟩:=Ag (T.obj _ _ cg b hb);exact (O.pin (b,o) (U0 _ (U0 _ (Fd hb e)))).2.1
  cases f with
  | next=>obtain ⟨σ7,L,O,n7⟩:=AQ B;exact again O n7
  | cont=>obtain ⟨σ7,L,O,n7⟩:=AQ B;exact again O n7
  | brk=>replace B:=AQ B;obtain ⟨σ7,L,O,B⟩:=B;exact ⟨σ7,L,O.gj,B⟩
  | ret v=>replace B:=BI B;obtain ⟨x7,σ7,L,O,r7,B⟩:=B;exact ⟨x7,σ7,L,O.gj,r7,B⟩
end
theorem DW {K:T3}{a:Addr}{xs:List V}{g:TG}{J:TS}{D:DI}{σ:St}{H:Hp}(Pv:Nat->St->Hp->Prop)(O:Pv 0 σ H)(Y:∀ i σ H,i<=xs.length->Pv i σ H->Bg K H a xs)(hs:∀ i x σ H,xs[i]?=some x->Pv i σ H->g x σ H λσ2 I=>J { D with nx:=Pv (i+1),ct:=Pv (i+1),bk:=D.nx } σ2 I)(hd:∀ σ H,Pv xs.length σ H->D.nx σ H) :
  ∃ W:Nat->Nat->St->Hp->Prop,(∃ m,W 0 m σ H)/\∀ i m σ H,W i m σ H ->
   ((DV K a).stop i H/\D.nx σ H)\/((DV K a).go i H/\∃ N:St->Hp->Prop,(∀ σ' B,N σ' B->∃ m',m'<m/\W (i+1) m' σ' B)/\∀ x B,(DV K a).bY i H x B->g x σ B λσ2 I=>J { D with nx:=N,ct:=N,bk:=D.nx } σ2 I):=by
 refine ⟨λi m σ H=>m=xs.length - i/\i<=xs.length/\Pv i σ H,⟨xs.length,by simp,U1 _,O⟩,?_⟩;rintro i m σ H ⟨rfl,hi,p⟩;have q:=Y i σ H hi p;by_cases L:i<xs.length
 .refine .inr ⟨⟨xs,xs[i],q,by simp [L]⟩,Pv (i+1),λσ' B p'=>⟨xs.length - (i+1),by omega,rfl,L,p'⟩,λx B y=>?_⟩;obtain ⟨e,y⟩:=y;subst e;exact hs i x σ _ (y xs q) p
 .have e:i=xs.length:=by omega
  subst e;exact .inl ⟨⟨xs,q,Uq _⟩,hd σ H p⟩
theorem AaK {K:T3}{a:Addr}{xs:List V}{g:TG}{J:TS}{D:DI}{σ:St}{H:Hp}(Pv:Nat->St->Hp->Prop)(O:Pv 0 σ H)(Y:∀ i σ H,i<=xs.length->Pv i σ H->Bt K H a xs)(hs:∀ i x σ H,xs[i]?=some x->Pv i σ H->g x σ H λσ2 I=>J { D with nx:=Pv (i+1),ct:=Pv (i+1),bk:=D.nx } σ2 I)(hd:∀ σ H,Pv xs.length σ H->D.nx σ H) :
  ∃ W:Nat->Nat->St->Hp->Prop,(∃ m,W 0 m σ H)/\∀ i m σ H,W i m σ H ->
   ((Fc K a).stop i H/\D.nx σ H)\/((Fc K a).go i H/\∃ N:St->Hp->Prop,(∀ σ' B,N σ' B->∃ m',m'<m/\W (i+1) m' σ' B)/\∀ x B,(Fc K a).bY i H x B->g x σ B λσ2 I=>J { D with nx:=N,ct:=N,bk:=D.nx } σ2 I):=by
 refine ⟨λi m σ H=>m=xs.length - i/\i<=xs.length/\Pv i σ H,⟨xs.length,by simp,U1 _,O⟩,?_⟩;rintro i m σ H ⟨rfl,hi,p⟩;have q:=Y i σ H hi p;by_cases L:i<xs.length
 .refine .inr ⟨⟨xs,xs[i],q,by simp [L]⟩,Pv (i+1),λσ' B p'=>⟨xs.length - (i+1),by omega,rfl,L,p'⟩,λx B y=>?_⟩;obtain ⟨e,y⟩:=y;subst e;exact hs i x σ _ (y xs q) p
 .have e:i=xs.length:=by omega
  subst e;exact .inl ⟨⟨xs,q,Uq _⟩,hd σ H p⟩
theorem Hr {lo:Int}{n:Nat}{g:TG}{L:TS}{D:DI}{σ:St}{H:Hp}(Pv:Nat->St->Hp->Prop)(O:Pv 0 σ H)(hs:∀ i σ H,i<n->Pv i σ H->g (.int (lo+i)) σ H λσ2 I=>L { D with nx:=Pv (i+1),ct:=Pv (i+1),bk:=D.nx } σ2 I)(hd:∀ σ H,Pv n σ H->D.nx σ H) :
  ∃ W:Nat->Nat->St->Hp->Prop,(∃ m,W 0 m σ H)/\∀ i m σ H,W i m σ H ->
   ((Eb lo n).stop i H/\D.nx σ H)\/((Eb lo n).go i H/\∃ N:St->Hp->Prop,(∀ σ' B,N σ' B->∃ m',m'<m/\W (i+1) m' σ' B)/\∀ x B,(Eb lo n).bY i H x B->g x σ B λσ2 I=>L { D with nx:=N,ct:=N,bk:=D.nx } σ2 I):=by
 refine ⟨λi m σ H=>m=n - i/\i<=n/\Pv i σ H,⟨n,by simp,U1 _,O⟩,?_⟩;rintro i m σ H ⟨rfl,Y,p⟩;by_cases J:i<n
 .refine .inr ⟨J,Pv (i+1),λσ' B V=>⟨n - (i+1),by omega,rfl,J,V⟩,λx B y=>?_⟩;obtain ⟨e,y⟩:=y;subst e y;exact hs i σ _ J p
 .have e:i=n:=by omega
  subst e;exact .inl ⟨Uq _,hd σ H p⟩
abbrev R2:=V->V->Hp->VK->Prop
def Bf (X:Cx)(f:Value->Value->Sem Value)(r:R2):Prop :=
 ∀(pins:List (Addr×Obj))(s:T2)(σ:St)(H:Hp)(x y:V)(v u:Value)(Q:VK),Ad X pins σ H s->AE x v->AE y u->r x y H Q ->
  T5 (T8 X.prog X.w) X.A (f v u) (EP X pins σ Q) X.xe s
def BJ (X:Cx)(f:Value)(r:List V->Hp->VK->Prop):Prop :=
 ∀(pins:List (Addr×Obj))(s:T2)(σ:St)(H:Hp)(xs:List V)(us:List Value)(Q:VK),Ad X pins σ H s->Ay xs us->r xs H Q ->
  T5 (T8 X.prog X.w) X.A (call f us) (EP X pins σ Q) X.xe s
def AaL (X:Cx)(r:V->Hp->(Bool->Hp->Prop)->Prop):Prop :=
 ∀(pins:List (Addr×Obj))(s:T2)(σ:St)(H:Hp)(x:V)(v:Value)(Q:Bool->Hp->Prop),Ad X pins σ H s->AE x v->r x H Q ->
  T5 (T8 X.prog X.w) X.A (truthy v) (TP X pins σ Q) X.xe s
def I0 (r:R2)(ta tb:TE):TE:=λσ H Q=>ta σ H λx H1=>tb σ H1 λy H2=>r x y H2 Q
def rI (C:Int->Int->Prop)(g:Int->Int->V):R2:=λx y H Q=>∃ i j,x=.int i/\y=.int j/\C i j/\Q (g i j) H
def Fe (g:Int->Int->V):R2:=λx y H Q=>∃ i j,x=.int i/\y=.int j/\Q (g i j) H
section
variable {X:Cx}{a b c:T9}{ta tb tc:TE}{pos:Pos}
theorem K5 (O:PE X a ta)(hb:PE X b tb){pins:List (Addr×Obj)}{s:T2}{σ:St}{H:Hp}{R:V->V->Hp->Prop}(I:Ad X pins σ H s)(h:ta σ H λx J=>tb σ J λy B=>R x y B){Q:Value->T2->Prop}{f:Value->Value->Sem Value}(Y:∀ v u D x y B,Ad X pins σ B D->AE x v->AE y u->R x y B->T5 (T8 X.prog X.w) X.A (f v u) Q X.xe D) :
  T5 (T8 X.prog X.w) X.A (Ui a X.env) (λv s₁=>T5 (T8 X.prog X.w) X.A (Ui b X.env) (λu s₂=>T5 (T8 X.prog X.w) X.A (f v u) Q X.xe s₂) X.xe s₁) X.xe s:=by
 refine Ap (O pins s σ H _ I h) λv s1 L=>AG L λx J I1 r1 q1=>?_;refine Ap (hb pins s1 σ J _ I1 q1) λu D L=>AG L λy B I2 r2 q2=>?_;exact Y v u D x y B I2 r1 r2 q2
theorem As {B:XY}{r:R2}(D:Bf X (VP B) r)(J:PE X a ta)(hb:PE X b tb):PE X (.BinOp a B b pos) (I0 r ta tb):=by intro pins s σ H Q I h;exact wpAny_BinOp (K5 J hb I h λv u L x y O V Y ry q=>D pins L σ O x y v u Q V Y ry q)
theorem Ja {f:Value->Value->Sem Value}{C:Int->Int->Prop}{g:Int->Int->Int}(rule:∀ (i j:Int) (t u:Tok) (s:T2) (Q:Value->T2->Prop) (E:Value->T2->Prop),C i j->Q (.int (g i j) s.toks) { s with toks:=s.toks+1 }->T5 (T8 X.prog X.w) X.A (f (.int i t) (.int j u)) Q E s) :
  Bf X f (rI C λi j=>.int (g i j)):=by
 intro pins s σ H x y v u Q I B D h;replace h:=AY h;obtain ⟨i,j,rfl,rfl,hc,q⟩:=h
 obtain ⟨t,rfl⟩:=B;obtain ⟨J,rfl⟩:=D;exact rule i j t J s _ _ hc ⟨.int (g i j),H,I.tok _,⟨_,rfl⟩,q⟩
theorem Ol {f:Value->Value->Sem Value}{g:Int->Int->Int}(rule:∀ (i j:Int) (t u:Tok) (s:T2) (Q:Value->T2->Prop) (E:Value->T2->Prop),Q (.int (g i j) s.toks) { s with toks:=s.toks+1 }->T5 (T8 X.prog X.w) X.A (f (.int i t) (.int j u)) Q E s) :
  Bf X f (Fe λi j=>.int (g i j)):=by
 intro pins s σ H x y v u Q I B D h;replace h:=AY h;obtain ⟨i,j,rfl,rfl,q⟩:=h
 obtain ⟨t,rfl⟩:=B;obtain ⟨J,rfl⟩:=D;exact rule i j t J s _ _ ⟨.int (g i j),H,I.tok _,⟨_,rfl⟩,q⟩
theorem Jb {f:Value->Value->Sem Value}{g:Int->Int->Bool}(rule:∀ (i j:Int) (t u:Tok) (s:T2) (Q:Value->T2->Prop) (E:Value->T2->Prop),Q (.bool (g i j)) s->T5 (T8 X.prog X.w) X.A (f (.int i t) (.int j u)) Q E s) :
  Bf X f (Fe λi j=>.bl (g i j)):=by
 intro pins s σ H x y v u Q I B D h;replace h:=AY h;obtain ⟨i,j,rfl,rfl,q⟩:=h
 obtain ⟨t,rfl⟩:=B;obtain ⟨J,rfl⟩:=D;exact rule i j t J s _ _ ⟨.bl (g i j),H,I,rfl,q⟩
def Om (i j:Int):Prop:=0<j/\j<1073741824
def AaM (i j:Int):Prop:=0<=j/\j<=1000000/\i.natAbs<2 ^ 64
def Hs (i j:Int):Prop:=(-(2 ^ 64)<i/\i<2 ^ 64)\/(-(2 ^ 64)<j/\j<2 ^ 64)
theorem Hs.ok {i j:Int}(h:Hs i j):IntMulOk i j:=by
 rcases h with ⟨B,D⟩ | ⟨B,D⟩
 .exact .of_left (intBits_le_64 B D)
 .exact .of_right (intBits_le_64 B D)
theorem AaN:Bf X (VP .Add) (Fe λi j=>.int (i+j)):=Ol λ_ _ _ _ _ _ _ q=>add_int q
theorem Ec:Bf X (VP .Sub) (Fe λi j=>.int (i - j)):=Ol λ_ _ _ _ _ _ _ q=>sub_int q
theorem AaO:Bf X (VP .Mult) (rI Hs λi j=>.int (i * j)):=Ja λ_ _ _ _ _ _ _ hc q=>mul_int q hc.ok
theorem DX:Bf X (VP .FloorDiv) (rI Om λi j=>.int (i / j)):=Ja λi j _ _ _ _ _ hc q=>by
 have B:(0:Int)<j:=hc.1;have D:j<1073741824:=hc.2;exact floordiv_int (by omega) (by rw [Int.fdiv_eq_ediv_of_nonneg i (by omega)];exact q) (.inl (PyProof.noPylong_small (by omega)))
theorem Bz:Bf X (VP .Mod) (rI (λ_ j=>0<j) λi j=>.int (i % j)):=Ja λi j _ _ _ _ _ hc q=>by
 have B:(0:Int)<j:=hc;exact mod_int' (by omega) (by rw [Int.fmod_eq_emod_of_nonneg i (by omega)];exact q)
theorem AaP:Bf X (VP .Pow) (rI AaM λi j=>.int (i ^ j.toNat)):=Ja λ_ _ _ _ _ _ _ hc q=>pow_int_small hc.1 hc.2.1 hc.2.2 q
end
noncomputable def Oo:V->V->Bool
 | .aa,.aa=>true | .aa,.int _=>true | .int _,.aa=>true | .aa,.bl _=>true | .bl _,.aa=>true | .aa,.str _=>true | .str _,.aa=>true
 | .int _,.int _=>true | .bl _,.bl _=>true | .str _,.str _=>true | .cw _,.cw _=>true
 | .int _,.str _=>true | .str _,.int _=>true | .bl _,.str _=>true | .str _,.bl _=>true
 | _,_=>false
def Oq:R2:=λx y H Q=>Oo x y=true/\Q (.bl (decide (x=y))) H
def Ot:R2:=λx y H Q=>Oo x y=true/\Q (.bl (!decide (x=y))) H
theorem Ou {i j:Int}:decide (V.int i=V.int j)=(i == j):=by rw [WH];simp
theorem Ov {i j:Bool}:decide (V.bl i=V.bl j)=(i == j):=by rw [WH];simp
theorem Ow {i j:Str}:decide (V.str i=V.str j)=(i == j):=by rw [WH];simp
theorem Ox {i j:Array UInt8}:decide (V.cw i=V.cw j)=(i.toList == j.toList):=by rw [WH];cases i;cases j;simp
section
variable {X:Cx}{a b c:T9}{ta tb tc:TE}{pos:Pos}
theorem BD {pins:List (Addr×Obj)}{σ:St}{H:Hp}{s:T2}{Q:VK}{k k':Bool}(I:Ad X pins σ H s)(q:Q (.bl k) H)(e:k=k'):EP X pins σ Q (.bool k') s:=by subst e;exact ⟨.bl k,H,I,rfl,q⟩
theorem AaQ:Bf X (UW .Eq) Oq:=by
 intro pins s σ H x y v u Q I J B h;obtain ⟨hs,q⟩:=h;cases x with
 | aa =>
  cases J;cases y with
  | aa=>cases B;exact PySem.EqNone.eq_none_none (BD I q (by simp))
  | bl j=>cases B;exact PySem.EqNone.eq_none_bool (BD I q (by simp))
  | int j=>obtain ⟨D,rfl⟩:=B;exact PySem.EqNone.eq_none_int (BD I q (by simp))
  | str j=>obtain ⟨D,rfl⟩:=B;exact PySem.EqNone.eq_none_str (BD I q (by simp))
  | _=>exact absurd (show false=true from hs) UT
 | bl i =>
  cases J;cases y with
  | aa=>cases B;exact PySem.EqNone.eq_bool_none (BD I q (by simp))
  | bl j=>cases B;exact eq_bool (BD I q Ov)
  | str j=>obtain ⟨D,rfl⟩:=B;exact PySem.EqMixed.eq_bool_str (BD I q (by simp))
  | _=>exact absurd (show false=true from hs) UT
 | int i =>
  obtain ⟨t,rfl⟩:=J;cases y with
  | aa=>cases B;exact PySem.EqNone.eq_int_none (BD I q (by simp))
  | int j=>obtain ⟨D,rfl⟩:=B;exact eq_int (BD I q Ou)
  | str j=>obtain ⟨D,rfl⟩:=B;exact PySem.EqMixed.eq_int_str (BD I q (by simp))
  | _=>exact absurd (show false=true from hs) UT
 | str i =>
  obtain ⟨t,rfl⟩:=J;cases y with
  | aa=>cases B;exact PySem.EqNone.eq_str_none (BD I q (by simp))
  | bl j=>cases B;exact PySem.EqMixed.eq_str_bool (BD I q (by simp))
  | int j=>obtain ⟨D,rfl⟩:=B;exact PySem.EqMixed.eq_str_int (BD I q (by simp))
  | str j=>obtain ⟨D,rfl⟩:=B;exact eq_str (BD I q Ow)
  | _=>exact absurd (show false=true from hs) UT
 | cw i =>
  obtain ⟨t,rfl⟩:=J;cases y with
  | cw j=>obtain ⟨D,rfl⟩:=B;exact PySem.W.eq_bytes (BD I q Ox)
  | _=>exact absurd (show false=true from hs) UT
 | _=>cases y<;>exact absurd (show false=true from hs) UT
theorem AaR:Bf X (UW .NotEq) Ot:=by
 intro pins s σ H x y v u Q I J B h;obtain ⟨hs,q⟩:=h;cases x with
 | aa =>
  cases J;cases y with
  | aa=>cases B;exact PySem.EqNone.ne_none_none (BD I q (by simp))
  | bl j=>cases B;exact PySem.EqNone.ne_none_bool (BD I q (by simp))
  | int j=>obtain ⟨D,rfl⟩:=B;exact PySem.EqNone.ne_none_int (BD I q (by simp))
  | str j=>obtain ⟨D,rfl⟩:=B;exact PySem.EqNone.ne_none_str (BD I q (by simp))
  | _=>exact absurd (show false=true from hs) UT
 | bl i =>
  cases J;cases y with
  | aa=>cases B;exact PySem.EqNone.ne_bool_none (BD I q (by simp))
  | bl j=>cases B;exact ne_bool (BD I q (congrArg not Ov))
  | str j=>obtain ⟨D,rfl⟩:=B;exact PySem.EqMixed.ne_bool_str (BD I q (by simp))
  | _=>exact absurd (show false=true from hs) UT
 | int i =>
  obtain ⟨t,rfl⟩:=J;cases y with
  | aa=>cases B;exact PySem.EqNone.ne_int_none (BD I q (by simp))
  | int j=>obtain ⟨D,rfl⟩:=B;exact ne_int (BD I q (congrArg not Ou))
  | str j=>obtain ⟨D,rfl⟩:=B;exact PySem.EqMixed.ne_int_str (BD I q (by simp))
  | _=>exact absurd (show false=true from hs) UT
 | str i =>
  obtain ⟨t,rfl⟩:=J;cases y with
  | aa=>cases B;exact PySem.EqNone.ne_str_none (BD I q (by simp))
  | bl j=>cases B;exact PySem.EqMixed.ne_str_bool (BD I q (by simp))
  | int j=>obtain ⟨D,rfl⟩:=B;exact PySem.EqMixed.ne_str_int (BD I q (by simp))
  | str j=>obtain ⟨D,rfl⟩:=B;exact ne_str (BD I q (congrArg not Ow))
  | _=>exact absurd (show false=true from hs) UT
 | cw i =>
  obtain ⟨t,rfl⟩:=J;cases y with
  | cw j=>obtain ⟨D,rfl⟩:=B;exact PySem.W.ne_bytes (BD I q (congrArg not Ox))
  | _=>exact absurd (show false=true from hs) UT
 | _=>cases y<;>exact absurd (show false=true from hs) UT
theorem K6:Bf X (UW .Lt) (Fe λi j=>.bl (decide (i<j))):=Jb λ_ _ _ _ _ _ _ q=>lt_int q
theorem K7:Bf X (UW .LtE) (Fe λi j=>.bl (decide (i<=j))):=Jb λ_ _ _ _ _ _ _ q=>le_int q
theorem Jc:Bf X (UW .Gt) (Fe λi j=>.bl (decide (j<i))):=Jb λ_ _ _ _ _ _ _ q=>gt_int q
theorem AaS:Bf X (UW .GtE) (Fe λi j=>.bl (decide (j<=i))):=Jb λ_ _ _ _ _ _ _ q=>ge_int q
theorem AaT:Bf X (UW .In) (λx y H Q=>∃ i j,x=.str i/\y=.str j/\Q (.bl (!(Zi j i 0 j.length 1).isEmpty)) H):=by
 intro pins s σ H x y v u Q I B D h;replace h:=AY h;obtain ⟨i,j,rfl,rfl,q⟩:=h
 obtain ⟨t,rfl⟩:=B;obtain ⟨J,rfl⟩:=D;exact in_str (BD I q rfl)
theorem FG:Bf X (UW .Is) (λx y H Q=>y=.aa/\Q (.bl (decide (x=.aa))) H):=by
 intro pins s σ H x y v u Q I B D h;obtain ⟨rfl,q⟩:=h;cases D;refine is_none_gen (BD I q ?_);cases x<;>first
  | (cases B;rfl)
  | (obtain ⟨t,rfl⟩:=B;rfl)
theorem Oy:Bf X (UW .IsNot) (λx y H Q=>y=.aa/\Q (.bl (!decide (x=.aa))) H):=by
 intro pins s σ H x y v u Q I B D h;obtain ⟨rfl,q⟩:=h;cases D;refine isnot_none_gen (BD I q ?_);cases x<;>first
  | (cases B;rfl)
  | (obtain ⟨t,rfl⟩:=B;rfl)
theorem Bf.or {f:Value->Value->Sem Value}{r B:R2}(h:Bf X f r)(h':Bf X f B):Bf X f (λx y H Q=>r x y H Q\/B x y H Q):=by
 intro pins s σ H x y v u Q I D J q;rcases q with q | q
 .exact h pins s σ H x y v u Q I D J q
 .exact h' pins s σ H x y v u Q I D J q
theorem Bb (b:T9){B:CmpOp}(h:B≠.In:=by decide)(D:B≠.NotIn:=by decide):Yx B b=false:=by
 have H:(B == CmpOp.In)=false:=by cases B<;>first | rfl | exact absurd rfl h
 have I:(B == CmpOp.NotIn)=false:=by cases B<;>first | rfl | exact absurd rfl D
 cases b<;>simp [Yx,H,I]
theorem Gp {B:CmpOp}{r:R2}(D:Bf X (UW B) r)(J:PE X a ta)(hb:PE X b tb)(L:Yx B b=false):PE X (.Compare a [B] [b] pos) (I0 r ta tb):=by intro pins s σ H Q I h;exact wpAny_Compare1 (K5 J hb I h λv u O x y V Y rx ry q=>D pins O σ V x y v u Q Y rx ry q) L
def Oz (t:TE):TT:=λσ H Q=>t σ H λx H'=>∃ k,x=.bl k/\Q k H'
theorem A5 {B:CmpOp}{r:R2}(J:Bf X (UW B) r)(L:PE X a ta)(hb:PE X b tb)(O:Yx B b=false):PT X (.Compare a [B] [b] pos) (Oz (I0 r ta tb)):=by
 intro pins s σ H Q I h;refine wpAny_isTrue_Compare1 (Ap (L pins s σ H _ I h) λv V D=>AG D λx Y I1 r1 q1=>Ap (hb pins V σ Y _ I1 q1) λu s2 ⟨y,H2,I2,r2,q2⟩ =>
  Ap (J pins s2 σ H2 x y v u _ I2 r1 r2 q2) λc s3 D=>AG D λz H3 I3 r3 ⟨k,e,q3⟩=>?_) O
 subst e;cases r3;exact Ws ⟨H3,I3,q3⟩
def OA (r r':R2)(ta tb tc:TE):TE:=λσ H Q=>ta σ H λx H1=>tb σ H1 λy H2=>r x y H2 λz H3=>∃ k,z=.bl k /\
 (if k=true then tc σ H3 λw' H4=>r' y w' H4 Q else Q (.bl false) H3)
theorem AaU {D J:CmpOp}{r L:R2}(ho:Bf X (UW D) r)(cY:Bf X (UW J) L)(ha:PE X a ta)(hb:PE X b tb)(hc:PE X c tc)(hm:lastMarks [D,J] [b,c]=false:=by with_unfolding_all rfl):PE X (.Compare a [D,J] [b,c] pos) (OA r L ta tb tc):=by
 intro pins s σ H Q I h;refine Compare_chain (Ap (ha pins s σ H _ I h) λv s1 B=>AG B λx H1 I1 r1 q1=>chain_link (Ap (hb pins s1 σ H1 _ I1 q1) λu s2 ⟨y,H2,I2,O,q2⟩ =>
  Ap (ho pins s2 σ H2 x y v u _ I2 r1 O q2) λd s3 B=>AG B λz V Y r3 ⟨k,e,q3⟩=>?_)) hm
 subst e;cases r3;refine Ws ?_;cases k with
 | false=>exact ite_ff ⟨.bl false,V,Y,rfl,q3⟩
 | true=>exact ite_tt (chain_last (Ap (hc pins s3 σ V _ Y q3) λw' s4 B=>AG B λz' H4 I4 r4 q4=>cY pins s4 σ H4 y z' u w' Q I4 O r4 q4))
theorem AaV {D J:CmpOp}{r L:R2}(ho:Bf X (UW D) r)(cY:Bf X (UW J) L)(ha:PE X a ta)(hb:PE X b tb)(hc:PE X c tc)(hm:lastMarks [D,J] [b,c]=false:=by with_unfolding_all rfl):PT X (.Compare a [D,J] [b,c] pos) (Oz (OA r L ta tb tc)):=by
 intro pins s σ H Q I h;refine isTrue_chain (Ap (ha pins s σ H _ I h) λv s1 B=>AG B λx H1 I1 r1 q1=>test_link (Ap (hb pins s1 σ H1 _ I1 q1) λu s2 ⟨y,H2,I2,O,q2⟩ =>
  Ap (ho pins s2 σ H2 x y v u _ I2 r1 O q2) λd s3 B=>AG B λz V Y r3 ⟨k,e,q3⟩=>?_)) hm
 subst e;cases r3;refine Ws ?_;cases k with
 | false =>
  obtain ⟨k',e',q'⟩:=Ag q3;cases e';exact ite_ff ⟨V,Y,q'⟩
 | true =>
  refine ite_tt (test_last (Ap (hc pins s3 σ V _ Y q3) λw' s4 B=>AG B λz' H4 I4 r4 q4=>Ap (cY pins s4 σ H4 y z' u w' _ I4 O r4 q4) λd' s5 B=>AG B λz2 H5 I5 r5 ⟨k2,e2,q5⟩=>?_));subst e2;cases r5;exact Ws ⟨H5,I5,q5⟩
def K8 (K:T3)(x:V)(H:Hp)(k:Bool):Prop :=
 match x with
 | .aa=>k=false
 | .bl b=>k=b
 | .int i=>k=(i != 0)
 | .str y=>y.length<=sizeLine/\k=((y.length:Int) != 0)
 | .cw y=>y.size<=sizeLine/\k=((y.size:Int) != 0)
 | .ref p=>(∃ xs,Bg K H p xs/\k=!xs.isEmpty)\/(∃ xs,Bt K H p xs/\k=!xs.isEmpty)\/∃ kvs,H p=some (.dK kvs)/\k=!kvs.isEmpty
 | _=>False
theorem AaW {κ:Type}{kvs:List (κ×V)}{vs:List (κ×Value)}(r:KV kvs vs):(!vs.isEmpty)=!kvs.isEmpty:=by cases r<;>rfl
theorem OB {xs:List V}{its:List Value}(r:Ay xs its):(!its.toArray.isEmpty)=!xs.isEmpty:=by cases r<;>simp
theorem Ff:(sizeLine:Nat)<2 ^ 63:=by rw [Uc];decide
theorem OC:AaL X (λx H Q=>∃ k,K8 X.K x H k/\Q k H):=by
 intro pins s σ H x v Q I O h;obtain ⟨k,e,q⟩:=Ag h;have Y:=Ff;have hs:sizeLine=16777216:=Uc;cases x with
 | aa =>
  cases O;have B:k=false:=e;subst B;exact truthy_none ⟨H,I,q⟩
 | bl b =>
  cases O;have B:k=b:=e;subst B;exact Ws ⟨H,I,q⟩
 | int i =>
  obtain ⟨t,rfl⟩:=O;have B:k=(i != 0):=e;subst B;exact PySem.P.truthy_int ⟨H,I,q⟩
 | str y =>
  obtain ⟨t,rfl⟩:=O;obtain ⟨hy,B⟩:y.length<=sizeLine/\k=((y.length:Int) != 0):=e;subst B;exact PySem.P.truthy_str (by omega) ⟨H,I.tok _,q⟩
 | cw y =>
  obtain ⟨t,rfl⟩:=O;obtain ⟨hy,B⟩:y.size<=sizeLine/\k=((y.size:Int) != 0):=e;subst B;exact PySem.W.truthy_bytes (by omega) ⟨H,I.tok _,q⟩
 | ref p =>
  cases O;have B:(∃ L,Bg X.K H p L/\k=!L.isEmpty)\/(∃ L,Bt X.K H p L/\k=!L.isEmpty)\/∃ D,H p=some (.dK D)/\k=!D.isEmpty:=e;rcases B with ⟨L,hx,B⟩ | ⟨L,hx,B⟩ | ⟨D,hx,B⟩
  .subst B;obtain ⟨its,r,pl,V⟩:=Av (I.list hx);have J:=r.length;exact wpAny_truthy_list pl.isList (by simp only [UG];omega) ⟨H,I.tok _,by rw [OB r];exact q⟩
  .subst B;obtain ⟨its,r,pl,V⟩:=Av (I.tuple hx);have J:=r.length;exact truthy_tuple pl (by simp only [UG];omega) ⟨H,I.tok _,by rw [OB r];exact q⟩
  .subst B;obtain ⟨V,hS,vs,r,m⟩:D.length<=sizeLine/\(p == Vq)=false/\∃ vs,KV D vs/\s.heap.DictOf (Bv X.prog X.w) p vs:=I.af p _ hx;have J:D.length=vs.length:=Paired.length r;exact wpAny_truthy_dict hS m (by omega) ⟨H,I.tok _,by rw [AaW r];exact q⟩
 | _=>exact (show False from e).elim
theorem AaX (J:PE X a ta)(L:∀ B,XU a X.env B=(do let v <- B;VC a.pos;Vs [v] (truthy v))) :
  PT X a (λσ H Q=>ta σ H λx D=>∃ k,K8 X.K x D k/\Q k D):=by
 intro pins s σ H Q I h;exact isTrue_plain (Ap (J pins s σ H _ I h) λv O V=>AG V λx Y I1 r1 q1=>OC pins O σ Y x v Q I1 r1 q1) (L _)
theorem AaY:Bf X (VP .Add) (λx y H Q=>∃ i j,x=.str i/\y=.str j/\i.length+j.length<=sizeLine/\Q (.str (i++j)) H):=by
 intro pins s σ H x y v u Q I B D h;replace h:=AY h;obtain ⟨i,j,rfl,rfl,J,q⟩:=h
 obtain ⟨t,rfl⟩:=B;obtain ⟨L,rfl⟩:=D;exact add_str (λL O=>⟨.str (i++j),H,I.tok _,⟨_,rfl⟩,q⟩) J
theorem CZ {x:V}{us:List Value}(r:Ay [x] us):∃ u,us=[u]/\AE x u:=by
 cases r with
 | cons B D=>cases D;exact ⟨_,rfl,B⟩
theorem K9 {x y:V}{us:List Value}(r:Ay [x,y] us):∃ u B,us=[u,B]/\AE x u/\AE y B:=by
 cases r with
 | cons D H =>
  cases H with
  | cons I J=>cases J;exact ⟨_,_,rfl,D,I⟩
theorem AaZ (hc:X.calm=true):BJ X (.builtin "min") (λxs H Q=>∃ i j,xs=[.int i,.int j]/\Q (.int (if j<i then j else i)) H):=by
 intro pins s σ H xs D Q I r h;replace h:=AQ h;obtain ⟨i,j,rfl,q⟩:=h
 obtain ⟨u,J,rfl,⟨t,rfl⟩,⟨L,rfl⟩⟩:=AY (K9 r);refine min_two_ints (I.ok.hd hc) λO V k=>⟨_,H,I.kept k,?_,q⟩;by_cases B:j<i
 .rw [if_pos B,if_pos B];exact ⟨_,rfl⟩
 .rw [if_neg B,if_neg B];exact ⟨_,rfl⟩
theorem OD:BJ X (.type "int") (λxs H Q=>(∃ i,xs=[.int i]/\Q (.int i) H)\/∃ k,xs=[.bl k]/\Q (.int (if k then 1 else 0)) H):=by
 intro pins s σ H xs D Q I r h;rcases h with ⟨i,rfl,q⟩ | ⟨k,rfl,q⟩
 .obtain ⟨u,rfl,t,rfl⟩:=Ag (CZ r);exact call_int_int ⟨.int i,H,I,⟨_,rfl⟩,q⟩
 .obtain ⟨u,rfl,B⟩:=Ag (CZ r);cases B;exact call_int_bool ⟨.int (if k then 1 else 0),H,I.tok _,⟨_,rfl⟩,q⟩
end
structure FH (h:Heap)(x dx C:Addr)(mA:Str->Option Value):Prop where
 obj:h.get? x=some (WB C dx)
 ns:h.Ns1 dx mA
 ne:dx≠x
theorem Aa0 {h:Heap}{dx:Addr}{D:Str->Option Value}(n:h.Ns1 dx D):∃ H,h.get? dx=some H/\∀ name,Yy name H=some (D name):=by
 obtain ⟨o,es,O,I,hd,hk,_,J⟩:=BZ n;refine ⟨o,I,λname=>?_⟩;have e:=J name;unfold nsFind findBy at e;rw [<- Array.find?_toList] at e;unfold Yy;rw [hd];dsimp only;split
 .rename_i y q
  rw [q] at e;exact congrArg some e
 .rename_i q
  rw [q] at e;have a:es.toList.any (·.refKey)=false:=by rw [List.any_eq_false];intro y hy;obtain ⟨z,t,B⟩:=hk y (wz.mp hy);simp [DictEntry.refKey,B]
  have L:¬ es.toList.any (·.refKey)=true:=by rw [a];exact UT
  rw [if_neg L];exact congrArg some e
theorem FH.look {h:Heap}{x dx C:Addr}{D:Str->Option Value}(I:FH h x dx C D):∃ B,PySem.W.InstAt h x (WB C dx) C (some B)/\∀ name,Yy name B=some (D name) :=
 let ⟨B,H,J⟩:=Aa0 I.ns
 ⟨B,⟨I.obj,rfl,rfl,H⟩,J⟩
section
variable {prog:Ub}{w:T6}{A:Us}{E:Value->T2->Prop}{s:T2}{K:T3}{x dx C f:Addr}{mA:Str->Option Value}{name:Str}{v:Value}
theorem Aa1 {expr:Bool}{Q:Value->T2->Prop}(X:K.In s.heap)(I:FH s.heap x dx C mA)(B:Wu K C name=true)(D:WI K C=true)(H:Uz K (.ref C) name=some none)(hv:mA name=some v)(L:wA v=true)(h:Q v { s with toks:=s.toks+1 }) :
  T5 (T8 prog w) A (getAttr (.ref x) name expr) Q E s:=by
 obtain ⟨V,J,O⟩:=Ag I.look;exact PySem.W.get_value X J (Zj B).1 (PySem.W.findObj_own D H rfl (by rw [O,hv])) L h
theorem Aa2 {pl:Sem Bool}{Q:Value×List Value->T2->Prop}(X:K.In s.heap)(I:FH s.heap x dx C mA)(B:Wu K C name=true)(D:Uz K (.ref C) name=some (some (.ref f)))(H:WJ K (.ref f)=true)(hv:mA name=none)(h:Q (.ref f,[.ref x]) s) :
  T5 (T8 prog w) A (Wg (.ref x) name pl) Q E s:=by
 obtain ⟨L,J,O⟩:=Ag I.look;exact PySem.W.method_fn X J (Zj B).1 (Zj B).2 D (beq_iff_eq.mp H) (by show (Yy name L).map (·.isSome)=some false;rw [O,hv];rfl) h
theorem Aa3 {ns:List Str}{Q:Unit->T2->Prop}(X:K.In s.heap)(I:FH s.heap x dx C mA)(hs:Uz K (.ref C) "__setattr__"=some (some (.builtin "object.__setattr__")))(O:Xi K C=true)(V:Zk K C name=some none)(Y:WI K C=true)(hw:Y9 mA ns)(hsz:ns.length<=sizeLine)(h:∀ h',FH h' x dx C (λy=>if y=name then some v else mA y)->U4 dx s.heap h'->Q () { s with heap:=h',toks:=s.toks+2 }) :
  T5 (T8 prog w) A (setAttr (.ref x) name v) Q E s:=by
 obtain ⟨od,J,hl⟩:=Ag I.look;refine PySem.W.set_plain X J hs (PySem.W.osa_open (s:={ s with toks:=s.toks+1 }) (r:=none) X J O V λb=>?_);obtain ⟨cd,hc,mw⟩:=Ag (PySem.W.any_some Y);have hx:s.heap.get? x=some ⟨.ref C,some dx,.plain,#[]⟩:=I.obj;refine Ua (Um (Ua (Ua (wB hx (Ua (PySem.W.Looks.here (s:={ s with toks:=s.toks+1 }) (PySem.W.looks_clsIn X hc) ?_))))));rw [mw];refine Um (a:=some dx) (Ua (Um (Ua ?_)));refine wpAny_nsSet1 (s:={ s with toks:=s.toks+1 }) I.ns λh' H L=>?_;obtain ⟨oD,esD,epD,B,D,eM⟩:=BI (H.count (PySem.Within.cons name v hw));refine Ua (wpAny_lookBehind B (by rw [D];exact pastItsLine_dict (U7 eM (by rw [Vf];omega))) ?_);exact Um (h _ ⟨(L.2 _ (UQ I.ne)).trans I.obj,H,I.ne⟩ L)
theorem Aa4 {R:Xj->T2->Prop}{vs:List Value}{B:List (Str×Value)}(X:K.In s.heap)(D:WK K C=true)(H:Uz K (.ref C) "__init__"=some (some (.ref f)))(I:Zl K (.ref f)=some (.type "function"))(h:Vk (T8 prog w) (A.under (.builtin "type.__call__" ⟨.ref C :: vs,B⟩)) (.call (.ref f) ⟨.ref (s.heap.objs.size+1) :: vs,B⟩) (PySem.W.InitBack (s.heap.objs.size+1) R)
   { s with heap:=(s.heap.push Wv).push (WB C s.heap.objs.size) }) :
  Vk (T8 prog w) A (.call (.ref C) ⟨vs,B⟩) R s:=by
 obtain ⟨J,g,d,t,os⟩:=s;exact PySem.W.make_core (PySem.W.makes_of X D) (PySem.W.looks_findIn X H) (λself=>PySem.W.bind_fn X self I) (.inl rfl) h
end
noncomputable def Aw (f:Str)(v:V):List (Str×V)->List (Str×V)
 | []=>[(f,v)]
 | (g,x) :: r=>if g=f then (g,v) :: r else (g,x) :: Aw f v r
theorem OE (f g:Str)(v:V):∀ fs:List (Str×V),(Aw f v fs).lookup g=if g=f then some v else fs.lookup g
 | []=>by
  show Xk g [(f,v)]=_;by_cases h:g=f
  .have hb:(g == f)=true:=beq_iff_eq.mpr h;simp only [Xk,hb,if_pos h]
  .have hb:(g == f)=false:=beq_eq_false_iff_ne.mpr h;simp only [Xk,hb,if_neg h]
 | (k,x) :: r=>by
  have ih:=OE f g v r;rw [show Aw f v ((k,x) :: r)=(if k=f then (k,v) :: r else (k,x) :: Aw f v r) from rfl];by_cases hk:k=f
  .rw [if_pos hk];by_cases h:g=k
   .have hb:(g == k)=true:=beq_iff_eq.mpr h;simp only [Xk,hb,if_pos (h.trans hk)]
   .have hb:(g == k)=false:=beq_eq_false_iff_ne.mpr h;simp only [Xk,hb,if_neg (λe:g=f=>h (e.trans hk.symm))]
  .rw [if_neg hk];by_cases h:g=k
   .have hb:(g == k)=true:=beq_iff_eq.mpr h;simp only [Xk,hb,if_neg (λe:g=f=>hk (h.symm.trans e))]
   .have hb:(g == k)=false:=beq_eq_false_iff_ne.mpr h;simp only [Xk,hb];exact ih
theorem La (f:Str)(v:V):∀ fs:List (Str×V),f∈(Aw f v fs).map (·.1)/\∀ g,g∈fs.map (·.1)->g∈(Aw f v fs).map (·.1)
 | []=>⟨by simp [Aw],λg h=>by simp at h⟩
 | (k,x) :: r=>by
  obtain ⟨B,D⟩:=La f v r;rw [show Aw f v ((k,x) :: r)=(if k=f then (k,v) :: r else (k,x) :: Aw f v r) from rfl];by_cases hk:k=f
  .rw [if_pos hk];subst hk;exact ⟨by simp,λg h=>by simpa using h⟩
  .rw [if_neg hk];refine ⟨?_,λg h=>?_⟩
   .rw [Vd];exact UO _ B
   .rw [Vd] at h ⊢;rcases Uo.mp h with e | e
    .exact Uo.mpr (.inl e)
    .exact UO _ (D g e)
theorem OF (f:Str)(v:V):∀ fs:List (Str×V),(Aw f v fs).length<=fs.length+1
 | []=>by simp [Aw]
 | (k,x) :: r=>by
  have ih:=OF f v r;rw [show Aw f v ((k,x) :: r)=(if k=f then (k,v) :: r else (k,x) :: Aw f v r) from rfl];by_cases hk:k=f
  .rw [if_pos hk,Vf,Vf];omega
  .rw [if_neg hk,Vf,Vf];omega
theorem CH.some_of {v:V}{o:Option Value}(r:CH (some v) o):∃ u,o=some u/\AE v u:=by
 cases o with
 | none=>exact (show False from r).elim
 | some u=>exact ⟨u,rfl,r⟩
theorem CH.none_of {o:Option Value}(r:CH none o):o=none:=by
 cases o with
 | none=>rfl
 | some u=>exact (show False from r).elim
theorem Aa5 {v:V}{u:Value}(r:AE v u):wA u=true:=by
 cases v with
 | aa=>cases (show u=U8 from r);rfl
 | bl b=>cases (show u=XO b from r);rfl
 | int i=>obtain ⟨t,e⟩:=(show ∃ t,u=Vg i t from r);cases e;rfl
 | str x=>obtain ⟨t,e⟩:=(show ∃ t,u=Vc x t from r);cases e;rfl
 | cw b=>obtain ⟨t,e⟩:=(show ∃ t,u=Value.bytes b t from r);cases e;rfl
 | gh b=>obtain ⟨t,e⟩:=(show ∃ t,u=Y8 b t from r);cases e;rfl
 | ref a=>cases (show u=UI a from r);rfl
 | ty n=>cases (show u=XQ n from r);rfl
section
variable {P:Ub}{w:T6}{H H':Hp}{h h':Heap}{a C dx:Addr}{fs qJ:List (Str×V)}
theorem Jd (D:AV P w H h)(e:H a=some (.ins C dx fs)):∃ B,FH h a dx C B/\(∀ f,CH (fs.lookup f) (B f))/\Y9 B (fs.map (·.1))/\fs.length<=1000/\H dx=some (.own a):=by obtain ⟨d,z,ne,I,B,n,r,q⟩:=AD ((show Bl P w H h a (.ins C dx fs) from D a _ e));exact ⟨B,⟨I,n,ne⟩,r,q,z,d⟩
end
structure CB (K:T3)(C:Addr):Prop where
 pg:Wu K C UJ=true
 hd:WI K C=true
 po:Xi K C=true
 sa:Uz K (.ref C) "__setattr__"=some (some (.builtin "object.__setattr__"))
theorem CB.get {K:T3}{C:Addr}(c:CB K C)(f:Str):Wu K C f=true:=c.pg
def BK (K:T3)(C:Addr)(f:Str):Prop:=Uz K (.ref C) f=some none
theorem BK.aag {K:T3}{C:Addr}{f:Str}(n:BK K C f):Zk K C f=some none:=by unfold Zk;rw [show Uz K (.ref C) f=some none from n];rfl
structure Con (K:T3)(C:Addr)(f:Str)(v:V)(u:Value):Prop where
 at_:Uz K (.ref C) f=some (some u)
 rel:AE v u
 get:Yz K u "__get__"=some none
 cp:PySem.W.copiedNames.contains f=false
structure Je (K:T3)(C:Addr)(m:Str)(f:Addr):Prop where
 at_:Uz K (.ref C) m=some (some (.ref f))
 fn:WJ K (.ref f)=true
 kp:Vh K (.ref f)=true
section
variable {X:Cx}{pins:List (Addr×Obj)}{σ:St}{H:Hp}{s:T2}{a C dx:Addr}{fs:List (Str×V)}{f:Str}{v:V}{A:Us}{E:Value->T2->Prop}
theorem Aa6 {b:Bool}{Q:Value->T2->Prop}(I:Ad X pins σ H s)(e:H a=some (.ins C dx fs))(c:CB X.K C)(n:BK X.K C f)(l:fs.lookup f=some v)(h:∀ u B,Ad X pins σ H B->AE v u->Q u B):T5 (T8 X.prog X.w) A (getAttr (.ref a) f b) Q E s:=by obtain ⟨J,O,r,_,_,_⟩:=Av (Jd I.af e);obtain ⟨u,hu,D⟩:=Ag (CH.some_of (v:=v) (o:=J f) (by rw [<- l];exact r f));exact Aa1 I.aJ O (c.get f) c.hd n hu (Aa5 D) (h u _ (I.tok _) D)
theorem Ht {m:Str}{g:Addr}{pl:Sem Bool}{Q:Value×List Value->T2->Prop}(I:Ad X pins σ H s)(e:H a=some (.ins C dx fs))(c:CB X.K C)(k:Je X.K C m g)(l:fs.lookup m=none)(h:Q (.ref g,[.ref a]) s):T5 (T8 X.prog X.w) A (Wg (.ref a) m pl) Q E s:=by obtain ⟨B,O,r,_,_,_⟩:=Av (Jd I.af e);have D:B m=none:=CH.none_of (by rw [<- l];exact r m);exact Aa2 I.aJ O (c.get m) k.at_ k.fn D h
theorem Aa7 {y:V}{u:Value}{Q:Unit->T2->Prop}(I:Ad X pins σ H s)(e:H a=some (.ins C dx fs))(c:CB X.K C)(n:BK X.K C f)(hl:fs.length<1000)(ry:AE y u)(h:∀ D,Ad X pins σ (upd H a (.ins C dx (Aw f y fs))) D->Q () D):T5 (T8 X.prog X.w) A (setAttr (.ref a) f u) Q E s:=by
 obtain ⟨J,O,r,L,_,Y⟩:=Av (Jd I.af e);have hz:(fs.map (·.1)).length<=sizeLine:=by rw [T7,Uc];omega
 refine Aa3 I.aJ O c.sa c.po n.aag c.hd L hz λh' B sb=>h _ ?_;have hd:∃ o,h'.get? dx=some o:=let ⟨o,_,_,e',_⟩:=B.ns;⟨o,e'⟩;refine I.write (x:=a) (e:=dx) (by rw [e];exact VE) (.inr Y) (λb q hb z=>(sb.2 b hb).trans z) hd ?_;refine ⟨by rw [Au O.ne];exact Y,?_,O.ne,B.obj,_,B.ns,λg=>?_,λg hg=>?_⟩
 .have:=OF f y fs;omega
 .show CH ((Aw f y fs).lookup g) (if g=f then some u else J g);rw [OE];by_cases q:g=f
  .rw [if_pos q,if_pos q];exact ry
  .rw [if_neg q,if_neg q];exact r g
 .by_cases q:g=f
  .rw [q];exact (La f y fs).1
  .refine (La f y fs).2 g (L g λz=>hg ?_);show (if g=f then some u else J g)=none;rw [if_neg q];exact z
theorem Ad.made (I:Ad X pins σ H s):Ad X pins σ (upd (upd H s.heap.objs.size (.own (s.heap.objs.size+1))) (s.heap.objs.size+1) (.ins C s.heap.objs.size []))
  { s with heap:=(s.heap.push Wv).push (WB C s.heap.objs.size) }:=by
 have B:(s.heap.push Wv).get? s.heap.objs.size=some Wv:=Va s.heap rfl;have D:((s.heap.push Wv).push (WB C s.heap.objs.size)).get? (s.heap.objs.size+1)=some (WB C s.heap.objs.size):=by have:=Va (s.heap.push Wv) (o:=WB C s.heap.objs.size) rfl;rwa [V0] at this
 have J:(s.heap.push Wv).Ns s.heap.objs.size (λ_=>none):=⟨Wv,#[],_,B,rfl,(λe L=>absurd L (by simp)),λ_=>rfl⟩;have O:=I.laid (a:=s.heap.objs.size) (o:=.own (s.heap.objs.size+1)) (h':=s.heap.push Wv) (t':=s.toks) (λb u q=>UA _ q) (Uq _) ⟨_,B⟩;refine O.laid (a:=s.heap.objs.size+1) (o:=.ins C s.heap.objs.size []) (t':=s.toks) (λb u q=>UA _ q) (Nat.le_of_eq (V0 _ _)) ?_;have ne:s.heap.objs.size≠s.heap.objs.size+1:=UB (Xz _);refine ⟨by rw [Au ne,Al],U1 _,ne,D,λ_=>none,(Heap.Ns1.of_empty J).at λo q=>UA _ q,λ_=>VE,λy hy=>absurd rfl hy⟩
theorem Aa8 {prog:Ub}{w:T6}{env:Env}{e:T9}{f:Str}{pos:Pos}{s:T2}{Q:Value->T2->Prop}(hb:X6 e f env (Ui e env)=Ui e env)(h:T5 (T8 prog w) A (Ui e env) (λo B=>T5 (T8 prog w) A (getAttr o f true) Q E B) E s):T5 (T8 prog w) A (Ui (.Attribute e f pos) env) Q E s :=
 Attribute_any_ h (by rw [arm_eval_Attribute,hb])
end
def Aa9 (K:T3)(ta:TE)(f:Str):TE:=λσ H Q=>ta σ H λx H1=>∃ a C dx fs v,x=.ref a/\H1 a=some (.ins C dx fs)/\CB K C/\BK K C f/\fs.lookup f=some v/\Q v H1
def Aba (K:T3)(ta tv:TE)(f:Str):TS:=λD σ H=>tv σ H λy H1=>ta σ H1 λx H2=>∃ a C dx fs,x=.ref a/\H2 a=some (.ins C dx fs)/\CB K C/\BK K C f/\fs.length<1000 /\
 D.nx σ (upd H2 a (.ins C dx (Aw f y fs)))
def OG (X:Cx)(op:XY)(rd:V->V->Hp->VK->Prop):Prop :=
 ∀(pins:List (Addr×Obj))(s:T2)(σ:St)(H:Hp)(x y:V)(u v:Value)(Q:VK),Ad X pins σ H s->AE x u->AE y v->rd x y H Q->T5 (T8 X.prog X.w) X.A (inplaceOp op u v) (EP X pins σ Q) X.xe s
section
variable {X:Cx}{o e value:T9}{f:Str}{pos pos' kA:Pos}{ta tv:TE}
theorem AN (B:PE X e ta)(hb:X6 e f X.env (Ui e X.env)=Ui e X.env):PE X (.Attribute e f pos) (Aa9 X.K ta f):=by intro pins s σ H Q I h;refine Aa8 hb (Ap (B pins s σ H _ I h) λu s1 D=>AG D λx J L O ⟨a,C,dx,fs,v,ex,V,c,n,l,q⟩=>?_);subst ex;obtain rfl:u=UI a:=O;exact Aa6 L V c n l λu' s2 Y ru=>⟨v,J,Y,ru,q⟩
theorem BR (J:PE X o ta)(hv:PE X value tv)(hs:Xd value (some (.Attribute o f pos')) pos.line X.env=pure false):PS X (.Assign [.Attribute o f pos'] value pos) (Aba X.K ta tv f):=by intro pins s σ H D I h;refine plainObj_wpAny_Assign_Attribute (Ap (hv pins s σ H _ I h) λu L B=>AG B λy O V Y q=>Ap (J pins L σ O _ V q) λov s2 B=>AG B λx H2 I2 rx ⟨a,C,dx,fs,ex,ea,c,n,l,q2⟩=>?_) hs;subst ex;obtain rfl:ov=UI a:=rx;exact Aa7 I2 ea c n l Y λs3 I3=>⟨σ,_,I3,q2⟩
def Abb:V->V->Hp->VK->Prop:=λx y H Q=>∃ i j,x=.int i/\y=.int j/\Q (.int (i+j)) H
theorem Abd:OG X .Add Abb:=by rintro pins s σ H x y u v Q I D J ⟨i,j,rfl,rfl,q⟩;obtain ⟨t,rfl⟩:=(show ∃ t,u=Vg i t from D);obtain ⟨B,rfl⟩:=(show ∃ B,v=Vg j B from J);exact PyProof.Rows.iadd_int ⟨.int (i+j),H,I.tok _,⟨_,rfl⟩,q⟩
end
section
variable {X:Cx}{pins:List (Addr×Obj)}{σ:St}{H:Hp}{s:T2}{A:Us}{E:Value->T2->Prop}{Q:Value->T2->Prop}{c:Value}{b:Bool}
inductive Dz (K:T3)(H:Hp):V->Value->Prop where
 | aa:Dz K H .aa (.type "NoneType")
 | bl (x:Bool):Dz K H (.bl x) (.type "bool")
 | int (i:Int):Dz K H (.int i) (.type "int")
 | str (x:Str):Dz K H (.str x) (.type "str")
 | gh (x:UInt64):Dz K H (.gh x) (.type "float")
 | lst {a:Addr} {xs:List V} (e:H a=some (.lst xs)):Dz K H (.ref a) (.type "list")
 | bX {a:Addr} {o:Obj} {xs:List V} (e:H a=some (.bX o (.lst xs))):Dz K H (.ref a) (.type "list")
 | tup {a:Addr} {xs:List V} (e:H a=some (.tup xs)):Dz K H (.ref a) (.type "tuple")
 | dK {a:Addr} {kvs:List (Ar×V)} (e:H a=some (.dK kvs)):Dz K H (.ref a) (.type "dict")
 | dT {a:Addr} {kvs:List (List Ar×V)} (e:H a=some (.dT kvs)):Dz K H (.ref a) (.type "dict")
 | ins {a C dx:Addr} {fs:List (Str×V)} (e:H a=some (.ins C dx fs)) (cl:CB K C) (ha:Uz K (.ref C) "__class__"=some (some (.builtin "object.__class__")))
   (hn:Yz K (.builtin "object.__class__") "__get__"=some (some (.builtin "getset_descriptor.__get__"))) (gw:PySem.W.takesIn K (.builtin "object.__class__")=some true)
   (hm:PySem.W.mroIn K C (.type "object")=some true):Dz K H (.ref a) (.ref C)
theorem Abe {x:V}{u t:Value}(I:Ad X pins σ H s)(B:AE x u)(ty:Dz X.K H x t)(e:X7 X.K t c=some b)(h:∀ tk,Q (.bool b) { s with toks:=tk }) :
  T5 (T8 X.prog X.w) A (call (.builtin "isinstance") [u,c]) Q E s:=by
 cases ty with
 | aa=>cases (show u=U8 from B);exact V1 PySem.W.kitx_none I.aJ VE e (λz=>nomatch z) h
 | bl y=>cases (show u=XO y from B);exact V1 PySem.W.kitx_bool I.aJ VE e (λz=>nomatch z) h
 | int i=>obtain ⟨t,q⟩:=(show ∃ t,u=Vg i t from B);cases q;exact V1 PySem.W.kitx_int I.aJ VE e (λz=>nomatch z) h
 | str y=>obtain ⟨t,q⟩:=(show ∃ t,u=Vc y t from B);cases q;exact V1 PySem.W.kitx_str I.aJ VE e (λz=>nomatch z) h
 | gh y=>obtain ⟨t,q⟩:=(show ∃ t,u=Y8 y t from B);cases q;exact V1 PySem.W.kitx_float I.aJ VE e (λz=>nomatch z) h
 | @lst a xs D =>
  cases (show u=UI a from B);obtain ⟨_,_,n,_,L⟩:=(show Bl X.prog X.w H s.heap a (.lst xs) from I.af a _ D);exact V1 wC I.aJ ⟨_,L,rfl⟩ e (λz=>nomatch z) h
 | @bX a ob xs D =>
  cases (show u=UI a from B);obtain ⟨_,_,_,n,_,L⟩:=AD ((show Bl X.prog X.w H s.heap a (.bX ob (.lst xs)) from I.af a _ D));exact V1 wC I.aJ ⟨_,L,rfl⟩ e (λz=>nomatch z) h
 | @tup a xs D =>
  cases (show u=UI a from B);obtain ⟨_,_,_,p⟩:=(show Bl X.prog X.w H s.heap a (.tup xs) from I.af a _ D);obtain ⟨o,L,h2,_⟩:=Av p;exact V1 PySem.W.kitx_tuple I.aJ ⟨o,L,h2⟩ e (λz=>nomatch z) h
 | @dK a Y D =>
  cases (show u=UI a from B);obtain ⟨_,_,vs,_,p⟩:=AD ((show Bl X.prog X.w H s.heap a (.dK Y) from I.af a _ D));obtain ⟨o,es,ep,L,h2,_⟩:=BI p;exact V1 wD I.aJ ⟨o,L,h2.1⟩ e (λz=>nomatch z) h
 | @dT a Y D =>
  cases (show u=UI a from B);obtain ⟨_,_,xs,_,o,es,ep,L,h2,_⟩:=AD ((show Bl X.prog X.w H s.heap a (.dT Y) from I.af a _ D));exact V1 wD I.aJ ⟨o,L,h2.1⟩ e (λz=>nomatch z) h
 | @ins a C dx fs D cl ha hn gw hm =>
  cases (show u=UI a from B);obtain ⟨mA,O,_⟩:=Ag (Jd I.af D);obtain ⟨od,J,_⟩:=Ag O.look;exact V1 (PySem.W.kitx_own (cl.get _) cl.hd ha hn gw hm) I.aJ J e (λz=>nomatch z) h
end
structure Bu (k:Nat)(A:Us):Prop where
 hd:A.handled=none
 dp:A.depth+3 * k+5<recursionLimit
 un:A.units+16 * k+200<cLine
theorem Bu.mono {j k:Nat}{A:Us}(r:Bu k A)(h:j<=k):Bu j A:=⟨r.hd,by have:=r.dp;omega,by have:=r.un;omega⟩
theorem Bu.d {j k:Nat}{A:Us}(r:Bu k A)(h:j<=k:=by decide):Bu j A:=r.mono h
theorem Bu.deeper {k:Nat}{A:Us}(r:Bu (k+1) A)(env:Env):Bu k (A.deeper env) :=
 ⟨r.hd,by have:=r.dp;show A.depth+1+3 * k+5<_;omega,by have:=r.un;show A.units+3+16 * k+200<_;omega⟩
theorem Abf {A:Us}{C:Addr}{us:List Value}{B:List (Str×Value)}:(A.under (.builtin "type.__call__" ⟨.ref C :: us,B⟩)).depth=A.depth+1:=by first | rfl | simp [Zm,Code.weight,Code.isCreation,Code.isGuard,Code.isCaller,Code.frames,Zn,guardIds]
theorem Abg {A:Us}{C:Addr}{us:List Value}{B:List (Str×Value)}:(A.under (.builtin "type.__call__" ⟨.ref C :: us,B⟩)).units=A.units+1:=by first | rfl | simp [Zm,Code.cUnits,Code.frames,Zn]
theorem Bu.make {k:Nat}{A:Us}(r:Bu (k+1) A)(C:Addr)(us:List Value)(B:List (Str×Value)):Bu k (A.under (.builtin "type.__call__" ⟨.ref C :: us,B⟩)) :=
 ⟨r.hd,by have:=r.dp;rw [Abf];omega,by have:=r.un;rw [Abg];omega⟩
theorem Bu.depth {k:Nat}{A:Us}(r:Bu k A):A.depth<recursionLimit:=by have:=r.dp;omega
theorem Bu.units {k:Nat}{A:Us}(r:Bu k A):A.units+64<cLine:=by have:=r.un;omega
def Cd:TA:=λ_ H Q=>Q [] H
def Abh (ta:TE)(tr:TA):TA:=λσ H Q=>ta σ H λx H1=>tr σ H1 λxs H2=>Q (x :: xs) H2
section
variable {X:Cx}{e:T9}{es:List T9}{te:TE}{t:TA}{pos:Pos}
theorem Ae:PA X [] Cd:=λ_ _ _ _ H Q I h=>wF ⟨[],H,I,.nil,h⟩
theorem Ac (D:PE X e te)(J:PA X es t)(hs:Ul (e :: es) X.env=(false,Ui e X.env) :: Ul es X.env:=by rfl):PA X (e :: es) (Abh te t):=by intro pos pins s σ H Q I h;rw [hs];show T5 _ _ (spliced ((false,Ui e X.env) :: UP pos (Ul es X.env))) _ _ s;refine Zo (Ap (D pins s σ H _ I h) λu L B=>AG B λx O V Y q1=>?_);exact Ap (J pos pins L σ O _ V q1) λus s2 B=>AG B λxs H2 I2 r2 q2=>⟨x :: xs,H2,I2,.cons Y r2,q2⟩
def Abi (t:TA):TE:=λσ H Q=>t σ H λxs H1=>xs.length<=sizeLine/\∀ p,H1 p=none->Q (.ref p) (upd H1 p (.tup xs))
def Abj (t:TA):TE:=λσ H Q=>t σ H λxs H1=>xs.length<=sizeLine/\∀ p,H1 p=none->Q (.ref p) (upd H1 p (.lst xs))
theorem BN {x1} (h:PA X es t):PE X (.Tuple es x1 pos) (Abi t):=by intro pins s σ H Q I hq;refine wpAny_Tuple_spliced (Ap (h pos pins s σ H _ I hq) λL B O=>Hg O λV D J r z q=>⟨by rw [<- r.length];exact z,?_⟩);have Y:D B.heap.objs.size=none:=J.af.fresh (Uq _);refine ⟨.ref B.heap.objs.size,upd D B.heap.objs.size (.tup V),J.laid (t':=B.toks) (λb u e=>UA _ e) (Uq _) ?_,rfl,q _ Y⟩;exact ⟨z,L,r,⟨_,Va _ rfl,rfl,_,rfl⟩⟩
theorem A0 (h:PA X es t):PE X (.List es pos) (Abj t):=by intro pins s σ H Q I hq;refine wpAny_List_spliced (Ap (h pos pins s σ H _ I hq) λL B O=>Hg O λV D J r z q=>⟨by rw [<- r.length];exact z,?_⟩);have Y:D B.heap.objs.size=none:=J.af.fresh (Uq _);refine ⟨.ref B.heap.objs.size,upd D B.heap.objs.size (.lst V),J.laid (t':=B.toks) (λb u e=>UA _ e) (Uq _) ?_,rfl,q _ Y⟩;exact ⟨z,L,0,r,Va _ rfl⟩
end
abbrev Sp:=List V->Hp->VK->XK->Prop
abbrev B0:=List Env->Hp->T2->XK->Value->T2->Prop
structure FI (P:Ub)(w:T6)(K:T3)(mg:Str->Option Value)(base:Heap)(A:Us)(outer:List Env)(s:T2)(H:Hp):Prop where
 frames:A.frames=some outer
 mod:Mod K mg base
 bs:∀ b o,base.get? b=some o->s.heap.get? b=some o/\H b=none
 cF:base.objs.size<=s.heap.objs.size
 bK:s.heap.FunFrames base outer
 cT:∀ b∈CM outer,H b=none
 af:AV P w H s.heap
 bare:We s.gens
def CE (outer:List Env)(P:Ub)(w:T6)(H:Hp)(s:T2)(Q:VK)(u:Value)(s':T2):Prop :=
 ∃ v H',s'.os=s.os/\We s'.gens/\Un (CM outer) [] H H' s.heap s'.heap/\AV P w H' s'.heap/\AE v u/\Q v H'
def CR (CX:B0)(outer:List Env)(P:Ub)(w:T6)(H:Hp)(s:T2)(Q:VK)(E:XK)(r:Xj)(s':T2):Prop :=
 match r with
 | .ok (.ret u)=>CE outer P w H s Q u s'
 | .ok _=>False
 | .error e=>CX outer H s E e s'
structure AF (P:Ub)(w:T6)(K:T3)(mg:Str->Option Value)(base:Heap)(CX:B0)(k:Nat)(f:Addr)(fd:Uk)(ps:List Str)(sp:Sp):Prop where
 len:∀ vs H Q E,sp vs H Q E->vs.length=ps.length
 run:∀(A:Us)(outer:List Env)(s:T2)(H:Hp)(args:Args)(us:List Value)(vs:List V)(Q:VK)(E:XK),Bu k A->FI P w K mg base A outer s H->Xl s fd args (ps.zip us)->Ay vs us->sp vs H Q E ->
  Vk (T8 P w) A (.call (.ref f) args) (CR CX outer P w H s Q E) s
theorem AF.mono {P:Ub}{w:T6}{K:T3}{mg:Str->Option Value}{base:Heap}{CX:B0}{j k:Nat}{f:Addr}{fd:Uk}{ps:List Str}{sp:Sp}(F:AF P w K mg base CX j f fd ps sp)(h:j<=k) :
  AF P w K mg base CX k f fd ps sp:=⟨F.len,λA outer s H args B vs Q E D=>F.run A outer s H args B vs Q E (D.mono h)⟩
theorem FI.make {P:Ub}{w:T6}{K:T3}{mg:Str->Option Value}{base:Heap}{A:Us}{outer:List Env}{s:T2}{H:Hp}(e:FI P w K mg base A outer s H)(C:Addr)(us:List Value)(B:List (Str×Value)) :
  FI P w K mg base (A.under (.builtin "type.__call__" ⟨.ref C :: us,B⟩)) outer s H:=⟨by first | exact e.frames | (simpa [Zm,Code.envs,Zn,pushEnvs] using e.frames),e.mod,e.bs,e.cF,e.bK,e.cT,e.af,e.bare⟩
section
variable {X:Cx}{pins:List (Addr×Obj)}{σ:St}{H:Hp}{s s':T2}
theorem Ad.mI (I:Ad X pins σ H s):FI X.prog X.w X.K X.mg X.base X.A X.stack s H :=
 ⟨I.ok.frames,I.ok.mod,I.bs,U7 I.ok.cF I.sz,I.stack,I.mB,I.af,I.bare⟩
theorem Ad.after {Q:VK}{u:Value}(I:Ad X pins σ H s)(h:CE X.stack X.prog X.w H s Q u s'):EP X pins σ Q u s':=by obtain ⟨v,D,os,B,un,J,r,q⟩:=Dl h;obtain ⟨L,g,d,t,O⟩:=s';obtain rfl:O=s.os:=os;exact ⟨v,D,I.call (h':=L) (g':=g) (d':=d) (t':=t) (ch:=[]) un J B (λb z=>absurd z (by simp)),r,q⟩
end
def Jf (sp:Sp)(dvs:List V)(E:XK)(t:TA):TE:=λσ H Q=>t σ H λvs H1=>sp (vs++dvs) H1 Q E
def Jg (C:Addr)(m:Str)(sp:Sp)(dvs:List V)(E:XK)(ta:TE)(t:TA):TE:=λσ H Q=>ta σ H λx H1=>∃ a dx fs,x=.ref a/\H1 a=some (.ins C dx fs)/\fs.lookup m=none /\
 t σ H1 λvs H2=>sp (x :: (vs++dvs)) H2 Q E
def OH (C:Addr)(sp:Sp)(dvs:List V)(E:XK)(t:TA):TE:=λσ H Q=>t σ H λvs H1=>∀ x dx,H1 x=none->H1 dx=none->dx≠x ->
 sp (.ref x :: (vs++dvs)) (upd (upd H1 dx (.own x)) x (.ins C dx [])) (λv H2=>v=.aa/\Q (.ref x) H2) E
def Dg (K:T3)(fd:Uk)(ps:List Str)(ds:List Value):Prop :=
 ∀(s:T2)(us:List Value),K.In s.heap->(us++ds).length=ps.length->Xl s fd ⟨us,[]⟩ (ps.zip (us++ds))
theorem Dg.all {K:T3}{fd:Uk}{ps:List Str}(h:∀ us:List Value,us.length=ps.length->bindArgs fd ⟨us,[]⟩=pure (ps.zip us)):Dg K fd ps []:=λs us _ B=>by
 rw [Vu] at B ⊢;exact .of_eq (h us B)
def CT (CX:B0)(X:Cx)(E:XK):Prop:=∀(pins:List (Addr×Obj))(σ:St)(H:Hp)(s:T2)(e:Value)(s':T2),Ad X pins σ H s->CX X.stack H s E e s'->X.xe e s'
section
variable {X:Cx}{CX:B0}{k:Nat}{f C:Addr}{fd:Uk}{ps:List Str}{sp:Sp}{dvs:List V}{ds:List Value}{E:XK}{x m:Str}{p pos apos:Pos}{e o:T9}{es:List T9}{ta:TE}{t:TA}
theorem Gq {pins:List (Addr×Obj)}{σ:St}{H:Hp}{s:T2}{Q:VK}{us:List Value}{vs:List V}(F:AF X.prog X.w X.K X.mg X.base CX k f fd ps sp)(D:Bu k X.A)(hb:Dg X.K fd ps ds)(hd:Ay dvs ds)(hx:CT CX X E)(I:Ad X pins σ H s)(r:Ay vs us)(h:sp (vs++dvs) H Q E):T5 (T8 X.prog X.w) X.A (call (.ref f) us) (EP X pins σ Q) X.xe s:=by
 have B:Ay (vs++dvs) (us++ds):=r.append hd;have J:(us++ds).length=ps.length:=by rw [<- B.length];exact F.len _ _ _ _ h
 refine YA (Xm (F.run X.A X.stack s H ⟨us,[]⟩ (us++ds) (vs++dvs) Q E D I.mI (hb s us I.aJ J) B h) λr L hq=>?_);cases r with
 | error e=>exact hx pins σ H s e L I hq
 | ok O =>
  cases O with
  | ret u=>exact I.after hq
  | next=>exact VO hq
  | brk=>exact VO hq
  | cont=>exact VO hq
theorem Abk (F:AF X.prog X.w X.K X.mg X.base CX k f fd ps sp)(D:Bu k X.A)(J:Gl X x)(L:X.mg x=some (.ref f))(hk:Vh X.K (.ref f)=true)(hb:Dg X.K fd ps ds)(hd:Ay dvs ds)(hx:CT CX X E)(O:PA X (e :: es) t)(Y:(x == ("__debug__":Str))=false:=by decide)(he:Ul (e :: es) X.env=(false,Ui e X.env) :: Ul es X.env:=by rfl)(aT:(UP pos (Ul es X.env)).any (·.1)=false:=by rfl) :
  PE X (.Call (.Name x p) (e :: es) [] pos) (Jf sp dvs E t):=by
 intro pins s σ H Q I h;refine YB (Hl I J L ?_ Y);refine XA (h₀:=X.base) I.ok.mod.eJ hk (Ap (O pos pins s σ H _ I h) λus s1 zz=>AG zz λvs H1 B r q=>⟨B.aJ,?_⟩) he aT;exact Gq F D hb hd hx B r q
theorem Abl {pl:Sem Bool}(he:PE X o ta)(c:CB X.K C)(D:Je X.K C m f)(F:AF X.prog X.w X.K X.mg X.base CX k f fd ps sp)(hr:Bu k X.A)(hb:Dg X.K fd ps ds)(hd:Ay dvs ds)(hx:CT CX X E)(ha:PA X (e :: es) t)(aL:Ul (e :: es) X.env=(false,Ui e X.env) :: Ul es X.env:=by rfl)(aT:(UP pos (Ul es X.env)).any (·.1)=false:=by rfl)(ht:Ui (.Call (.Attribute o m apos) (e :: es) [] pos) X.env=(do
   let J <- Ui o X.env
   VC apos.atName
   let (f,first) <- Vs [J] (Wg J m pl)
   WL pos f first (UP pos (Ul (e :: es) X.env)) (V7 pos (V8 [] X.env))):=by rfl) :
  PE X (.Call (.Attribute o m apos) (e :: es) [] pos) (Jg C m sp dvs E ta t):=by
 intro pins s σ H Q I h;refine XB (pl:=pl) (Ap (he pins s σ H _ I h) λu s1 B=>AG B λx H1 L rx ⟨a,dx,fs,ex,ea,l,q⟩=>?_) ht;subst ex;obtain rfl:u=UI a:=rx;refine Ht L ea c D l ?_;refine XA (first:=[.ref a]) (h₀:=X.base) I.ok.mod.eJ D.kp (Ap (ha pos pins s1 σ H1 _ L q) λO s2 B=>AG B λvs H2 Y r q2=>⟨Y.aJ,?_⟩) aL aT;exact Gq (us:=.ref a :: O) (vs:=.ref a :: vs) F hr hb hd hx Y (.cons rfl r) q2
theorem Abm {pl:Sem Bool}(L:PE X o ta)(c:CB X.K C)(D:Je X.K C m f)(F:AF X.prog X.w X.K X.mg X.base CX k f fd ps sp)(O:Bu k X.A)(hb:Dg X.K fd ps ds)(hd:Ay dvs ds)(hx:CT CX X E)(Y:Ui (.Call (.Attribute o m apos) [] [] pos) X.env=(do
   let J <- Ui o X.env
   VC apos.atName
   let (f,first) <- Vs [J] (Wg J m pl)
   WL pos f first (UP pos (Ul [] X.env)) (V7 pos (V8 [] X.env))):=by rfl) :
  PE X (.Call (.Attribute o m apos) [] [] pos) (Jg C m sp dvs E ta Cd):=by
 intro pins s σ H Q I h;refine XB (pl:=pl) (Ap (L pins s σ H _ I h) λu s1 zz=>AG zz λx H1 B rx ⟨a,dx,fs,ex,ea,l,q⟩=>?_) Y;subst ex;obtain rfl:u=UI a:=rx;refine Ht B ea c D l ?_;exact wG (first:=[.ref a]) B.aJ D.kp (Gq (us:=[.ref a]) (vs:=[.ref a]) F O hb hd hx B (.cons rfl .nil) q)
structure Mk (K:T3)(C f:Addr):Prop where
 makes:WK K C=true
 init:Uz K (.ref C) "__init__"=some (some (.ref f))
 fn:WJ K (.ref f)=true
 kp:Vh K (.ref C)=true
theorem Abn {pins:List (Addr×Obj)}{σ:St}{H:Hp}{s:T2}{Q:VK}{us:List Value}{vs:List V}(M:Mk X.K C f)(F:AF X.prog X.w X.K X.mg X.base CX k f fd ps sp)(L:Bu (k+1) X.A)(hb:Dg X.K fd ps ds)(hd:Ay dvs ds)(hx:CT CX X E)(I:Ad X pins σ H s)(r:Ay vs us)(h:∀ x dx,H x=none->H dx=none->dx≠x->sp (.ref x :: (vs++dvs)) (upd (upd H dx (.own x)) x (.ins C dx [])) (λv O=>v=.aa/\Q (.ref x) O) E) :
  T5 (T8 X.prog X.w) X.A (call (.ref C) us) (EP X pins σ Q) X.xe s:=by
 have hq:=h (s.heap.objs.size+1) s.heap.objs.size (I.af.fresh (Vl _)) (I.af.fresh (Uq _)) (UB (Xz _));have D:=Ad.made (C:=C) I;have J:Ay (V.ref (s.heap.objs.size+1) :: (vs++dvs)) (UI (s.heap.objs.size+1) :: (us++ds)):=.cons rfl (r.append hd);have Y:(UI (s.heap.objs.size+1) :: us++ds).length=ps.length:=by have e:=J.length;rw [F.len _ _ _ _ hq] at e;exact e.symm
 refine YA (Aa4 (f:=f) I.aJ M.makes M.init (beq_iff_eq.mp M.fn) (Xm (F.run _ X.stack _ _ ⟨UI (s.heap.objs.size+1) :: us,[]⟩ (UI (s.heap.objs.size+1) :: (us++ds)) _ _ E (L.make C us [])
  (D.mI.make C us []) (hb _ (UI (s.heap.objs.size+1) :: us) D.aJ Y) J hq) λr s' B=>?_))
 cases r with
 | error e=>exact hx pins σ _ _ e s' D B
 | ok fl =>
  cases fl with
  | ret u =>
   obtain ⟨v,H',I3,rv,ev,q3⟩:=AY (D.after B);subst ev;exact ⟨rv,⟨V.ref (s.heap.objs.size+1),H',I3,rfl,q3⟩⟩
  | next=>exact VO B
  | brk=>exact VO B
  | cont=>exact VO B
theorem Abo (M:Mk X.K C f)(F:AF X.prog X.w X.K X.mg X.base CX k f fd ps sp)(D:Bu (k+1) X.A)(J:Gl X x)(L:X.mg x=some (.ref C))(hb:Dg X.K fd ps ds)(hd:Ay dvs ds)(hx:CT CX X E)(O:PA X (e :: es) t)(Y:(x == ("__debug__":Str))=false:=by decide)(he:Ul (e :: es) X.env=(false,Ui e X.env) :: Ul es X.env:=by rfl)(aT:(UP pos (Ul es X.env)).any (·.1)=false:=by rfl) :
  PE X (.Call (.Name x p) (e :: es) [] pos) (OH C sp dvs E t):=by
 intro pins s σ H Q I h;refine YB (Hl I J L ?_ Y);refine XA (h₀:=X.base) I.ok.mod.eJ M.kp (Ap (O pos pins s σ H _ I h) λus s1 zz=>AG zz λvs H1 B r q=>⟨B.aJ,?_⟩) he aT;exact Abn M F D hb hd hx B r q
end
section
variable {X:Cx}{CX:B0}{k:Nat}{f C:Addr}{fd:Uk}{ps ks:List Str}{sp:Sp}{E:XK}{x m:Str}{p pos apos aeA:Pos}{e o:T9}{es:List T9}{kws:List Xn}{te ta:TE}{t tk:TA}{nm:Option Str}
structure AiU (K:T3)(fd:Uk)(ps ks:List Str)(g:List Value->List Value->List Value)(gV:List V->List V->List V):Prop where
 to:∀(s:T2)(us ws:List Value),K.In s.heap->(g us ws).length=ps.length->Xl s fd ⟨us,ks.zip ws⟩ (ps.zip (g us ws))
 rel:∀{vs:List V}{us:List Value}{zs:List V}{ws:List Value},Ay vs us->Ay zs ws->Ay (gV vs zs) (g us ws)
variable {g:List Value->List Value->List Value}{gV:List V->List V->List V}
end
structure AR (N P:List Str)(sc:Scope):Prop where
 kind:sc.kind=.function
 co:sc.isCoroutine=false
 gen:sc.isGenerator=false
 nd:N.Nodup
 pre:N.take P.length=P
 par:∀ x∈P,sc.names.lookup x=some .local\/sc.names.lookup x=some .cell
 aah:∀ y∈sc.names,y.2≠.free
theorem OI {kindOf:Str->Option WM}{x:Str}:∀{binds:List (Str×Value)}{m:Str->Option Value},(∀ v,(x,v) ∉ binds)->WN kindOf binds m x=m x
 | [],_,_=>rfl
 | (n,v) :: r,m,h=>by
  unfold WN;rw [OI λw hw=>h w (UO _ hw)];split
  .have:x≠n:=by rintro rfl;exact h v UY
   simp [this]
  .rfl
theorem OJ {kindOf:Str->Option WM}{x:Str}:∀{binds:List (Str×Value)}{m:Str->Option Value},(∀ v,(x,v) ∉ binds)->WO kindOf binds m x=m x
 | [],_,_=>rfl
 | (n,v) :: r,m,h=>by
  unfold WO;rw [OJ λw hw=>h w (UO _ hw)];split
  .rfl
  .have:x≠n:=by rintro rfl;exact h v UY
   simp [this]
theorem OK {kindOf:Str->Option WM}{x:Str}{v:Value}:∀{P:List Str}{vs:List Value}{i:Nat}{m:Str->Option Value},P.Nodup->P[i]?=some x->vs[i]?=some v->kindOf x=some .local ->
  WN kindOf (P.zip vs) m x=some v
 | [],_,_,_,_,h,_,_=>by simp at h
 | _ :: _,[],_,_,_,_,h,_=>by simp at h
 | p :: P,w :: vs,0,m,nd,h1,h2,hk=>by
  simp at h1 h2;subst h1;subst h2;show WN kindOf ((p,w) :: P.zip vs) m p=_;unfold WN;rw [OI λv hv=>(UH.mp nd).1 (Zp hv).1,if_pos hk];simp
 | p :: P,w :: vs,i+1,m,nd,h1,h2,hk=>by
  show WN kindOf ((p,w) :: P.zip vs) m x=_;unfold WN;exact OK (i:=i) (UH.mp nd).2 (by simpa using h1) (by simpa using h2) hk
theorem OL {kindOf:Str->Option WM}{x:Str}{v:Value}:∀{P:List Str}{vs:List Value}{i:Nat}{m:Str->Option Value},P.Nodup->P[i]?=some x->vs[i]?=some v->kindOf x≠some .local ->
  WO kindOf (P.zip vs) m x=some v
 | [],_,_,_,_,h,_,_=>by simp at h
 | _ :: _,[],_,_,_,_,h,_=>by simp at h
 | p :: P,w :: vs,0,m,nd,h1,h2,hk=>by
  simp at h1 h2;subst h1;subst h2;show WO kindOf ((p,w) :: P.zip vs) m p=_;unfold WO;rw [OJ λv hv=>(UH.mp nd).1 (Zp hv).1,if_neg hk];simp
 | p :: P,w :: vs,i+1,m,nd,h1,h2,hk=>by
  show WO kindOf ((p,w) :: P.zip vs) m x=_;unfold WO;exact OL (i:=i) (UH.mp nd).2 (by simpa using h1) (by simpa using h2) hk
noncomputable def AW (N:List Str)(vs:List V):St:=vs.map some++Ug (N.length - vs.length) none
noncomputable def C3 (CX:B0)(P:Ub)(w:T6)(K:T3)(mg:Str->Option Value)(base:Heap)(N:List Str)(qual:Str)(scope:Scope)(f:Addr)(cd:Value)(A:Us)(outer:List Env)(s:T2)(H:Hp)(E:XK):Cx where
 prog:=P
 w:=w
 K:=K
 mg:=mg
 base:=base
 A:=A.deeper (Wh qual scope s.heap.objs.size f cd)
 N:=N
 s₀:=s
 H₀:=H
 env:=Wh qual scope s.heap.objs.size f cd
 outer:=outer
 stack:=Wh qual scope s.heap.objs.size f cd :: outer
 ex:=[]
 calm:=true
 fn:=λ_=>true
 pn:=[]
 xe:=λe s'=>T5 (T8 P w) (A.deeper (Wh qual scope s.heap.objs.size f cd)) (leaving (Wh qual scope s.heap.objs.size f cd) e) (λ_ aN=>CX outer H s E e aN) (λe' aN=>CX outer H s E e' aN) s'
theorem OM {sc:Scope}{n:Nat}{x:Str}(h:sc.names.lookup x=some .cell):∃ c,(Zq n sc.names []).lookup x=some c:=by have q:=wH sc.names n [] (.inl h);exact YC.mp q
theorem Abp {CX:B0}{P:Ub}{w:T6}{K:T3}{mg:Str->Option Value}{base:Heap}{N ps:List Str}{D:Str}{B:Scope}{f:Addr}{O:Value}{A:Us}{outer:List Env}{s s1:T2}{H:Hp}{E:XK}{us:List Value}{vs:List V}(S:AR N ps B)(hd:A.handled=none)(J:FI P w K mg base A outer s H)(hl:vs.length=ps.length)(r:Ay vs us)(x:InCallC s s.heap.objs.size (WN (Wh D B s.heap.objs.size f O).kindOf (ps.zip us) λ_=>none) (Zq (s.heap.objs.size+1) B.names []) (WO (Wh D B s.heap.objs.size f O).kindOf (ps.zip us) λ_=>none) s1) :
  Ad (C3 CX P w K mg base N D B f O A outer s H E) [] (AW N vs) H s1:=by
 have aT:ps.length<=N.length:=by have:=congrArg V9 S.pre;rw [VF] at this;omega
 obtain ⟨Y,tk,rfl,hk⟩:=AQ x.done;have iU:∀ b:Addr,b ∉ (C3 CX P w K mg base N D B f O A outer s H E).ex:=λb z=>absurd (show b∈([]:List Addr) from z) (by simp);refine ⟨⟨J.mod,S.kind,rfl,rfl,Uq _,λy z c Y I=>?_,λy hy=>?_,λy c _ h=>?_,λ_=>hd,Around.frames_deeper J.frames,.inr ⟨rfl,rfl⟩,λb z=>absurd z (iU b),J.bs,J.cF,λb _ _=>iU b,λb z=>absurd z (iU b),J.bK,J.cT⟩,
  rfl,J.bare,Un.kept hk,⟨_,x.toInCall.ns,λi y v Y I h3=>?_⟩,λy c h=>⟨_,x.cell y c h⟩,J.af.fresh (Uq _),λy c h=>?_,λp L=>absurd (show p∈([]:List (Addr×Obj)) from L) (by simp),J.af.kept hk,?_⟩
 .exact name_of_addr x.apart (Wi Y) (Wi I)
 .have hy:B.names.lookup y=some .cell\/B.names.lookup y=some .free:=hy;rcases hy with hy | hy
  .exact OM hy
  .exact absurd rfl (S.aah _ (Wi hy))
 .exact Zc (x.above y c (Wi h))
 .have hi:i<vs.length:=by
   unfold AW at I;by_cases hi:i<vs.length
   .exact hi
   .rw [List.getElem?_append_right (by simpa using hi)] at I;rw [List.getElem?_replicate] at I;split at I<;>cases I
  have ha:vs[i]?=some v:=by
   unfold AW at I;rw [wI (by simpa using hi),Uj] at I;cases e:vs[i]? with
   | none=>rw [e] at I;cases I
   | some a=>rw [e] at I;cases I;rfl
  obtain ⟨u,hu,rv⟩:=Ag (r.get ha);have L:ps[i]?=some y:=by rw [<- S.pre,List.getElem?_take_of_lt (by omega)];exact Y
  have qU:ps.Nodup:=by rw [<- S.pre];exact S.nd.sublist (YD _ _)
  refine ⟨u,rv,?_⟩;rcases S.par y (Uw L) with k | k
  .exact .inl ⟨k,OK qU L hu k⟩
  .obtain ⟨c,e⟩:=OM (n:=s.heap.objs.size+1) k;refine .inr ⟨.inl k,c,e,?_⟩;have q:=x.cell y c e;rw [OL qU L hu (by show B.names.lookup y≠_;rw [k];decide)] at q;exact q
 .exact J.af.fresh (Zc (x.above y c (Wi h)))
 .unfold AW;show _=N.length;rw [U2,T7,Vi];omega
theorem ON {CX:B0}{P:Ub}{w:T6}{K:T3}{mg:Str->Option Value}{base:Heap}{k:Nat}{f:Addr}{name D:Str}{L:Arguments}{body:List Stmt}{B:Scope}{dV kV doc pm Y ct oc:Value}{an od:Option Addr}{eN:Array (Option Value)}{N ps:List Str}{sp:Sp}(lk:K.lookup f=some ⟨oc,od,.func (VG name D L body B dV kV doc pm an Y ct),eN⟩)(cG:Ww K Y D=true)(S:AR N ps B)(len:∀ vs H Q E,sp vs H Q E->vs.length=ps.length)(iV:∀ (A:Us) (outer:List Env) (s:T2) (H:Hp) (vs:List V) (Q:VK) (E:XK),Bu k (A.deeper (Wh D B s.heap.objs.size f Y))->sp vs H Q E ->
   ∃ t,CN (C3 CX P w K mg base N D B f Y A outer s H E) body t/\t { nx:=λ_ O=>Q .aa O,rt:=Q } (AW N vs) H) :
  AF P w K mg base CX (k+1) f (VG name D L body B dV kV doc pm an Y ct) ps sp:=by
 refine ⟨len,λA outer s H args us vs Q E hr e0 hb r dN=>?_⟩;have hl:=len _ _ _ _ dN;have KX:K.In s.heap:=e0.mod.eJ.keeps λb o e=>(e0.bs b o e).1;have lim:s.heap.NoLimit:=e0.mod.nolimit.keeps λb o e=>(e0.bs b o e).1;have aai:∀ y∈ps.zip us,B.names.lookup y.1=some .local\/(B.names.lookup y.1=some .cell/\((Zq (s.heap.objs.size+1) B.names []).lookup y.1).isSome=true):=λ⟨n,v⟩ hy=>by
  rcases S.par n (Zp hy).1 with q | q
  .exact .inl q
  .exact .inr ⟨q,wH _ _ _ (.inl q)⟩
 refine codeAny_call_function hr.depth (KX _ _ lk) rfl S.co S.gen rfl (PySem.W.codeRec_of KX cG) (hb _ _ _ _ ?_);refine wpAny_newFunctionEnv_cells S.kind aai λenv he s1 x=>?_;subst he;refine ⟨lim.keeps x.toInCall.keep,codeAny_func ?_⟩;obtain ⟨t,ht,hq⟩:=Ag (iV A outer s H vs Q E (hr.deeper _) dN);have I:Ad (C3 CX P w K mg base N D B f Y A outer s H E) [] (AW N vs) H s1:=Abp S hr.hd e0 hl r x;refine VB (ht [] s1 (AW N vs) H _ I hq) (λfl s' hs=>?_) λe s' hs=>hs;have fin:∀{σ':St}{O:Hp}{v:V}{u:Value},Ad (C3 CX P w K mg base N D B f Y A outer s H E) [] σ' O s'->AE v u->Q v O->CE outer P w H s Q u s' :=
  λ{σ' O v u} J rv q=>⟨v,O,J.os,J.bare,J.base,J.af,rv,q⟩
 cases fl with
 | ret u =>
  obtain ⟨v,σ',O,J,rv,q⟩:=BI hs;exact fin J rv q
 | next =>
  obtain ⟨σ',O,J,q⟩:=AQ hs;exact fin (v:=V.aa) (u:=U8) J rfl q
 | brk =>
  obtain ⟨_,_,_,q⟩:=AQ hs;exact VO q
 | cont =>
  obtain ⟨_,_,_,q⟩:=AQ hs;exact VO q
section
variable {X:Cx}{x:Str}{p pos:Pos}{e:T9}{es:List T9}{t:TA}{id T:String}{r:List V->Hp->VK->Prop}
def Jh (r:List V->Hp->VK->Prop)(t:TA):TE:=λσ H Q=>t σ H λvs H1=>r vs H1 Q
theorem Abq (hc:BJ X (.builtin id) r)(B:Gl X x)(D:X.mg x=none)(hv:U9 x=some (.builtin id))(J:PA X (e :: es) t)(L:x≠"__name__":=by decide)(O:(x == ("__debug__":Str))=false:=by decide)(Y:Ul (e :: es) X.env=(false,Ui e X.env) :: Ul es X.env:=by rfl)(aT:(UP pos (Ul es X.env)).any (·.1)=false:=by rfl):PE X (.Call (.Name x p) (e :: es) [] pos) (Jh r t):=by intro pins s σ H Q I h;refine YB (FC I B D hv ?_ L O);exact PyProof.Rows.callWith_builtin1 (Ap (J pos pins s σ H _ I h) λus s1 zz=>AG zz λvs H1 I1 r1 q1=>hc pins s1 σ H1 vs us Q I1 r1 q1) Y aT
theorem Abr (hc:BJ X (.type T) r)(B:Gl X x)(D:X.mg x=none)(hv:U9 x=some (.type T))(J:PA X (e :: es) t)(L:x≠"__name__":=by decide)(O:(x == ("__debug__":Str))=false:=by decide)(Y:Ul (e :: es) X.env=(false,Ui e X.env) :: Ul es X.env:=by rfl)(aT:(UP pos (Ul es X.env)).any (·.1)=false:=by rfl):PE X (.Call (.Name x p) (e :: es) [] pos) (Jh r t):=by intro pins s σ H Q I h;refine YB (FC I B D hv ?_ L O);exact X5 (Ap (J pos pins s σ H _ I h) λus s1 zz=>AG zz λvs H1 I1 r1 q1=>hc pins s1 σ H1 vs us Q I1 r1 q1) Y aT
end
end L2
namespace HT
open PySem PyProof.Rows
section
open PySem.SeqAt
open PySem.AutoSeq1 (wpAny_loadPart')
open PySem.MeetsSeq PySem.MeetsSeq2 PySem.MeetsSeq3
end
section
variable {prog:Ub}{w:T6}{A:Us}{E:Value->T2->Prop}{s:T2}
noncomputable def aO (n d:Nat):Option Int->Nat
 | none=>d
 | some v=>if v<0 then (v+(n:Int)).toNat else min v.toNat n
theorem qV (n d:Nat):aO n d none=d:=rfl
theorem qW (n d k:Nat):aO n d (some (k:Int))=min k n:=by show (if (k:Int)<0 then ((k:Int)+(n:Int)).toNat else min (k:Int).toNat n)=min k n;rw [if_neg (by omega),Xo]
theorem qX (n d:Nat)(hd:d<=n)(o:Option Int):aO n d o<=n:=by
 cases o with
 | none=>exact hd
 | some v =>
  show (if v<0 then (v+(n:Int)).toNat else min v.toNat n)<=n;by_cases hv:v<0
  .rw [if_pos hv];omega
  .rw [if_neg hv];exact Nat.min_le_right _ _
theorem aaj (v:Int)(n d:Nat):(if v<0 then max (v+(n:Int)) 0 else min v (n:Int))=((aO n d (some v):Nat):Int):=by
 show (if v<0 then max (v+(n:Int)) 0 else min v (n:Int))=(((if v<0 then (v+(n:Int)).toNat else min v.toNat n):Nat):Int);by_cases hv:v<0
 .simp only [if_pos hv];omega
 .simp only [if_neg hv];omega
end
end HT
namespace L2
open PySem PySem.Spec PyProof.Rows
abbrev TO:=St->Hp->(Option Int->Hp->Prop)->Prop
def PO (X:Cx)(e:Option T9)(t:TO):Prop :=
 ∀(pins:List (Addr×Obj))(s:T2)(σ:St)(H:Hp)(Q:Option Int->Hp->Prop),Ad X pins σ H s->t σ H Q ->
  T5 (T8 X.prog X.w) X.A (evalPart e X.env) (λu s'=>∃ o H',Ad X pins σ H' s'/\IsPart u o/\Q o H') X.xe s
def Abs:TO:=λ_ H Q=>Q none H
def Abt (t:TE):TO:=λσ H Q=>t σ H λx H1=>∃ i,x=.int i/\Q (some i) H1
section
variable {X:Cx}{e:T9}{te:TE}{lo hi:Option T9}{tl th:TO}{pos p2:Pos}
theorem Hu:PO X none Abs:=by intro pins s σ H Q I h;rw [evalPart_none];exact Um ⟨none,H,I,.none,h⟩
theorem Hv (h:PE X e te):PO X (some e) (Abt te):=by
 intro pins s σ H Q I hw;rw [evalPart_some];refine Ap (h pins s σ H _ I hw) λu V D=>AG D λx J L O B=>?_;replace B:=Ag B;obtain ⟨i,rfl,q⟩:=B
 obtain ⟨t,rfl⟩:=O;exact ⟨some i,J,L,.int i t,q⟩
def EB (X:Cx)(r:V->Option Int->Option Int->Hp->VK->Prop):Prop :=
 ∀(pins:List (Addr×Obj))(s:T2)(σ:St)(H:Hp)(x:V)(v vl vu:Value)(lo hi:Option Int)(sl:Addr)(Q:VK),Ad X pins σ H s->AE x v->s.heap.IsSliceOf sl vl vu .none->IsPart vl lo->IsPart vu hi->r x lo hi H Q ->
  ∃ T id,typeLookup (.type T) "__getitem__"=pure (some (.builtin id))/\s.TypeIs v T/\T5 (T8 X.prog X.w) X.A (Xe v (.ref sl)) (EP X pins σ Q) X.xe s
theorem EB.or {r B:V->Option Int->Option Int->Hp->VK->Prop}(h:EB X r)(h':EB X B):EB X (λx lo hi H Q=>r x lo hi H Q\/B x lo hi H Q):=by
 intro pins s σ H x v D J lo hi L Q I O hs pl Y q;rcases q with q | q
 .exact h pins s σ H x v D J lo hi L Q I O hs pl Y q
 .exact h' pins s σ H x v D J lo hi L Q I O hs pl Y q
def tSl (r:V->Option Int->Option Int->Hp->VK->Prop)(te:TE)(tl th:TO):TE:=λσ H Q=>te σ H λx H1=>tl σ H1 λl H2=>th σ H2 λu H3=>r x l u H3 Q
theorem Hw {r:V->Option Int->Option Int->Hp->VK->Prop}(Y:EB X r)(he:PE X e te)(hl:PO X lo tl)(hu:PO X hi th):PE X (.Subscript e (.Slice lo hi none p2) pos) (tSl r te tl th):=by intro pins s σ H Q I h;refine Zs (Ap (he pins s σ H _ I h) λv s1 D=>AG D λx H1 I1 r1 q1=>?_);refine wpAny_Slice (Ap (hl pins s1 σ H1 _ I1 q1) λJ s2 D=>AG D λl H2 I2 pl q2=>Ap (hu pins s2 σ H2 _ I2 q2) λL B D=>AG D λu O I3 pu q3=>?_);rw [evalPart_none];refine Um ?_;have I4:Ad X pins σ O { B with heap:=B.heap.push { cls:=.type "slice",data:=.fields #[J,L,.none] } }:=I3.kept (t':=B.toks) λb ob q=>UA _ q;obtain ⟨T,id,hT,ht,hg⟩:=AY (Y pins { B with heap:=B.heap.push { cls:=.type "slice",data:=.fields #[J,L,.none] } } σ O x v J L l u B.heap.objs.size Q I4 r1 (Heap.IsSliceOf.new ..) pl pu q3);show T5 (T8 X.prog X.w) X.A (Zt e (.Slice lo hi none p2) v (.ref B.heap.objs.size)) (EP X pins σ Q) X.xe { B with heap:=B.heap.push { cls:=.type "slice",data:=.fields #[J,L,.none] } };exact tail_any (ops:=[.ref B.heap.objs.size,v]) ht hT hg (by with_unfolding_all rfl)
noncomputable def Gs (xs:List V)(lo hi:Option Int):List V:=(xs.drop (HT.aO xs.length 0 lo)).take (HT.aO xs.length xs.length hi - HT.aO xs.length 0 lo)
theorem Abu (xs:List V)(lo hi:Option Int):(Gs xs lo hi).length<=xs.length:=by unfold Gs;rw [VF,wJ];omega
end
noncomputable def DJ (n:Nat)(i:Int):Option Nat:=if 0<=i then (if i<n then some i.toNat else none) else if -(n:Int)<=i then some (i+n).toNat else none
noncomputable def Cu {α:Type}(xs:List α)(i:Int):Option α:=(DJ xs.length i).bind λj=>xs[j]?
theorem OO {n:Nat}{i:Int}{j:Nat}(h:DJ n i=some j):Ya i n=some j/\j<n/\-(n:Int)<=i/\i<n:=by
 unfold DJ at h;by_cases D:0<=i
 .rw [if_pos D] at h;by_cases B:i<n
  .rw [if_pos B] at h;have e:i.toNat=j:=UK h;exact ⟨by rw [YE D B,e],by omega,by omega,B⟩
  .rw [if_neg B] at h;cases h
 .rw [if_neg D] at h;by_cases B:-(n:Int)<=i
  .rw [if_pos B] at h;have e:(i+n).toNat=j:=UK h;exact ⟨by rw [Zu (by omega) B,e],by omega,B,by omega⟩
  .rw [if_neg B] at h;cases h
theorem Ji {α:Type}{xs:List α}{i:Int}{v:α}(h:Cu xs i=some v):∃ j,Ya i xs.length=some j/\xs[j]?=some v/\j<xs.length/\-(xs.length:Int)<=i/\i<xs.length:=by
 unfold Cu at h;cases e:DJ xs.length i with
 | none=>rw [e] at h;cases h
 | some j =>
  rw [e] at h;obtain ⟨B,D,h3,H⟩:=AD (OO e);exact ⟨j,B,h,D,h3,H⟩
theorem C4 {α:Type}{xs:List α}{j:Nat}{v:α}(h:xs[j]?=some v):Cu xs (j:Int)=some v:=by
 have B:j<xs.length:=(US.mp h).1;have e:DJ xs.length (j:Int)=some j:=by unfold DJ;rw [if_pos (by omega),if_pos (by omega)];simp
 unfold Cu;rw [e];exact h
def Abv (b:T9):Prop:=∀ o i,YF b false o i=operate [o,i] (Xe o i)
def Ed (X:Cx)(r:R2):Prop :=
 ∀(value slice:T9)(pins:List (Addr×Obj))(s:T2)(σ:St)(H:Hp)(x y:V)(v u:Value)(Q:VK),Ad X pins σ H s->AE x v->AE y u->r x y H Q ->
  YF slice false v u=operate [v,u] (Xe v u)->T5 (T8 X.prog X.w) X.A (Zt value slice v u) (EP X pins σ Q) X.xe s
def OP (X:Cx)(id:String)(r:V->List V->Hp->VK->Prop):Prop :=
 ∀(pins:List (Addr×Obj))(s:T2)(σ:St)(H:Hp)(x:V)(xs:List V)(v:Value)(us:List Value)(Q:VK),Ad X pins σ H s->AE x v->Ay xs us->r x xs H Q ->
  T5 (T8 X.prog X.w) X.A (call (.builtin id) (v :: us)) (EP X pins σ Q) X.xe s
section
variable {X:Cx}{a b:T9}{ta tb:TE}{pos:Pos}
theorem Ed.or {r B:R2}(h:Ed X r)(h':Ed X B):Ed X (λx y H Q=>r x y H Q\/B x y H Q):=by
 intro value slice pins s σ H x y v u Q I D J q hs;rcases q with q | q
 .exact h value slice pins s σ H x y v u Q I D J q hs
 .exact h' value slice pins s σ H x y v u Q I D J q hs
theorem AK {r:R2}(B:Ed X r)(D:PE X a ta)(hb:PE X b tb)(hs:Abv b):PE X (.Subscript a b pos) (I0 r ta tb):=by intro pins s σ H Q I h;exact Zs (K5 D hb I h λv u J x y L O V Y q=>B a b pins J σ L x y v u Q O V Y q (hs _ _))
def OQ (K:T3):R2:=λx y H Q=>∃ p xs i v,x=.ref p/\y=.int i/\Bg K H p xs/\Cu xs i=some v/\Q v H
def OR (K:T3):R2:=λx y H Q=>∃ p xs i v,x=.ref p/\y=.int i/\Bt K H p xs/\Cu xs i=some v/\Q v H
def OS:R2:=λx y H Q=>∃ z i c,x=.str z/\y=.int i/\z.length<=sizeLine/\Cu z.cps.toList i=some c/\Q (.str ⟨#[c]⟩) H
theorem Abw:Ed X (OQ X.K):=by
 intro value slice pins s σ H x y v u Q I V Y h hs;replace h:=Cj h;obtain ⟨p,xs,i,z,rfl,rfl,hq,he,q⟩:=h
 cases V;obtain ⟨t,rfl⟩:=Y;obtain ⟨its,r,pl,hz⟩:=Av (I.list hq);obtain ⟨j,D,h2,h3,h4,h5⟩:=Av (Ji he);obtain ⟨w,L,bp⟩:=Ag (r.get h2);have hl:=r.length;have hn:=Ff;have B:EP X pins σ Q w s:=⟨z,H,I,bp,q⟩;by_cases O:0<=i
 .have J:i.toNat=j:=by
   rw [YE O h5] at D;exact UK D
  exact item_listR pl.isList O (by omega) (by rw [J];simpa using L) B hs
 .have J:(i+(its.toArray.size:Int)).toNat=j:=by
   rw [Zu (by omega) h4] at D;rw [UG,<- hl];exact UK D
  exact wK (x:=w) pl.isList.typeIs wL.lookup
   (wpAny_getItem_list_neg (Q:=λr s'=>r=w/\EP X pins σ Q r s') pl.isList (by omega) (by rw [UG]<;>omega) (by omega) (by rw [J];simpa using L) ⟨rfl,B⟩) hs
theorem Abx:Ed X (OR X.K):=by
 intro value slice pins s σ H x y v u Q I D J h hs;replace h:=Cj h;obtain ⟨p,xs,i,z,rfl,rfl,hq,L,q⟩:=h
 cases D;obtain ⟨t,rfl⟩:=J;obtain ⟨its,r,pl,hz⟩:=Av (I.tuple hq);obtain ⟨j,O,V,h3,h4,h5⟩:=Av (Ji L);obtain ⟨w,Y,bp⟩:=Ag (r.get V);have hl:=r.length;have hn:=Ff;have B:EP X pins σ Q w s:=⟨z,H,I,bp,q⟩;exact wK (x:=w) pl.typeIs slot_tuple_getitem.lookup
  (getItem_tuple (j:=j) (Q:=λr s'=>r=w/\EP X pins σ Q r s') pl (by omega) (by omega) (by rw [UG,<- hl];exact O) (by simpa using Y) ⟨rfl,B⟩) hs
theorem Aby:Ed X OS:=by
 intro value slice pins s σ H x y v u Q I D J h hs;replace h:=BZ h;obtain ⟨z,i,c,rfl,rfl,hz,L,q⟩:=h
 obtain ⟨t,rfl⟩:=D;obtain ⟨t',rfl⟩:=J;obtain ⟨j,B,O,h3,V,Y⟩:=Av (Ji L);have hl:z.cps.toList.length=z.length:=by simp [Xp]
 rw [hl] at B V Y;have hn:=Ff;exact tail_any (YG s z t) slot_str_getitem.lookup (getItem_str (c:=c) (by
  have e1:decide (i < -(2 ^ 63:Int))=false:=decide_eq_false (by omega);have e2:decide (i ≥ 2 ^ 63)=false:=decide_eq_false (by omega);rw [e1,e2,Bool.or_false]) (by rw [B];simpa using O) ⟨.str ⟨#[c]⟩,H,I.tok _,⟨_,rfl⟩,q⟩) hs
def OT (K:T3):R2:=λx y H Q=>OQ K x y H Q\/OR K x y H Q\/OS x y H Q
theorem AL:Ed X (OT X.K):=Abw.or (Abx.or Aby)
theorem Abz (its:List Value)(n j:Nat)(u:Value):Vm (·.setIfInBounds j u) { cls:=.type "list",data:=.seq its.toArray n }={ cls:=.type "list",data:=.seq (its.set j u).toArray n }:=by simp [Vm]
theorem Ad.lst {pins:List (Addr×Obj)}{σ:St}{H:Hp}{s:T2}{p:Addr}{xs:List V}(I:Ad X pins σ H s)(h:H p=some (.lst xs)) :
  ∃(its:List Value)(n:Nat),Ay xs its/\s.heap.get? p=some { cls:=.type "list",data:=.seq its.toArray n }/\xs.length<=sizeLine:=by
 obtain ⟨z,its,n,r,e⟩:=I.af p _ h;exact ⟨its,n,r,e,z⟩
theorem Ad.aak {pins:List (Addr×Obj)}{σ:St}{H:Hp}{s:T2}{p:Addr}{xs ys:List V}{its its':List Value}{n B:Nat}{f:Obj->Obj}(I:Ad X pins σ H s)(h:H p=some (.lst xs))(J:s.heap.get? p=some { cls:=.type "list",data:=.seq its.toArray n })(D:f { cls:=.type "list",data:=.seq its.toArray n }={ cls:=.type "list",data:=.seq its'.toArray B })(r:Ay ys its')(L:ys.length<=sizeLine)(t:Nat) :
  Ad X pins σ (upd H p (.lst ys)) { s with heap:=s.heap.update p f,toks:=t }:=by
 have e:(s.heap.update p f).get? p=some { cls:=.type "list",data:=.seq its'.toArray B }:=by rw [Zv f J (by rw [D]<;>rfl),D]
 refine I.write (x:=p) (e:=p) (by rw [h];trivial) (.inl rfl) (λb u hb q=>(wM _ _ (UQ hb)).trans q) ⟨_,e⟩ ?_;exact ⟨L,its',B,r,e⟩
def AbA:V->V->V->Hp->(Hp->Prop)->Prop:=λo i v H Q=>∃ p xs k j,o=.ref p/\i=.int k/\H p=some (.lst xs)/\DJ xs.length k=some j/\Q (upd H p (.lst (xs.set j v)))
theorem DA:K4 X AbA:=by
 intro pins s σ H o i v ov iv u Q I ro ri rv h;replace h:=Cj h;obtain ⟨p,xs,k,j,rfl,rfl,L,hj,q⟩:=h
 cases ro;obtain ⟨t,rfl⟩:=ri;obtain ⟨its,n,r,D,hz⟩:=AY (I.lst L);obtain ⟨B,h2,h3,O⟩:=AD (OO hj);have J:=r.length;have hn:=Ff;have V:Ad X pins σ (upd H p (.lst (xs.set j v))) { s with heap:=s.heap.update p (Vm (·.setIfInBounds j u)) } :=
  I.aak L D (Abz its n j u) (r.set rv j) (by rw [UE];exact hz) s.toks
 by_cases Y:0<=k
 .have hk:k.toNat=j:=by
   rw [YE Y O] at B;exact UK B
  exact PySem.W.ki_setAt D Y (by omega) (by rw [UG,<- J];exact O) (by rw [hk];exact ⟨_,V,q⟩)
 .have hk:(k+(its.toArray.size:Int)).toNat=j:=by
   rw [Zu (by omega) h3] at B;rw [UG,<- J];exact UK B
  exact PySem.W.ki_setBack D (by omega) (by rw [UG,<- J];exact h3) (by omega) (by rw [hk];exact ⟨_,V,q⟩)
theorem AbB (lo B:Option Int)(n:Nat):(Xq lo B none n).1=((HT.aO n 0 lo:Nat):Int)/\(Xq lo B none n).2.1=((HT.aO n n B:Nat):Int)/\(Xq lo B none n).2.2=1:=by
 refine ⟨?_,?_,rfl⟩
 .cases lo with
  | none=>simp [Xq,HT.aO]
  | some i =>
   simp only [Xq,HT.aO,Zw,show (1:Int) > 0 by decide,if_true];by_cases h:i<0
   .simp only [h,if_true]<;>omega
   .simp only [h,if_false]<;>omega
 .cases B with
  | none=>simp [Xq,HT.aO]
  | some i =>
   simp only [Xq,HT.aO,Zw,show (1:Int) > 0 by decide,if_true];by_cases h:i<0
   .simp only [h,if_true]<;>omega
   .simp only [h,if_false]<;>omega
theorem AbC (its:List Value)(lo B:Option Int):slicePick its.toArray lo B none=((its.drop (HT.aO its.length 0 lo)).take (HT.aO its.length its.length B - HT.aO its.length 0 lo)).toArray:=by obtain ⟨D,H,h3⟩:=AD (AbB lo B its.toArray.size);unfold slicePick;rw [D,H,h3];simp only [sliceRange_one,pick_run,UG]<;>rfl
def Lb (K:T3):V->Option Int->Option Int->Hp->VK->Prop:=λx lo hi H Q=>∃ a xs,x=.ref a/\Bg K H a xs/\∀ p,H p=none->Q (.ref p) (upd H p (.lst (Gs xs lo hi)))
theorem AbD:EB X (Lb X.K):=by
 intro pins s σ H x v vl vu lo J sl Q I O hs pl V h;replace h:=AY h;obtain ⟨a,B,rfl,hx,q⟩:=h
 cases O;obtain ⟨its,r,L,Y⟩:=Av (I.list hx);have D:=r.length;refine ⟨"list",_,wL.lookup,L.isList.typeIs,?_⟩;refine wpAny_getItem_list_slice L.isList hs pl V .none (by simp) ?_ (by rw [UG]<;>omega);rw [AbC,<- D];refine ⟨.ref s.heap.objs.size,_,I.laid (t':=s.toks) (o:=.lst (Gs B lo J)) (λb ob q=>UA _ q) (Uq _) ?_,rfl,q _ (I.af.fresh (Uq _))⟩;exact ⟨U7 (Abu B lo J) Y,_,0,(r.drop (HT.aO B.length 0 lo)).take (HT.aO B.length B.length J - HT.aO B.length 0 lo),Va _ rfl⟩
noncomputable def C5:V->Bool
 | .aa=>true
 | .bl _=>true
 | .int _=>true
 | .str _=>true
 | _=>false
noncomputable def CU:V->V->Bool
 | .aa,.aa=>true
 | .bl a,.bl b=>a == b
 | .bl a,.int b=>(if a then 1 else 0) == b
 | .int a,.bl b=>a == (if b then 1 else 0)
 | .int a,.int b=>a == b
 | .str a,.str b=>a == b
 | _,_=>false
theorem AbE {A:Us}{s:T2}{y x:V}{u v:Value}(H:AE y u)(B:AE x v)(J:C5 y=true)(I:C5 x=true):SeqAt.EqAt A s u v (CU y x):=by
 cases y with
 | aa =>
  cases H;cases x with
  | aa=>cases B;exact SeqAt.EqAt.same _
  | bl b=>cases B;exact SeqAt.EqAt.none_bool b
  | int b=>obtain ⟨t,rfl⟩:=B;exact SeqAt.EqAt.none_int b t
  | str b=>obtain ⟨t,rfl⟩:=B;exact SeqAt.EqAt.none_str b t
  | _=>exact absurd (show false=true from I) UT
 | bl a =>
  cases H;cases x with
  | aa=>cases B;exact SeqAt.EqAt.bool_none a
  | bl b=>cases B;exact SeqAt.EqAt.bool_bool a b
  | int b=>obtain ⟨t,rfl⟩:=B;exact SeqAt.EqAt.bool_int a b t
  | str b=>obtain ⟨t,rfl⟩:=B;exact SeqAt.EqAt.bool_str a b t
  | _=>exact absurd (show false=true from I) UT
 | int a =>
  obtain ⟨D,rfl⟩:=H;cases x with
  | aa=>cases B;exact SeqAt.EqAt.int_none a D
  | bl b=>cases B;exact SeqAt.EqAt.int_bool a D b
  | int b=>obtain ⟨t,rfl⟩:=B;exact SeqAt.EqAt.int_int a D b t
  | str b=>obtain ⟨t,rfl⟩:=B;exact we a D b t
  | _=>exact absurd (show false=true from I) UT
 | str a =>
  obtain ⟨D,rfl⟩:=H;cases x with
  | aa=>cases B;exact SeqAt.EqAt.str_none a D
  | bl b=>cases B;exact SeqAt.EqAt.str_bool a D b
  | int b=>obtain ⟨t,rfl⟩:=B;exact wg a D b t
  | str b=>obtain ⟨t,rfl⟩:=B;exact SeqAt.EqAt.str_str a D b t
  | _=>exact absurd (show false=true from I) UT
 | _=>exact absurd (show false=true from J) UT
noncomputable def C6 (x:V)(u:Value):Bool:=match u with
 | .none=>CU .aa x
 | .bool b=>CU (.bl b) x
 | .int i _=>CU (.int i) x
 | .str z _=>CU (.str z) x
 | _=>false
theorem Jj {x y:V}{u:Value}(r:AE y u)(f:C5 y=true):C6 x u=CU y x:=by
 cases y with
 | aa=>cases r;rfl
 | bl b=>cases r;rfl
 | int i=>obtain ⟨t,rfl⟩:=r;rfl
 | str z=>obtain ⟨t,rfl⟩:=r;rfl
 | _=>exact absurd (show false=true from f) UT
theorem Hx {x:V}:∀{xs:List V}{us:List Value},Ay xs us->xs.all C5=true->us.any (C6 x)=xs.any λy=>CU y x
 | _,_,.nil,_=>rfl
 | y :: xs,u :: us,.cons r t,f=>by
  rw [List.all_cons,Wj] at f;rw [Yb,Yb,Jj r f.1,Hx t f.2]
theorem Gu {A:Us}{s:T2}{x:V}{v:Value}(B:AE x v)(D:C5 x=true):∀{xs:List V}{us:List Value},Ay xs us->xs.all C5=true->∀ u∈us,SeqAt.EqAt A s u v (C6 x u)
 | _,_,.nil,_=>λu hu=>by cases hu
 | y :: xs,u :: us,.cons r t,f=>λH hu=>by
  rw [List.all_cons,Wj] at f;rcases Uo.mp hu with rfl | hu
  .rw [Jj r f.1];exact AbE r B f.1 D
  .exact Gu B D t f.2 H hu
def Ee (x:V)(xs:List V):Bool:=xs.any λy=>CU y x
def Gv (K:T3)(neg:Bool):R2:=λx y H Q=>∃ p xs,y=.ref p/\(Bg K H p xs\/Bt K H p xs)/\C5 x=true/\xs.all C5=true/\Q (.bl (if neg then !Ee x xs else Ee x xs)) H
theorem AbF:Bf X (UW .In) (Gv X.K false):=by
 intro pins s σ H x y v u Q I B J h;replace h:=Dl h;obtain ⟨p,O,rfl,hq,D,fs,q⟩:=h
 cases J;rcases hq with hq | hq
 .obtain ⟨its,r,pl,L⟩:=Av (I.list hq);refine SeqAt.in_listAt (C6 x) pl.isList (λw hw=>Gu B D r fs w (by simpa using hw)) ⟨.bl _,H,I,rfl,?_⟩;rw [show its.toArray.any (C6 x)=its.any (C6 x) by simp,Hx r fs];exact q
 .obtain ⟨its,r,pl,L⟩:=Av (I.tuple hq);refine SeqAt.in_tupleAt (C6 x) pl (λw hw=>Gu B D r fs w (by simpa using hw)) ⟨.bl _,H,I,rfl,?_⟩;rw [show its.toArray.any (C6 x)=its.any (C6 x) by simp,Hx r fs];exact q
theorem AbG:Bf X (UW .NotIn) (Gv X.K true):=by
 intro pins s σ H x y v u Q I B J h;replace h:=Dl h;obtain ⟨p,O,rfl,hq,D,fs,q⟩:=h
 cases J;rcases hq with hq | hq
 .obtain ⟨its,r,pl,L⟩:=Av (I.list hq);refine SeqAt.notIn_listAt (C6 x) pl.isList (λw hw=>Gu B D r fs w (by simpa using hw)) ⟨.bl _,H,I,rfl,?_⟩;rw [show its.toArray.any (C6 x)=its.any (C6 x) by simp,Hx r fs];exact q
 .obtain ⟨its,r,pl,L⟩:=Av (I.tuple hq);refine SeqAt.notIn_tupleAt (C6 x) pl (λw hw=>Gu B D r fs w (by simpa using hw)) ⟨.bl _,H,I,rfl,?_⟩;rw [show its.toArray.any (C6 x)=its.any (C6 x) by simp,Hx r fs];exact q
theorem AbH:Bf X (UW .NotIn) (λx y H Q=>∃ i j,x=.str i/\y=.str j/\Q (.bl (!(!(Zi j i 0 j.length 1).isEmpty))) H):=by
 intro pins s σ H x y v u Q I B D h;replace h:=AY h;obtain ⟨i,j,rfl,rfl,q⟩:=h
 obtain ⟨t,rfl⟩:=B;obtain ⟨J,rfl⟩:=D;exact notIn_str ⟨.bl _,H,I,rfl,q⟩
theorem AbI:BJ X (.builtin "len") (λxs H Q=>∃ p ys,xs=[.ref p]/\(Bg X.K H p ys\/Bt X.K H p ys)/\Q (.int ys.length) H):=by
 intro pins s σ H xs O Q I r h;replace h:=AY h;obtain ⟨p,ys,rfl,hq,q⟩:=h
 obtain ⟨u,rfl,J⟩:=Ag (CZ r);cases J;have V:=Ff;rcases hq with hq | hq
 .obtain ⟨its,D,pl,L⟩:=Av (I.list hq);have B:=D.length;exact Calls.call_len_list pl.isList (by simp only [UG]<;>omega) ⟨.int ys.length,H,I.tok _,⟨s.toks+1,by rw [UG,B]⟩,q⟩
 .obtain ⟨its,D,pl,L⟩:=Av (I.tuple hq);have B:=D.length;exact len_tuple pl (by simp only [UG]<;>omega) ⟨.int ys.length,H,I.tok _,⟨s.toks+1,by rw [UG,B]⟩,q⟩
theorem AbJ:BJ X (.builtin "len") (λxs H Q=>∃ z,xs=[.str z]/\z.length<=sizeLine/\Q (.int z.length) H):=by
 intro pins s σ H xs B Q I r h;replace h:=Av h;obtain ⟨z,rfl,D,q⟩:=h
 obtain ⟨u,rfl,t,rfl⟩:=Ag (CZ r);have J:=Ff;exact len_str (by omega) ⟨.int z.length,H,I.tok _,⟨_,rfl⟩,q⟩
theorem BJ.or {f:Value}{r B:List V->Hp->VK->Prop}(h:BJ X f r)(h':BJ X f B):BJ X f (λxs H Q=>r xs H Q\/B xs H Q):=by
 intro pins s σ H xs D Q I J q;rcases q with q | q
 .exact h pins s σ H xs D Q I J q
 .exact h' pins s σ H xs D Q I J q
theorem AbK:BJ X (.type "list") (λxs H Q=>∃ p ys,xs=[.ref p]/\(Bg X.K H p ys\/Bt X.K H p ys)/\∀ l,H l=none->Q (.ref l) (upd H l (.lst ys))):=by
 intro pins s σ H xs us Q I r h;replace h:=AY h;obtain ⟨p,ys,rfl,hq,q⟩:=h
 obtain ⟨u,rfl,rx⟩:=Ag (CZ r);cases rx;have L:∀(its:List Value),Ay ys its->ys.length<=sizeLine->∀(B:Heap)(D:Nat),(∀ b o',s.heap.get? b=some o'->B.get? b=some o') ->
   B.get? s.heap.objs.size=some { cls:=.type "list",dict:=none,data:=.seq its.toArray D,slots:=#[] }->EP X pins σ Q (.ref s.heap.objs.size) { s with heap:=B }:=λits J O B D V e =>
  ⟨.ref s.heap.objs.size,_,I.laid (t':=s.toks) V (Uq _) (show Bl X.prog X.w _ B _ (.lst ys) from ⟨O,its,D,J,e⟩),rfl,q _ (I.af.fresh (Uq _))⟩
 rcases hq with hq | hq
 .obtain ⟨its,J,pl,O⟩:=Av (I.list hq);have Y:=J.length;obtain ⟨o,ho,hc,n,hd⟩:=Av pl.isList;exact call_list_seq p (.inl rfl) ho hc hd (λB D V e=>L its J O B D V e) (by simp only [UG]<;>omega)
 .obtain ⟨its,J,pl,O⟩:=Av (I.tuple hq);have Y:=J.length;obtain ⟨o,ho,hc,n,hd⟩:=Av pl;exact call_list_seq p (.inr rfl) ho hc hd (λB D V e=>L its J O B D V e) (by simp only [UG]<;>omega)
theorem Jk:BJ X (.type "tuple") (λxs H Q=>∃ p ys,xs=[.ref p]/\((Bg X.K H p ys/\∀ l,H l=none->Q (.ref l) (upd H l (.tup ys)))\/(Bt X.K H p ys/\Q (.ref p) H))):=by
 intro pins s σ H xs us Q I r h;replace h:=AQ h;obtain ⟨p,ys,rfl,h⟩:=h
 obtain ⟨u,rfl,V⟩:=Ag (CZ r);cases V;rcases h with ⟨hq,q⟩ | ⟨hq,q⟩
 .obtain ⟨its,D,pl,J⟩:=Av (I.list hq);have L:=D.length;refine call_tuple_list pl.isList (λB Y=>?_) (by simp only [UG]<;>omega);have O:Ad X pins σ H { s with heap:=B }:=I.kept (t':=s.toks) Y;have I2:Ad X pins σ (upd H B.objs.size (.tup ys)) { s with heap:=B.push { cls:=.type "tuple",data:=.seq its.toArray } } :=
   O.laid (t':=s.toks) (λb o e=>UA _ e) (Uq _) (show Bl X.prog X.w _ _ _ (.tup ys) from ⟨J,its,D,IsTup.new _ _⟩)
  exact ⟨.ref B.objs.size,_,I2,rfl,q _ (O.af.fresh (Uq _))⟩
 .obtain ⟨its,D,pl,J⟩:=Av (I.tuple hq);exact call_tuple_same pl ⟨.ref p,H,I,rfl,q⟩
def OU (K:T3)(T:String)(x:V)(H:Hp):Prop:=match x with
 | .str _=>T="str"
 | .int _=>T="int"
 | .ref p=>(T="list"/\∃ xs,Bg K H p xs)\/(T="tuple"/\∃ o,K.lookup p=some o/\o.cls=.type "tuple"/\o.dict=none) \/
   (T="dict"/\((∃ kvs,H p=some (.dK kvs))\/∃ kvs,H p=some (.dT kvs)))\/(T="set"/\∃ S n,H p=some (.set S n))
 | _=>False
theorem AbL {pins:List (Addr×Obj)}{σ:St}{H:Hp}{s:T2}{T:String}{x:V}{v:Value}(I:Ad X pins σ H s)(r:AE x v)(ty:OU X.K T x H) :
  s.TypeIs v T/\∀ a,v=.ref a->∃ J,s.heap.get? a=some J/\J.dict=none:=by
 cases x with
 | str z =>
  obtain ⟨t,rfl⟩:=r;cases (show T="str" from ty);exact ⟨YG s z t,λ_ e=>nomatch e⟩
 | int i =>
  obtain ⟨t,rfl⟩:=r;cases (show T="int" from ty);exact ⟨Zx s i t,λ_ e=>nomatch e⟩
 | ref p =>
  cases r;rcases ty with ⟨rfl,L,hq⟩ | ⟨rfl,o,hk,hc,hd⟩ | ⟨rfl,hk⟩ | ⟨rfl,S,n,hk⟩
  .obtain ⟨its,_,pl,_⟩:=Av (I.list hq);refine ⟨pl.isList.typeIs,λa e=>?_⟩;cases e;obtain ⟨o,n,e,c,hd,_⟩:=AY pl;exact ⟨o,e,hd⟩
  .refine ⟨⟨o,I.aJ p o hk,hc⟩,λa e=>?_⟩;cases e;exact ⟨o,I.aJ _ o hk,hd⟩
  .have z:∃ o,s.heap.get? p=some o/\o.ExactDict:=by
    rcases hk with ⟨B,hk⟩ | ⟨B,hk⟩
    .obtain ⟨_,_,_,_,o,_,_,e,ex,_⟩:=AD (I.af p _ hk);exact ⟨o,e,ex⟩
    .obtain ⟨_,_,_,_,o,_,_,e,ex,_⟩:=AD (I.af p _ hk);exact ⟨o,e,ex⟩
   obtain ⟨o,e,ex⟩:=Ag z;refine ⟨⟨o,e,ex.1⟩,λa D=>?_⟩;cases D;exact ⟨o,e,ex.2.1⟩
  .obtain ⟨o,_,_,_,e,ex,_⟩:=Cj (I.af p _ hk);refine ⟨⟨o,e,ex.1⟩,λa D=>?_⟩;cases D;exact ⟨o,e,ex.2.1⟩
 | _=>exact VO ty
def tBM (K:T3)(T:String)(r:V->List V->Hp->VK->Prop)(to:TE)(t:TA):TE:=λσ H Q=>to σ H λx H1=>OU K T x H1/\t σ H1 λxs H2=>r x xs H2 Q
variable {o e:T9}{es:List T9}{to:TE}{t:TA}{name:Str}{apos bh:Pos}{T id:String}{r:V->List V->Hp->VK->Prop}
theorem Cm (pa:PlainAttrs T)(slot:Slot T name id)(B:typeOf (.builtin id)=pure (.type "method_descriptor"))(hm:OP X id r)(ho:PE X o to)(ha:PA X (e :: es) t)(D:X6 o name X.env (Ui o X.env)=Ui o X.env:=by rfl)(J:((UP bh (Ul (e :: es) X.env)).all (λx=>!x.1) && (V7 bh (V8 [] X.env)).all (λx=>x.1.isSome)
   && decide ((e :: es).length+([]:List Xn).length+(if ([]:List Xn).isEmpty then 0 else 1)<30))=true:=by rfl)(L:(apos.endLine == bh.line)=true:=by rfl)(hs:Ul (e :: es) X.env=(false,Ui e X.env) :: Ul es X.env:=by rfl)(O:(UP bh (Ul es X.env)).any (·.1)=false:=by rfl) :
  PE X (.Call (.Attribute o name apos) (e :: es) [] bh) (tBM X.K T r to t):=by
 intro pins s σ H Q I h;refine wpAny_Call_method_late D J L rfl (Ap (ho pins s σ H _ I h) λv s1 Y=>Hg Y λx H1 I1 r1 ty q1=>?_);obtain ⟨h1,h2⟩:=AbL I1 r1 ty;refine ⟨T,id,pa,slot,B,h1,h2,?_⟩;have hA:=ha bh pins s1 σ H1 _ I1 q1;rw [hs] at hA ⊢;refine wN (by show (false || (UP bh (Ul es X.env)).any (·.1))=false;rw [O]<;>rfl) (Zy ?_);exact Ap hA λus s2 Y=>AG Y λvs H2 I2 r2 q2=>hm pins s2 σ H2 x vs v us Q I2 r1 r2 q2
end
def Hy (X:Cx)(id:String)(r:V->List V->Hp->VK->Prop):Prop :=
 ∀(pins:List (Addr×Obj))(s:T2)(σ:St)(H:Hp)(x:V)(xs:List V)(v:Value)(us:List Value)(Q:VK),Ad X pins σ H s->AE x v->Ay xs us->r x xs H Q ->
  T5 (T8 X.prog X.w) X.A (call (.builtin id) (v :: us)) (EP X pins σ Q) X.xe s
theorem Ay.one {x:V}{us:List Value}(h:Ay [x] us):∃ u,us=[u]/\AE x u:=CZ h
theorem Ay.two {x y:V}{us:List Value}(h:Ay [x,y] us):∃ u v,us=[u,v]/\AE x u/\AE y v:=K9 h
theorem Ay.eraseIdx:∀{xs:List V}{us:List Value}(i:Nat),Ay xs us->Ay (xs.eraseIdx i) (us.eraseIdx i)
 | _,_,_,.nil=>.nil
 | _,_,0,.cons _ t=>t
 | _,_,i+1,.cons r t=>.cons r (Ay.eraseIdx i t)
theorem Ay.rep {xs:List V}{us:List Value}(h:Ay xs us):∀ k:Nat,Ay (Ug k xs).flatten (Ug k us).flatten
 | 0=>.nil
 | k+1=>by
  rw [WQ,WQ,XC,XC];exact Ay.append h (Ay.rep h k)
theorem OV {α:Type}:∀(l:List α)(i:Nat),(l.eraseIdx i).length<=l.length
 | [],_=>Uq _
 | _ :: _,0=>Vl _
 | _ :: r,i+1=>YH (OV r i)
theorem OW (its:List Value):∀(k:Nat)(B:List Value),
  Zz (λD x2=>D++x2) B.toArray (Ug k its.toArray)=(B++(Ug k its).flatten).toArray
 | 0,B=>by simp
 | k+1,B=>by
  have e:B.toArray++its.toArray=(B++its).toArray:=by simp
  have H:(B++its)++(Ug k its).flatten=B++(Ug (k+1) its).flatten:=by rw [WQ,XC,Uv]
  rw [<- H,<- OW its k (B++its),<- e,WQ,wO]
section
variable {X:Cx}{pins:List (Addr×Obj)}{σ:St}{H:Hp}{s:T2}{l b:Addr}{xs ys zs:List V}
theorem Ad.iW {its its':List Value}{n:Nat}{f:Array Value->Array Value}{t':Nat}(I:Ad X pins σ H s)(B:H l=some (.lst xs))(e:s.heap.get? l=some { cls:=.type "list",data:=.seq its.toArray n })(D:f its.toArray=its'.toArray)(hv:Ay ys its')(J:ys.length<=sizeLine) :
  Ad X pins σ (upd H l (.lst ys)) { s with heap:=s.heap.update l (Vm f),toks:=t' }:=by
 have q:=PySem.IsL.update e f;rw [D] at q;refine I.write (x:=l) (e:=l) (by rw [B];exact trivial) (.inl rfl) (λL u hb hu=>(wM s.heap (Vm f) (UQ hb)).trans hu) ⟨_,q⟩ ?_;exact ⟨J,its',_,hv,q⟩
theorem Ad.mK {its:List Value}{t':Nat}(I:Ad X pins σ H s)(hv:Ay ys its)(B:ys.length<=sizeLine) :
  Ad X pins σ (upd H s.heap.objs.size (.lst ys)) { s with heap:=s.heap.push { cls:=.type "list",data:=.seq its.toArray },toks:=t' } :=
 I.laid (λ_ _ q=>UA _ q) (Uq _) ⟨B,its,0,hv,Va _ rfl⟩
theorem Ad.fresh (I:Ad X pins σ H s):H s.heap.objs.size=none:=I.af.fresh (Uq _)
theorem Ad.dO (I:Ad X pins σ H s)(B:H l=some (.lst xs)):xs.length<=sizeLine/\∃(its:List Value)(n:Nat),Ay xs its/\xs.length=its.length/\s.heap.get? l=some { cls:=.type "list",data:=.seq its.toArray n }:=by obtain ⟨z,its,n,r,e⟩:=I.af l _ B;exact ⟨z,its,n,r,r.length,e⟩
theorem OX {n:Nat}(h:n<=sizeLine):YI n=false:=by unfold YI;exact decide_eq_false (by omega)
end
section
variable {X:Cx}
def AbM:V->List V->Hp->VK->Prop:=λx vs H Q=>∃ l xs y,x=.ref l/\vs=[y]/\H l=some (.lst xs)/\xs.length<sizeLine/\Q .aa (upd H l (.lst (xs++[y])))
theorem C7:Hy X "list.append" AbM:=by
 intro pins s σ H x vs v O Q I D J h;replace h:=BZ h;obtain ⟨l,V,y,rfl,rfl,B,Y,q⟩:=h
 cases D;obtain ⟨u,rfl,L⟩:=Ag J.one;obtain ⟨z,its,n,r,hl,e⟩:=I.dO B;refine WR F.slot_list_append ⟨_,e,rfl⟩ F.entry_list_append (F.args_list_append_2 _ _) (PySem.list_append l its.toArray n u (by rw [UG];omega)) ⟨e,?_⟩;refine ⟨.aa,_,I.iW (its':=its++[u]) B e (by simp) (r.append (.cons L .nil)) ?_,rfl,q⟩;rw [U2,Vv];omega
def AbN:V->List V->Hp->VK->Prop:=λx vs H Q=>∃ l b xs zs,x=.ref l/\vs=[.ref b]/\H l=some (.lst xs)/\H b=some (.lst zs)/\xs.length+zs.length<=sizeLine/\Q .aa (upd H l (.lst (xs++zs)))
theorem AbO:Hy X "list.extend" AbN:=by
 intro pins s σ H x vs v us Q I J L h;replace h:=Dd h;obtain ⟨l,b,xs,zs,rfl,rfl,D,O,hz,q⟩:=h
 cases J;obtain ⟨u,rfl,V⟩:=Ag L.one;cases V;obtain ⟨z,its,n,r,hl,e⟩:=I.dO D;obtain ⟨z2,dk,Y,r2,fK,e2⟩:=I.dO O;have B:its.toArray.size+dk.toArray.size<=sizeLine:=by rw [UG,UG];omega
 have g7:¬ (!its.toArray.isEmpty && YI (its.toArray.size+dk.toArray.size))=true:=by rw [OX B,Bool.and_false];exact UT
 refine WR F.slot_list_extend ⟨_,e,rfl⟩ F.entry_list_extend (F.args_list_extend_2 _ _)
  (AutoSeq1.list_extend_list_list_0 l its.toArray n b dk.toArray Y g7 (by rw [UG];omega) (by omega)) ⟨e,e2,?_⟩
 refine ⟨.aa,_,I.iW (its':=its++dk) D e (by simp) (r.append r2) ?_,rfl,q⟩;rw [U2];omega
def AbP:V->List V->Hp->VK->Prop:=λx vs H Q=>∃ l xs i k y,x=.ref l/\vs=[.int i]/\H l=some (.lst xs)/\-(2 ^ 63)<=i/\i<2 ^ 63/\Ya i xs.length=some k/\xs[k]?=some y/\Q y (upd H l (.lst (xs.eraseIdx k)))
theorem OY:Hy X "list.pop" AbP:=by
 intro pins s σ H x vs v us Q I D J h;replace h:=Dm h;obtain ⟨l,L,i,k,y,rfl,rfl,B,O,V,hk,hy,q⟩:=h
 cases D;obtain ⟨u,rfl,Y⟩:=Ag J.one;obtain ⟨t,rfl⟩:=Y;obtain ⟨z,its,n,r,hl,e⟩:=I.dO B;obtain ⟨w,hw,bp⟩:=Ag (r.get hy);refine WR F.slot_list_pop ⟨_,e,rfl⟩ F.entry_list_pop (F.args_list_pop_2 _ _)
  (MeetsSeq.list_pop_at l its.toArray n i t k w (wQ O V) (by rw [UG,<- hl];exact hk) (by rw [<- YJ];exact hw) (by rw [UG];omega)) ⟨e,?_⟩
 refine ⟨y,_,I.iW (its':=its.eraseIdx k) B e ?_ (r.eraseIdx k) ?_,bp,q⟩
 .show its.toArray.eraseIdxIfInBounds k=(its.eraseIdx k).toArray;rw [ZA]
 .have:=OV L k;omega
def OZ:R2:=λx y H Q=>∃ l b xs zs,x=.ref l/\y=.ref b/\H l=some (.lst xs)/\H b=some (.lst zs)/\xs.length+zs.length<=sizeLine/\∀ p,H p=none->Q (.ref p) (upd H p (.lst (xs++zs)))
theorem AbQ:Bf X (VP .Add) OZ:=by
 intro pins s σ H x y v u Q I B D h;replace h:=Dd h;obtain ⟨l,b,xs,zs,rfl,rfl,J,L,hz,q⟩:=h
 cases B;cases D;obtain ⟨z,its,n,r,hl,e⟩:=I.dO J;obtain ⟨z2,dk,n2,O,fK,V⟩:=I.dO L;refine PySem.P.add_list e V ?_ (by rw [UG,UG];omega);have Y:its.toArray++dk.toArray=(its++dk).toArray:=by simp
 rw [Y];exact ⟨.ref _,_,I.mK (t':=s.toks) (r.append O) (by rw [U2];omega),rfl,q _ I.fresh⟩
def O0:R2:=λx y H Q=>∃ l k xs,x=.ref l/\y=.int k/\H l=some (.lst xs)/\-(2 ^ 63)<=k/\k<2 ^ 63/\xs.length * k.toNat<=sizeLine /\
 ∀ p,H p=none->Q (.ref p) (upd H p (.lst (Ug k.toNat xs).flatten))
theorem AbR {α:Type}(xs:List α)(k:Nat):(Ug k xs).flatten.length=k * xs.length:=by
 induction k with
 | zero=>simp
 | succ k ih=>rw [WQ,XC,U2,ih,Nat.succ_mul,Nat.add_comm]
theorem AbS:Bf X (VP .Mult) O0:=by
 intro pins s σ H x y v u Q I Y ry h;replace h:=BZ h;obtain ⟨l,k,xs,rfl,rfl,hH,h1,h2,V,q⟩:=h
 cases Y;obtain ⟨t,rfl⟩:=ry;obtain ⟨z,its,n,r,hl,e⟩:=I.dO hH;have B:its.toArray.size * k.toNat<=sizeLine:=by rw [UG,<- hl];exact V
 have D:¬ its.toArray.size * k.toNat > (2 ^ 63 - 1) / 8:=by
  have:(sizeLine:Nat)<=(2 ^ 63 - 1) / 8:=by decide
  omega
 have J:¬ (!Builtin.List.listFitsIndex k)=true:=by rw [wQ h1 h2];exact UT
 have g7:¬ YI (its.toArray.size * k.toNat)=true:=by rw [OX B];exact UT
 have L:Zz (λO x2=>O++x2) #[] (Ug (if its.toArray.isEmpty=true then 0 else k.toNat) its.toArray)=(Ug k.toNat its).flatten.toArray:=by
  have f0:∀ m:Nat,Zz (λO x2=>O++x2) #[] (Ug m its.toArray)=(Ug m its).flatten.toArray:=λm=>by
   have:=OW its m [];rw [ZC] at this;exact this
  rw [f0];cases its with
  | nil=>simp
  | cons a r'=>rw [if_neg (by simp)]
 refine wpAny_binaryOp_repeat_ref (T:="list") (U:="int") (by decide) ⟨_,e,rfl⟩ (λs'=>Zx s' k t) noFill_list_mul F.fills_int_mul wR repeat_list F.slot_int_index.lookup
  (WR wR (Zx s k t) F.entry_int_rmul (F.args_int_rmul_2 _ _) (int___rmul___int_list k t l its.toArray n)
   ⟨e,rfl,⟨_,e,rfl⟩,WR F.slot_list_mul ⟨_,e,rfl⟩ F.entry_list_mul (F.args_list_mul_2 _ _) (AutoListH.list___mul___list_int_3 l its.toArray n k t J D g7) ⟨e,?_⟩⟩)
 rw [L];exact ⟨.ref _,_,I.mK (t':=s.toks) (r.rep k.toNat) (by rw [AbR,Nat.mul_comm];exact V),rfl,q _ I.fresh⟩
end
section
variable {prog:Ub}{w:T6}{A:Us}{E:Value->T2->Prop}{s:T2}
set_option maxRecDepth 100000 in
end
section
variable {X:Cx}
end
end L2
namespace Att
open PySem PySem.W PySem.Calls PyProof.Rows
theorem AbT {P:Yc}{h:Heap}:∀(ns:List Int)(vs:List Value),WellAll P h vs (ns.map WData.int)->Yd vs ns:=by
 intro ns;induction ns with
 | nil =>
  intro vs w;rw [XD] at w;cases w;exact .nil
 | cons n ns ih =>
  intro vs w;rw [Vd] at w;cases w with
  | cons a b =>
   cases a;exact .cons _ _ (ih _ b)
theorem AbU {l:OpenLaw}{n:Nat}(L:l.most=some n){P:Yc}{h:Heap}{args:List WData}{vals:List Value}(J:l.row.toRowW.claim.pre args=true)(O:WellAll P h vals args) :
  ∃ a vs ns,vals=[UI a]/\args=[WData.list (ns.map WData.int)]/\h.get? a=some { cls:=.type "list",data:=.seq vs.toArray }/\Yd vs ns/\ns.length<=n:=by
 have I:WShape.hasAll [] args [.list .int]=true:=(pre_splitW J).1;have hc:l.pre.holds [] { args:=args }=true:=(pre_splitW J).2;obtain ⟨d,r,rfl,V,Y⟩:=hasAllW_cons I;obtain rfl:=hasAllW_nil Y;obtain ⟨xs,rfl,h3⟩:=hasW_list V;obtain ⟨ns,rfl⟩:=items_int h3;have B:ns.length<=n:=by
  unfold OpenLaw.pre at hc;have D:(WTm.not (.lt (.lit (.int (n:Int))) (.len (.arg 0)))).holds [] { args:=[.list (ns.map .int)] }=true:=by have D:=(holds_andW hc).1;rw [L] at D;exact D
  have H:=condW_of D (w_not (w_lt w_lit (w_len_list (w_arg rfl))));rw [T7] at H;refine Nat.le_of_not_lt λq=>?_;have q':(n:Int)<((ns.length:Nat):Int):=by omega
  first
   | (rw [decide_eq_true q'] at H;exact absurd H (by decide))
   | (simp at H;omega)
 cases O with
 | cons w1 w2 =>
  cases w2;cases w1 with
  | list ho aA=>exact ⟨_,_,ns,rfl,rfl,ho,AbT ns _ aA,B⟩
theorem AbV (l:OpenLaw)(args:List WData):l.row.toRowW.claim.post args (.bool true) args=true :=
 postW_of (r:=l.row.toRowW) (X:=(true == true))
  (show WShape.has [] (.bool true) .bool=true by first | rfl | decide | simp [WShape.has,WShape.arms,WShape.armsAll])
  (show (WTm.eq .res (.lit (.bool true))).value [] { args:=args,res:=some (.bool true),after:=args }=some (.bool (true == true)) from w_eq_bool (w_res rfl) w_lit) rfl
theorem aas {l:OpenLaw}{n:Nat}{q:Ub}{B:List Str}{XP:(Str->Option Value)->Heap->Prop}{YP:T6->Heap->Prop}{d:DefRec}(hn:l.most=some n)(iX:d.params.defaults=[])(call:∀ (w:T6) (s₀ D:T2) (mg V:Str->Option Value) (fa:Addr) (o:Obj) (pm L H:Value) (a:Addr) (vs:List Value) (ns:List Int),
   Ground q B [] XP w s₀ mg V D.heap->YP w D.heap ->
   D.heap.get? fa=some o->o.data=.func (docDef d.name d.params d.body d.scope pm L H)->D.heap.CodeRec L d.name->mg d.name=some (.ref fa) ->
   D.heap.get? a=some { cls:=.type "list",data:=.seq vs.toArray }->Yd vs ns->ns.length<=n->D.gens=#[] ->
   Vk (T8 l.prog w) Xr (.call (.ref fa) ⟨[.ref a],[]⟩) (λr O=>r=.ok (.ret (.bool true))/\OldK D.heap O.heap/\O.os=D.os/\We O.gens) D) :
  WalkO q B XP YP l.row.toRowW d [] (λf vs=>ZD f vs):=by
 intro w s₀ D mg V G Y fa o pm L H dV kV ho hd cG hD iY hg args vals as kB aeB qY mL hlo;obtain rfl:dV=.none:=Dflts.none hD iX;obtain rfl:kV=.none:=Dflts.noKw hD;obtain ⟨a,vs,ns,rfl,rfl,mM,I,J⟩:=AbU hn kB mL;refine enter_call (Xm (call w s₀ D mg V fa o pm L H a vs ns G Y ho (fd_plain hd) cG iY mM I J hg) λr O hq=>?_);obtain ⟨rfl,h2,h3,h4⟩:=hq;exact ⟨.inl ⟨.bool true,.bool true,[],rfl,λ_=>rfl,.bool true,AbV l _,λ_=>⟨List.Pairwise.nil,λ_ hm=>(nomatch hm)⟩⟩,h2,h3,h4⟩
section
variable {prog:Ub}{w:T6}{A:Us}{E:Value->T2->Prop}{s:T2}{K:Frag}
end
end Att
namespace L2
open PySem PySem.Spec PyProof.Rows
theorem O1:∀{vs:List Value}{ns:List Int},Yd vs ns->Ay (ns.map V.int) vs
 | _,_,.nil=>.nil
 | _,_,.cons n t h=>.cons ⟨t,rfl⟩ (O1 h)
def Lc (H:Hp):Prop:=∀ b,H b=none\/∃ o xs,H b=some (.bX o (.lst xs))
theorem AbW {P:Ub}{w:T6}{K:T3}{mg mb:Str->Option Value}{CX:B0}{k:Nat}{fa a:Addr}{fd:Uk}{x:Str}{sp:Sp}{B:T2}{vs:List Value}{ns:List Int}(KX:K.In B.heap)(bG:B.heap.Ns Ux mg)(hb:B.heap.Ns Zb mb)(mO:∀ x:Str,x≠"__name__"->mb x=U9 x)(aat:B.heap.NoLimit)(hg:B.gens=#[])(Y:B.heap.get? a=some { cls:=.type "list",data:=.seq vs.toArray })(hi:Yd vs ns)(hl:ns.length<=sizeLine)(hr:Bu k Xr)(F:∀ base:Heap,K.In base->base.Ns Ux mg->AF P w K mg base CX k fa fd [x] sp)(aau:∀ (s:T2) (u:Value),Xl s fd ⟨[u],[]⟩ [(x,u)])(dN:∀ H:Hp,Lc H->Bg K H a (ns.map V.int)->sp [.ref a] H (λv _=>v=.bl true) λ_ _ _=>False)(mP:∀ H e D,CX [] H B (λ_ _ _=>False) e D->False) :
  Vk (T8 P w) Xr (.call (.ref fa) ⟨[.ref a],[]⟩) (λr D=>r=.ok (.ret (.bool true))/\OldK B.heap D.heap/\D.os=B.os/\We D.gens) B:=by
 have rv:=O1 hi;have aav:=hi.length;have I:∀ H:Hp,Lc H->Bg K H a (ns.map V.int)->AV P w H B.heap->(∀ b,H b≠none->b=a)->(H a≠none->K.lookup a=none) ->
   Vk (T8 P w) Xr (.call (.ref fa) ⟨[.ref a],[]⟩) (λr D=>r=.ok (.ret (.bool true))/\OldK B.heap D.heap/\D.os=B.os/\We D.gens) B:=by
  intro H hO hS af hA hK;have qZ:∀{b:Addr}{o:Obj},B.heap.get? b=some o->H b=none->(Ey B.heap H).get? b=some o:=λe n=>Aaj e n;have iU:∀{b:Addr}{o:Obj}{es:Array Ye}{J:Nat},B.heap.get? b=some o->o.data=.dict es J->H b=none:=λ{b o es J} e d=>by
   cases q:H b with
   | none=>rfl
   | some u =>
    have e':b=a:=hA b (by rw [q];simp);subst e';rw [Y] at e;cases e;have d':Data.seq vs.toArray _=Data.dict es J:=d;cases d'
  have kC:∀{b:Addr}{m:Str->Option Value},B.heap.Ns b m->(Ey B.heap H).Ns b m:=λ{b m} ⟨o,es,J,e,d,r⟩=>⟨o,es,J,qZ e (iU e d),d,r⟩;have rf:K.In (Ey B.heap H):=λb o e=>qZ (KX b o e) (by
   cases q:H b with
   | none=>rfl
   | some u =>
    have e':b=a:=hA b (by rw [q];simp);subst e';rw [hK (by rw [q];simp)] at e;cases e)
  have hM:Mod K mg (Ey B.heap H):=⟨rf,kC bG,⟨mb,kC hb,mO⟩,let ⟨mc,h1,h2⟩:=aat;⟨mc,kC h1,h2⟩⟩;have e0:FI P w K mg (Ey B.heap H) Xr [] B H:=⟨rfl,hM,λb o e=>Aak e,Nat.le_of_eq (Aai _ _),trivial,λb hb=>absurd (show b∈([]:List Addr) from hb) (by simp),af,.of_eq hg⟩;refine Xm ((F _ rf (kC bG)).run Xr [] B H ⟨[.ref a],[]⟩ [.ref a] [.ref a] _ _ hr e0 (aau B (.ref a)) (.cons rfl .nil) (dN H hO hS)) λr D h=>?_;cases r with
  | error e=>exact (mP H e D h).elim
  | ok fl =>
   cases fl with
   | next=>exact VO h
   | brk=>exact VO h
   | cont=>exact VO h
   | ret u =>
    obtain ⟨v,H',os,L,un,aaw,r',q⟩:=Dl h;have q':v=.bl true:=q;subst q';obtain rfl:u=XO true:=r';refine ⟨rfl,OldK.of_keep λb o e=>?_,os,L⟩;cases q:H b with
    | none=>exact un.keep b o e q (by intro z;exact absurd (show b∈([]:List Addr) from z) (by simp)) (by simp)
    | some u =>
     rcases hO b with z | ⟨ob,xs,z⟩
     .rw [q] at z;cases z
     .have z2:=un.cR b ob _ z;obtain ⟨e1,_⟩:=af b _ z;obtain ⟨e2,_⟩:=aaw b _ z2;rw [e] at e1;cases e1;exact e2
 cases hk:K.lookup a with
 | some o =>
  have e:=KX a o hk;rw [Y] at e;cases e;refine I (λ_=>none) (λ_=>.inl rfl) (.inr ⟨_,vs.toArray,_,hk,rfl,rfl,rfl,by rw [UG,aav];exact hl,by simpa using rv⟩) (λb u z=>by have O:(none:Option HO)=some u:=z;cases O) (λb z=>absurd rfl z) λz=>absurd rfl z
 | none =>
  refine I (λb=>if b=a then some (.bX { cls:=.type "list",data:=.seq vs.toArray } (.lst (ns.map V.int))) else none) (λb=>?_) (.inl (.inr ⟨{ cls:=.type "list",data:=.seq vs.toArray },if_pos rfl⟩)) (λb u z=>?_) (λb z=>?_) λ_=>hk
  .by_cases hb:b=a
   .exact .inr ⟨_,_,if_pos hb⟩
   .exact .inl (if_neg hb)
  .by_cases hb:b=a
   .have O:=(if_pos hb).symm.trans z;cases O;subst hb;exact ⟨Y,by rw [T7];exact hl,vs,_,rv,Y⟩
   .have O:=(if_neg hb).symm.trans z;cases O
  .by_cases hb:b=a
   .exact hb
   .exact absurd (if_neg hb) z
theorem aay {l:ZE}{n k:Nat}{q:Ub}{D:List Str}{XP:(Str->Option Value)->Heap->Prop}{L:T6->Heap->Prop}{d:DefRec}{K:Yc->T3}{CX:T6->B0}{sp:T6->Sp}{x:Str}(hn:l.most=some n)(gu:n<=sizeLine)(iX:d.params.defaults=[])(hr:Bu k Xr)(hY:∀ (w:T6) (h:Heap),L w h->(K w.params).In h)(F:∀ (w:T6) (mg:Str->Option Value) (fa:Addr) (h:Heap),(K w.params).In h->h.Ns Ux mg->mg d.name=some (.ref fa) ->
   ∃ fd:Uk,(∀ (s:T2) (u:Value),Xl s fd ⟨[u],[]⟩ [(x,u)]) /\
    ∀ base:Heap,(K w.params).In base->base.Ns Ux mg->AF l.prog w (K w.params) mg base (CX w) k fa fd [x] (sp w))(dN:∀ (w:T6) (H:Hp) (a:Addr) (ns:List Int),ns.length<=n->Lc H->Bg (K w.params) H a (ns.map V.int)->sp w [.ref a] H (λv _=>v=.bl true) λ_ _ _=>False)(mP:∀ (w:T6) (H:Hp) (s:T2) (e:Value) (J:T2),CX w [] H s (λ_ _ _=>False) e J->False) :
  PySem.W.WalkO q D XP L l.row.toRowW d [] (λf vs=>ZD f vs):=by
 refine Att.aas hn iX λw s₀ s₁ mg mb fa o pm cd doc a vs ns G Y ho hd cG iY mM I B hg=>?_;have O:=hY w _ Y;obtain ⟨fd,hb,hF⟩:=Ag (F w mg fa _ O G.T.g iY);exact AbW O G.T.g G.T.b G.T.builtins G.T.nolimit hg mM I (U7 B gu) hr hF hb (λH hO hS=>dN w H a ns B hO hS) λH e J=>mP w H s₁ e J
def Af (s:Stmt)(j:Nat):Stmt:=match s with
 | .ClassDef _ _ _ body _ _ _ _ _ _ _=>body.getD j (.Pass ⟨0,0,0,0⟩)
 | _=>.Pass ⟨0,0,0,0⟩
def DK (s:Stmt):Arguments:=match s with
 | .FunctionDef _ a _ _ _ _ _ _ _ _=>a
 | _=>{ posonlyargs:=[],args:=[],vararg:=none,kwonlyargs:=[],kw_defaults:=[],kwarg:=none,defaults:=[] }
def Dp (s:Stmt):List Stmt:=match s with
 | .FunctionDef _ _ b _ _ _ _ _ _ _=>b
 | _=>[]
def Ab (s:Stmt):Scope:=match s with
 | .FunctionDef _ _ _ _ _ _ sc _ _ _=>sc
 | _=>{ kind:=.function,names:=[],isGenerator:=false,isCoroutine:=false }
abbrev AB:B0:=λ_ _ _ _ _ _=>False
abbrev E0:XK:=λ_ _ _=>False
theorem A3 {X:Cx}:CT AB X E0:=λ_ _ _ _ _ _ _ h=>h.elim
structure AM (K:T3)(x qual:Str)(st:Stmt)(f:Addr)(fd:Uk):Prop where
 ex:∃(oc:Value)(od:Option Addr)(kV doc pm:Value)(an:Option Addr)(ah ct:Value)(eN:Array (Option Value)),
  fd=VG x qual (DK st) (Dp st) (Ab st) .none kV doc pm an ah ct/\K.lookup f=some ⟨oc,od,.func fd,eN⟩/\Ww K ah qual=true
 kp:Vh K (.ref f)=true
section
variable {P:Ub}{w:T6}{K:T3}{mg:Str->Option Value}{base:Heap}
theorem AM.ok {x B:Str}{st:Stmt}{f:Addr}{fd:Uk}{N ps:List Str}{k:Nat}{sp:Sp}(F:AM K x B st f fd)(S:AR N ps (Ab st))(I:∀ (D:Value) (A:Us) (outer:List Env) (s:T2) (H:Hp) (vs:List V) (Q:VK) (E:XK),Bu k (A.deeper (Wh B (Ab st) s.heap.objs.size f D))->sp vs H Q E ->
   ∃ t,CN (C3 AB P w K mg base N B (Ab st) f D A outer s H E).kq (Dp st) t/\t { nx:=λ_ J=>Q .aa J,rt:=Q } (AW N vs) H)(len:∀ vs H Q E,sp vs H Q E->vs.length=ps.length:=by intro _ _ _ _ h;repeat (first | exact congrArg V9 h.1 | obtain ⟨_,h⟩:=h)):AF P w K mg base AB (k+1) f fd ps sp:=by
 obtain ⟨oc,od,kV,L,pm,an,D,ct,eN,rfl,lk,O⟩:=Eu F.ex;refine ON lk O S len λA outer s H vs Q E Y dN=>?_;obtain ⟨t,h,q⟩:=Ag (I D A outer s H vs Q E Y dN);exact ⟨t,h.kq,q⟩
theorem AM.binds {x B:Str}{st:Stmt}{f:Addr}{fd:Uk}{ps:List Str}(F:AM K x B st f fd)(h:∀ (kV D H:Value) (I:Option Addr) (J ct:Value) (us:List Value),us.length=ps.length->bindArgs (VG x B (DK st) (Dp st) (Ab st) .none kV D H I J ct) ⟨us,[]⟩=pure (ps.zip us)):Dg K fd ps []:=by obtain ⟨L,O,kV,D,H,I,J,ct,V,rfl,lk,Y⟩:=Eu F.ex;exact .all (h kV D H I J ct)
theorem Gw {x B:Str}{st:Stmt}{f:Addr}{L:Value}{O I:Option Addr}{V:Array (Option Value)}{kV D J H ct:Value}(l:K.lookup f=some ⟨L,O,.func (VG x B (DK st) (Dp st) (Ab st) .none kV D J I H ct),V⟩)(c:Ww K H B=true)(k:Vh K (.ref f)=true):AM K x B st f (VG x B (DK st) (Dp st) (Ab st) .none kV D J I H ct):=⟨⟨L,O,kV,D,J,I,H,ct,V,rfl,l,c⟩,k⟩
end
section
variable {X:Cx}
end
theorem Cn {A B:Prop}(h:B):if false=true then A else B:=by rw [if_neg UT];exact h
theorem Co {A B:Prop}(h:A):if true=true then A else B:=by rw [if_pos rfl];exact h
theorem Jl {c A B:Prop} [Decidable c] (D:c->A) (H:¬ c->B):if c then A else B:=by
 by_cases h:c
 .rw [if_pos h];exact D h
 .rw [if_neg h];exact H h
def Ai (H H':Hp):Prop:=∀ b o,H b=some o->H' b=some o
theorem Ai.refl (H:Hp):Ai H H:=λ_ _ h=>h
theorem Ai.trans {H B D:Hp}(a:Ai H B)(b:Ai B D):Ai H D:=λc o h=>b c o (a c o h)
theorem Ai.free {H B:Hp}(e:Ai H B){l:Addr}(h:B l=Option.none):H l=Option.none:=by
 cases q:H l with
 | none=>rfl
 | some o =>
  rw [e l o q] at h;cases h
theorem Ai.seq {K:T3}{H B:Hp}{a:Addr}{xs:List V}(e:Ai H B)(h:Bg K H a xs):Bg K B a xs:=by
 rcases h with (h | ⟨o,h⟩) | h
 .exact .inl (.inl (e _ _ h))
 .exact .inl (.inr ⟨o,e _ _ h⟩)
 .exact .inr h
end L2
namespace L2
def Lk (t C:St->Hp->Prop):Prop:=∀ σ H,t σ H->C σ H
theorem Lk.use {t C:St->Hp->Prop}{σ:St}{H:Hp}(h:Lk t C)(p:t σ H):C σ H:=h _ _ p
theorem AbX {s t:TS}{D:DI}{σ:St}{H:Hp}(h:∀ C:St->Hp->Prop,Lk (t D) C->s { D with nx:=C } σ H):K2 s t D σ H:=h _ λ_ _ z=>z
theorem Lk.asg {t:St->Hp->Prop}{v:V}{i:Nat}{D:DI}{σ:St}{H:Hp}(h:Lk t D.nx)(p:t (σ.set i (some v)) H):Gn (tC v) (Ez i) D σ H:=h _ _ p
theorem w1 {α:Type u}{β:Type v}{a:β}{f:α->β}{P:α->Prop}{v:α}(e:a=f v)(h:P v):∃ v,a=f v/\P v:=⟨v,e,h⟩
theorem w2 {α β γ δ:Type}{x:γ}{y:δ}{f:α->γ}{g:β->δ}{P:α->β->Prop}{i:α}{j:β}(e:x=f i)(e':y=g j)(h:P i j):∃ i j,x=f i/\y=g j/\P i j:=⟨i,j,e,e',h⟩
theorem w3 {α β γ:Type}{x:γ}{f:α->β->γ}{P:α->β->Prop}{i:α}{j:β}(e:x=f i j)(h:P i j):∃ i j,x=f i j/\P i j:=⟨i,j,e,h⟩
section
open PySem
variable {CX:B0}{P:Ub}{w:T6}{K:T3}{mg:Str->Option Value}{base:Heap}{N:List Str}{qual:Str}{scope:Scope}{f:Addr}{cd:Value}{A:Us}{outer:List Env}{s:T2}{H:Hp}{E:XK}
end
theorem Bw {α β γ δ ξ ζ:Type}{x:ξ}{y:ζ}{f:α->β->γ->δ->ξ}{g:α->β->γ->δ->ζ}{P Q R:α->β->γ->δ->Prop} {a b c d} (p:P a b c d) (q:Q a b c d) (r:R a b c d) (e:x=f a b c d:=by rfl) (e':y=g a b c d:=by rfl):∃ a b c d,x=f a b c d/\y=g a b c d/\P a b c d/\Q a b c d/\R a b c d:=⟨a,b,c,d,e,e',p,q,r⟩
theorem Dh {α β γ δ ε ξ:Type}{x:ξ}{f:α->β->γ->δ->ε->ξ}{P Q S T R:α->β->γ->δ->ε->Prop} {a b c d i} (p:P a b c d i) (q:Q a b c d i) (s:S a b c d i) (t:T a b c d i) (r:R a b c d i) (e:x=f a b c d i:=by rfl):∃ a b c d i,x=f a b c d i/\P a b c d i/\Q a b c d i/\S a b c d i/\T a b c d i/\R a b c d i:=⟨a,b,c,d,i,e,p,q,s,t,r⟩
theorem Gx {α β γ ξ:Type}{x:ξ}{f:α->β->γ->ξ}{P Q R:α->β->γ->Prop} {a b c} (p:P a b c) (q:Q a b c) (r:R a b c) (e:x=f a b c:=by rfl):∃ a b c,x=f a b c/\P a b c/\Q a b c/\R a b c:=⟨a,b,c,e,p,q,r⟩
theorem EC {b:Bool}{A B:Prop}(h:b=true)(a:A):if b=true then A else B:=by rw [if_pos h];exact a
theorem ED {b:Bool}{A B:Prop}(h:b=false)(a:B):if b=true then A else B:=by rw [h];exact a
theorem CC {α:Type}{B R:α->Prop} (a) (D:B a) (r:R a):∃ a,B a/\R a:=⟨a,D,r⟩
theorem DY {α:Type}{B D R:α->Prop} (a) (H:B a) (I:D a) (r:R a):∃ a,B a/\D a/\R a:=⟨a,H,I,r⟩
theorem DB {α β:Type}{B R:α->β->Prop} (a b) (D:B a b) (r:R a b):∃ a b,B a b/\R a b:=⟨a,b,D,r⟩
theorem AU {α β:Type}{B D R:α->β->Prop} (a b) (H:B a b) (I:D a b) (r:R a b):∃ a b,B a b/\D a b/\R a b:=⟨a,b,H,I,r⟩
theorem CV {α β:Type}{B D P3 R:α->β->Prop} (a b) (H:B a b) (I:D a b) (h3:P3 a b) (r:R a b):∃ a b,B a b/\D a b/\P3 a b/\R a b:=⟨a,b,H,I,h3,r⟩
theorem DL {α β:Type}{B D P3 H R:α->β->Prop} (a b) (I:B a b) (J:D a b) (h3:P3 a b) (L:H a b) (r:R a b):∃ a b,B a b/\D a b/\P3 a b/\H a b/\R a b:=⟨a,b,I,J,h3,L,r⟩
theorem BO {α β γ:Type}{B R:α->β->γ->Prop} (a b c) (D:B a b c) (r:R a b c):∃ a b c,B a b c/\R a b c:=⟨a,b,c,D,r⟩
theorem Bm {α β γ:Type}{B D P3 R:α->β->γ->Prop} (a b c) (H:B a b c) (I:D a b c) (h3:P3 a b c) (r:R a b c):∃ a b c,B a b c/\D a b c/\P3 a b c/\R a b c:=⟨a,b,c,H,I,h3,r⟩
theorem B1 {α β γ:Type}{B D P3 H R:α->β->γ->Prop} (a b c) (I:B a b c) (J:D a b c) (h3:P3 a b c) (L:H a b c) (r:R a b c):∃ a b c,B a b c/\D a b c/\P3 a b c/\H a b c/\R a b c:=⟨a,b,c,I,J,h3,L,r⟩
theorem Hz {α β γ δ:Type}{B R:α->β->γ->δ->Prop} (a b c d) (D:B a b c d) (r:R a b c d):∃ a b c d,B a b c d/\R a b c d:=⟨a,b,c,d,D,r⟩
theorem Ao {α β γ δ:Type}{B D P3 H R:α->β->γ->δ->Prop} (a b c d) (I:B a b c d) (J:D a b c d) (h3:P3 a b c d) (L:H a b c d) (r:R a b c d):∃ a b c d,B a b c d/\D a b c d/\P3 a b c d/\H a b c d/\R a b c d:=⟨a,b,c,d,I,J,h3,L,r⟩
theorem Bn {α β γ δ:Type}{B D P3 H I R:α->β->γ->δ->Prop} (a b c d) (J:B a b c d) (L:D a b c d) (h3:P3 a b c d) (O:H a b c d) (V:I a b c d) (r:R a b c d):∃ a b c d,B a b c d/\D a b c d/\P3 a b c d/\H a b c d/\I a b c d/\R a b c d:=⟨a,b,c,d,J,L,h3,O,V,r⟩
theorem C8 {α β γ δ ε:Type}{B R:α->β->γ->δ->ε->Prop} (a b c d e) (D:B a b c d e) (r:R a b c d e):∃ a b c d e,B a b c d e/\R a b c d e:=⟨a,b,c,d,e,D,r⟩
theorem A7 {α β γ δ ε:Type}{B D P3 H I R:α->β->γ->δ->ε->Prop} (a b c d e) (J:B a b c d e) (L:D a b c d e) (h3:P3 a b c d e) (O:H a b c d e) (V:I a b c d e) (r:R a b c d e):∃ a b c d e,B a b c d e/\D a b c d e/\P3 a b c d e/\H a b c d e/\I a b c d e/\R a b c d e:=⟨a,b,c,d,e,J,L,h3,O,V,r⟩
theorem Jm {α β γ δ ε ζ:Type}{B R:α->β->γ->δ->ε->ζ->Prop} (a b c d e f) (D:B a b c d e f) (r:R a b c d e f):∃ a b c d e f,B a b c d e f/\R a b c d e f:=⟨a,b,c,d,e,f,D,r⟩
theorem HB {α β γ δ ε ζ η:Type}{B R:α->β->γ->δ->ε->ζ->η->Prop} (a b c d e f g) (D:B a b c d e f g) (r:R a b c d e f g):∃ a b c d e f g,B a b c d e f g/\R a b c d e f g:=⟨a,b,c,d,e,f,g,D,r⟩
theorem Jn {α β γ δ ε ζ η θ:Type}{B R:α->β->γ->δ->ε->ζ->η->θ->Prop} (a b c d e f g h) (D:B a b c d e f g h) (r:R a b c d e f g h):∃ a b c d e f g h,B a b c d e f g h/\R a b c d e f g h:=⟨a,b,c,d,e,f,g,h,D,r⟩
theorem Gy {α β γ δ ε ζ η θ ι:Type}{B R:α->β->γ->δ->ε->ζ->η->θ->ι->Prop} (a b c d e f g h i) (D:B a b c d e f g h i) (r:R a b c d e f g h i):∃ a b c d e f g h i,B a b c d e f g h i/\R a b c d e f g h i:=⟨a,b,c,d,e,f,g,h,i,D,r⟩
end L2
namespace L2
open PySem PySem.Spec PyProof.Rows
section
variable {P:Ub}{w:T6}
def AJ (P:Ub)(w:T6):B0:=λouter H s E e s'=>∃(ea:Addr)(cls a0:Value)(B:Heap)(H':Hp),
 e=.ref ea/\s'.os=s.os/\We s'.gens/\Un (CM outer) [] H H' s.heap s'.heap/\Heap.FlyingW B outer ea cls a0 s'.heap/\AV P w H' B /\
 (∀ b o,s.heap.get? b=some o->H b=none->b ∉ CM outer->B.get? b=some o)/\(∀ b o,s.heap.get? b=some o->b ∉ CM outer->∃ o',B.get? b=some o')/\E cls none H'
structure Jo (X:Cx)(pins:List (Addr×Obj))(σ:St)(H:Hp)(B:Heap)(s:T2):Prop where
 inv:Ad X pins σ H s
 af:AV X.prog X.w H B
 old:∀ b o,X.s₀.heap.get? b=some o->X.H₀ b=none->b ∉ X.fs->b ∉ X.ex->B.get? b=some o
 there:∀ b o,X.s₀.heap.get? b=some o->b ∉ X.fs->b ∉ X.ex->∃ o',B.get? b=some o'
 pin:∀ p∈X.pn++pins,B.get? p.1=some p.2
variable {X:Cx}{pins:List (Addr×Obj)}{σ:St}{H H':Hp}{s s':T2}{ea:Addr}{cls:Value}{B:Heap}
theorem Ad.de (I:Ad X pins σ H s){b:Addr}{o:Obj}(e:X.s₀.heap.get? b=some o):b≠X.env.locals:=UB (UN (Ut e) I.ok.above)
theorem Ad.rg (I:Ad X pins σ H s){E:XK}{e:Value}(h:AJ X.prog X.w X.stack H s E e s'):∃ ea cls O B H',e=.ref ea/\Jo X pins σ H' B s'/\Heap.FlyingW B X.stack ea cls O s'.heap/\E cls none H':=by
 replace h:=Dm h;obtain ⟨ea,cls,O,B,H',rfl,os,D,un,V,Y,J,there,hE⟩:=h
 refine ⟨ea,cls,O,B,H',rfl,⟨I.qQ os un (Y.kept V.1) D (λb z=>absurd z (by simp)),Y,λb o e n L hx=>?_,λb o e L hx=>?_,λp hp=>?_⟩,V,hE⟩
 .refine J b o (I.base.keep b o e n L hx) (I.base.free b o e n hx) λz=>?_;rcases Uo.mp (I.cZ b z) with q | q
  .exact I.de e q
  .exact L q
 .obtain ⟨o',e'⟩:=I.base.there b o e hx;refine there b o' e' λz=>?_;rcases Uo.mp (I.cZ b z) with q | q
  .exact I.de e q
  .exact L q
 .obtain ⟨e,n,ne,nf,_⟩:=AD (I.pin p hp);refine J p.1 p.2 e n λz=>?_;rcases Uo.mp (I.cZ _ z) with q | q
  .exact ne q
  .exact nf q
theorem Jo.move (F:Jo X pins σ H B s){h':Heap}{tk:Nat}(Y:B.StaysIn h')(up:s.heap.UpToSlots h'):Ad X pins σ H { s with heap:=h',toks:=tk }:=by
 have I:=F.inv;have D:∀ b,b∈X.fs->∀ o,s.heap.get? b=some o->(∃ o₀,X.s₀.heap.get? b=some o₀)->∃ sl,h'.get? b=some { o with slots:=sl }:=λb hb o e _=>by
  obtain ⟨_,o1,L,d1⟩:=I.bK.mem hb;rw [e] at L;cases L;exact up b o e d1
 have J:∀ c v,s.heap.IsCell c v->h'.IsCell c v:=λc v zz=>CL zz λo ho hd=>by
  obtain ⟨sl,e⟩:=up c o ho λvs q=>by rw [hd] at q;cases q
  exact ⟨_,e,hd⟩
 refine ⟨I.ok,I.os,I.bare,⟨λb o e n O hx=>Y b o (F.old b o e n O hx),λb o e n O hx=>?_,I.base.free,λb o e hx=>?_,I.base.ai,I.base.cR,I.base.cX⟩,?_,λx c e=>?_,I.free,I.bL,λp hp=>?_,F.af.kept Y,I.len⟩
 .obtain ⟨sl,L⟩:=I.base.slot b o e n O hx;obtain ⟨gY,V⟩:=D b O _ L ⟨o,e⟩;exact ⟨gY,V⟩
 .by_cases O:b∈X.fs
  .obtain ⟨o',L⟩:=I.base.there b o e hx;obtain ⟨gY,V⟩:=D b O _ L ⟨o,e⟩;exact ⟨_,V⟩
  .obtain ⟨o',e'⟩:=F.there b o e O hx;exact ⟨o',Y b o' e'⟩
 .obtain ⟨m,hn,hl⟩:=Ag I.loc;refine ⟨m,up.ns hn,λi x v L V e3=>?_⟩;obtain ⟨u,r,l⟩:=Ag (hl i x v L V e3);refine ⟨u,r,?_⟩;rcases l with l | ⟨k,c,e,z⟩
  .exact .inl l
  .exact .inr ⟨k,c,e,J c _ z⟩
 .obtain ⟨v,z⟩:=I.cell x c e;exact ⟨v,J c v z⟩
 .obtain ⟨_,r⟩:=I.pin p hp;exact ⟨Y _ _ (F.pin p hp),r⟩
end
section
variable {P:Ub}{w:T6}{K:T3}{mg:Str->Option Value}{base:Heap}{N:List Str}{qual:Str}{scope:Scope}{f:Addr}{cd:Value}{A:Us}{outer:List Env}{s₀:T2}{H₀:Hp}{E:XK}
theorem BV:CT (AJ P w) (C3 (AJ P w) P w K mg base N qual scope f cd A outer s₀ H₀ E) E:=by intro pins σ H s e O I h;obtain ⟨V,cls,Y,B,H',rfl,F,fl,hE⟩:=Et (I.rg h);show T5 _ _ (leaving _ _) _ _ _;refine wpAny_leaves_onW I.ok.frames rfl fl λh' L up=>?_;have J:=F.move (tk:=O.toks) L.1 up;exact ⟨V,cls,Y,B,H',rfl,J.os,J.bare,J.base,L,F.af,λb o e n D=>F.old b o e n D (by simp [C3]),λb o e D=>F.there b o e D (by simp [C3]),hE⟩
theorem AV.hide {H:Hp}{h:Heap}{l:List Addr}(x:AV P w H h)(n:∀ b∈l,H b=none):AV P w H (Yu h l):=λa o e =>
 (x a o e).eF (λb u hb q=>XR l q λB=>by
  have z:=n b B;rcases hb with rfl | hb
  .rw [e] at z;cases z
  .rw [hb] at z;cases z) (λ_ q=>q) λ_ _ q=>q
theorem AbY {C:Addr}{J:List Value}{B:String}(q:VH K C J B=true):∃ nm H N bs D hd sn sub ab col dd k0 k1 k2 k3 k5,
  K.lookup C=some (excClassObj nm H C N bs D hd sn sub ab col dd k0 k1 k2 k3 k5 B)/\ZF K N=true/\UC K N "__init__"=some none/\PySem.W.tailIn K J D=true:=by
 unfold VH at q;split at q
 .rename_i dd cd sl ho
  split at q
  .rename_i C' D k0 k1 k2 k3 n k5 hm hs
   simp only [Wj,beq_iff_eq,Bool.not_eq_true'] at q;obtain ⟨⟨⟨⟨⟨rfl,rfl⟩,L⟩,Y⟩,O⟩,V⟩:=q;obtain ⟨nm,bs,mro,ns,H,hd,sn,sub,ab,col,del⟩:=cd;dsimp only at hm L O V;subst hm L;have I:sl=#[k0,k1,k2,k3,some (.builtin n),k5]:=by obtain ⟨l⟩:=sl;simp only at hs;rw [hs]
   subst I;exact ⟨nm,H,ns,bs,D,hd,sn,sub,ab,col,dd,k0,k1,k2,k3,k5,ho,O,V,Y⟩
  .cases q
 .cases q
theorem AbZ {N:Addr}(B:ZF K N=true){h:Heap}(X:K.In h):∃ mN,(∀ h',K.In h'->h'.Ns N mN)/\∀ x,UC K N x=some none->mN x=none:=by
 have i:=PySem.W.isNs_of_in X B;refine ⟨h.nsMap N,λh' D=>?_,λx e=>PySem.W.nsMap_none_of_in X B e⟩;obtain ⟨o,es,H,I,r⟩:=BI (Heap.Ns.of_isNs i);refine ⟨o,es,H,?_,r⟩;unfold ZF at B;split at B
 .rename_i q
  have e:=X _ _ q;rw [I] at e;cases e;exact D _ _ q
 .cases B
def Ld (X:Cx)(W:St->XK):Prop:=∀(pins:List (Addr×Obj))(σ:St)(H:Hp)(s:T2)(ea:Addr)(h':Heap)(C:Addr)(args:List Value),Ad X pins σ H s->Heap.MadeExcOf s.heap h' ea (.ref C) args->W σ (.ref C) none H->X.xe (.ref ea) { s with heap:=h' }
def O2 (W:St->XK)(C:Addr)(ta:TA):TS:=λ_ σ H=>ta σ H λvs H1=>vs.length<=sizeLine/\W σ (.ref C) none H1
theorem Ab0 {X:Cx}{W:St->XK}{C:Addr}{x:Str}{np O pos:Pos}{e:T9}{es:List T9}{t:TA}(ht:Ld X W)(hc:X.calm=true)(q:VH X.K C [.type "ValueError",.type "Exception",.type "BaseException",.type "object"] "ValueError.__new__"=true)(hm:X.mg x=some (.ref C))(ha:PA X (e :: es) t)(hg:Gl X x:=by rfl)(hd:(x == ("__debug__":Str))=false:=by decide)(Y:Ul (e :: es) X.env=(false,Ui e X.env) :: Ul es X.env:=by rfl)(aT:(UP O (Ul es X.env)).any (·.1)=false:=by rfl) :
  PS X (.Raise (some (.Call (.Name x np) (e :: es) [] O)) none pos) (O2 W C t):=by
 intro pins s σ H D I h;obtain ⟨nm,qn,NN,bs,bm,V,sn,sub,ab,B,dd,k0,k1,k2,k3,k5,lk,af,kD,tl⟩:=AbY q;obtain ⟨mN,hN,mQ⟩:=Ag (AbZ af I.aJ);have hb:bm.contains (.type "BaseException")=true:=(wU I.aJ tl).hasType wV.hasBase;refine wpAny_Raise_call_subT (nm:=nm) (q:=qn) (C:=C) (N:=NN) (bs:=bs) (hdct:=V) (sn:=sn) (sub:=sub) (ab:=ab) (col:=B) (dd:=dd) (k0:=k0) (k1:=k1) (k2:=k2) (k3:=k3) (k5:=k5) (mN:=mN) wV hb (I.ok.hd hc) (by rw [Y];show (false || _)=false;exact aT) (mQ _ kD) (Hl I hg hm ⟨rfl,?_⟩ hd);have J:=ha O pins s σ H _ I h;rw [Y] at J ⊢;refine Zy (VB J (λus s2 zz=>Hg zz λvs H1 L r hl hE=>?_) λ_ _ z=>z);exact ⟨rfl,(by rw [<- r.length];exact hl),L.aJ _ _ lk,hN _ L.aJ,wU L.aJ tl,λh' ea mx=>ht pins σ H1 s2 ea h' C _ L mx hE⟩
theorem Ad.lies {X:Cx}{pins:List (Addr×Obj)}{σ:St}{H:Hp}{s:T2}(I:Ad X pins σ H s):Jo X pins σ H (Yu s.heap (CM X.stack)) s:=by
 have J:∀{b:Addr}{o:Obj},X.s₀.heap.get? b=some o->b ∉ X.fs->b ∉ CM X.stack:=λ{b o} e D z=>by
  rcases Uo.mp (I.cZ b z) with y | y
  .exact I.de e y
  .exact D y
 refine ⟨I,I.af.hide I.mB,λb o e n B hx=>XR _ (I.base.keep b o e n B hx) (J e B),λb o e B hx=>?_,λp L=>?_⟩
 .obtain ⟨O,V⟩:=I.base.there b o e hx;exact ⟨O,XR _ V (J e B)⟩
 .obtain ⟨e,n,ne,D,_⟩:=AD (I.pin p L);refine XR _ e λz=>?_;rcases Uo.mp (I.cZ _ z) with y | y
  .exact ne y
  .exact D y
theorem Dq:Ld (C3 (AJ P w) P w K mg base N qual scope f cd A outer s₀ H₀ E) (λ_=>E):=by intro pins σ H B ea h' C args I V hE;have L:=I.lies;have D:∀ env∈(C3 (AJ P w) P w K mg base N qual scope f cd A outer s₀ H₀ E).stack,∀ b,env.frame=some b->b∈CM (C3 (AJ P w) P w K mg base N qual scope f cd A outer s₀ H₀ E).stack:=λenv he b hb=>Zh.mpr ⟨env,he,hb⟩;show T5 _ _ (leaving _ _) _ _ _;refine wpAny_leaves_madeW (s:={ B with heap:=h' }) (base:=Yu B.heap (CM (C3 (AJ P w) P w K mg base N qual scope f cd A outer s₀ H₀ E).stack)) (h:=B.heap) I.ok.frames rfl (λb o z=>wj _ z) (PySem.W.funFrames_hide I.stack D) V λh'' t Y tup tn up=>?_;have J:=L.move (tk:=B.toks) Y.1 ((Heap.UpToSlots.of_keeps V.keeps).trans up);exact ⟨ea,.ref C,.ref t,_,H,rfl,J.os,J.bare,J.base,Y,L.af,λb o e n O=>L.old b o e n O (by simp [C3]),λb o e O=>L.there b o e O (by simp [C3]),hE⟩
end
section
variable {X:Cx}{pins:List (Addr×Obj)}{σ:St}{H:Hp}{s:T2}
theorem Bl.got {P:Ub}{w:T6}{h:Heap}{a:Addr}{o:HO}(x:Bl P w H h a o):∃ u,h.get? a=some u:=by
 cases o with
 | lst D=>obtain ⟨_,_,_,_,e⟩:=x;exact ⟨_,e⟩
 | tup D=>obtain ⟨_,_,_,_,e,_⟩:=x;exact ⟨_,e⟩
 | dK B=>obtain ⟨_,_,_,_,o,_,_,e,_⟩:=AD x;exact ⟨_,e⟩
 | dT B=>obtain ⟨_,_,_,_,o,_,_,e,_⟩:=AD x;exact ⟨_,e⟩
 | set S n=>obtain ⟨o,_,_,_,e,_⟩:=Cj x;exact ⟨_,e⟩
 | ins C dx fs=>obtain ⟨_,_,_,e,_⟩:=AD x;exact ⟨_,e⟩
 | own y=>obtain ⟨_,e⟩:=x;exact ⟨_,e⟩
 | xd fs=>obtain ⟨_,⟨_,_,_,e,_⟩,_⟩:=Ag x;exact ⟨_,e⟩
 | cE lo I=>obtain ⟨_,_,_,e⟩:=x;exact ⟨_,e⟩
 | bX J u=>obtain ⟨e,_⟩:=x;exact ⟨_,e⟩
 | fF L=>exact ⟨_,(show h.get? a=some _ from x)⟩
 | met f y=>exact ⟨_,(show h.get? a=some _ from x)⟩
 | ext φ=>obtain ⟨_,⟨_,e⟩,_⟩:=AD x;exact ⟨_,e⟩
theorem AV.out {P:Ub}{w:T6}{h:Heap}{a:Addr}(x:AV P w H h)(e:h.get? a=none):H a=none:=by
 cases q:H a with
 | none=>rfl
 | some o =>
  obtain ⟨u,z⟩:=(x a o q).got;rw [e] at z;cases z
def FJ (ea:Addr)(cls:Value):HO:=.ext λh=>∃ o vs,h.get? ea=some o/\o.cls=cls/\o.data=.fields vs
theorem Ad.aaz {a:Addr}{cls:Value}(I:Ad X pins σ H s)(hn:H a=none)(ha:∃ o vs,s.heap.get? a=some o/\o.cls=cls/\o.data=.fields vs)(h0:X.s₀.heap.get? a=none)(hp:∀ p∈X.pn++pins,p.1≠a) :
  Ad X pins σ (upd H a (FJ a cls)) s:=by
 obtain ⟨oa,vs,D,ca,J⟩:=AY ha;have L:X.env.locals≠a:=λz=>by
  obtain ⟨m,⟨o,es,ep,B,hd,_⟩,_⟩:=Ag I.loc;rw [z,D] at B;cases B;rw [J] at hd;cases hd
 have O:∀ x c,X.env.cells.lookup x=some c->c≠a:=λx c e z=>by
  obtain ⟨v,o,B,hd⟩:=AQ (I.cell x c e);rw [z,D] at B;cases B;rw [J] at hd;cases hd
 have ne:∀{b:Addr}{o:HO},H b=some o->b≠a:=λ{b o} e z=>by rw [z,hn] at e;cases e
 refine ⟨I.ok,I.os,I.bare,⟨I.base.keep,I.base.slot,λb o e n hx=>?_,I.base.there,λb V e=>?_,λb o u e=>?_,λb ps e=>?_⟩,I.loc,I.cell,?_,λx c e=>?_,λp hq=>?_,λb o e=>?_,I.len⟩
 .rw [Au (λz:b=a=>by rw [z,h0] at e;cases e)];exact I.base.free b o e n hx
 .have q:=I.base.ai b V e;rw [Au (ne q)];exact q
 .have q:=I.base.cR b o u e;rw [Au (ne q)];exact q
 .obtain ⟨more,q⟩:=I.base.cX b ps e;exact ⟨more,by rw [Au (ne q)];exact q⟩
 .rw [Au L];exact I.free
 .rw [Au (O x c e)];exact I.bL x c e
 .obtain ⟨Y,h2,h3⟩:=AD (I.pin p hq);exact ⟨Y,by rw [Au (hp p hq)];exact h2,h3⟩
 .by_cases hb:b=a
  .subst hb;rw [Al] at e;cases e;exact ⟨⟨oa,vs,D,ca,J⟩,⟨_,D⟩,λY h2 ⟨o,vs,e,r⟩ k=>⟨o,vs,k o e,r⟩⟩
  .rw [Au hb] at e;exact (I.af b o e).eF (λ_ _ _ q=>q) (λc q=>by rw [Au (ne q)];exact q) λc V q=>by rw [Au (ne q)];exact q
theorem Ad.unbind {i:Nat}{n:Str}{m:Str->Option Value}{v:Option Value}{h':Heap}{tk:Nat}(I:Ad X pins σ H s)(O:X.N.Nodup)(Y:X.N[i]?=some n)(hm:s.heap.Ns X.env.locals m)(hl:∀ (i:Nat) (x:Str) (v:V),X.N[i]?=some x->σ[i]?=some (some v)->Gj X.env.scope x->∃ u,AE v u/\N4 X.env s.heap m x u)(hn:h'.Ns X.env.locals (λx=>if x=n then v else m x))(hs:U4 X.env.locals s.heap h'):Ad X pins (σ.set i none) H { s with heap:=h',toks:=tk }:=by
 have de:∀{b:Addr}{o:Obj},X.s₀.heap.get? b=some o->b≠X.env.locals:=λ{b o} e=>I.de e;refine ⟨I.ok,I.os,I.bare,⟨λb o e n hb hx=>?_,λb o e n hb hx=>?_,I.base.free,λb o e hx=>?_,I.base.ai,I.base.cR,I.base.cX⟩,⟨_,hn,λj y v' B D e3=>?_⟩,λy c e=>?_,I.free,I.bL,λp hp=>?_,λb ob e=>?_,by simpa using I.len⟩
 .exact (hs.2 b (de e)).trans (I.base.keep b o e n hb hx)
 .obtain ⟨sl,B⟩:=I.base.slot b o e n hb hx;exact ⟨sl,(hs.2 b (de e)).trans B⟩
 .obtain ⟨o',B⟩:=I.base.there b o e hx;exact ⟨o',(hs.2 b (de e)).trans B⟩
 .have J:j≠i:=λz=>by
   subst z;by_cases ak:j<σ.length
   .rw [Xy ak] at D;cases D
   .rw [wW (by rw [UE];omega)] at D;cases D
  rw [V5 (UQ J)] at D;obtain ⟨u',r',q⟩:=Ag (hl j y v' B D e3);refine ⟨u',r',?_⟩;rcases q with ⟨k,e⟩ | ⟨k,c,e,z⟩
  .refine .inl ⟨k,?_⟩;have:y≠n:=λe=>J (KY O B (e▸Y));simp [this,e]
  .exact .inr ⟨k,c,e,z.sameBut hs (I.eK y c e)⟩
 .obtain ⟨L,z⟩:=I.cell y c e;exact ⟨L,z.sameBut hs (I.eK y c e)⟩
 .obtain ⟨e,n,ne,nf,d⟩:=AD (I.pin p hp);exact ⟨(hs.2 p.1 ne).trans e,n,ne,nf,d⟩
 .refine (I.af b ob e).eF (λc L hc q=>(hs.2 c ?_).trans q) (λ_ q=>q) λ_ _ q=>q;rintro rfl;have z:=I.free;rcases hc with hc | hc
  .rw [hc,e] at z;cases z
  .rw [hc] at z;cases z
noncomputable abbrev Cx.tr (X:Cx)(Ew:Value->T2->Prop)(pins:List (Addr×Obj)):Cx:={ X with xe:=Ew,pn:=X.pn++pins }
noncomputable abbrev Cx.su (X:Cx)(ea:Addr):Cx:={ X with A:=X.A.mark (some (.ref ea)),calm:=false,xe:=λ_ _=>False }
theorem Ad.tr {B:Value->T2->Prop}{dJ:List (Addr×Obj)}(I:Ad X (pins++dJ) σ H s):Ad (X.tr B pins) dJ σ H s :=
 ⟨⟨I.ok.mod,I.ok.kind,I.ok.glob,I.ok.blt,I.ok.above,I.ok.inj,I.ok.has,I.ok.dG,I.ok.hd,I.ok.frames,I.ok.bJ,I.ok.dH,I.ok.bs,I.ok.cF,I.ok.dI,I.ok.cS,I.ok.bK,I.ok.cT⟩,I.os,I.bare,I.base,I.loc,I.cell,I.free,I.bL,
  λp D=>I.pin p (by rw [<- Uv];exact D),I.af,I.len⟩
theorem Ad.iZ {B:Value->T2->Prop}{dJ:List (Addr×Obj)}(I:Ad (X.tr B pins) dJ σ H s):Ad X (pins++dJ) σ H s :=
 ⟨⟨I.ok.mod,I.ok.kind,I.ok.glob,I.ok.blt,I.ok.above,I.ok.inj,I.ok.has,I.ok.dG,I.ok.hd,I.ok.frames,I.ok.bJ,I.ok.dH,I.ok.bs,I.ok.cF,I.ok.dI,I.ok.cS,I.ok.bK,I.ok.cT⟩,I.os,I.bare,I.base,I.loc,I.cell,I.free,I.bL,
  λp D=>I.pin p (by show p∈(X.pn++pins)++dJ;rw [Uv];exact D),I.af,I.len⟩
theorem Ad.su (B:Addr)(I:Ad X pins σ H s):Ad (X.su B) pins σ H s :=
 ⟨⟨I.ok.mod,I.ok.kind,I.ok.glob,I.ok.blt,I.ok.above,I.ok.inj,I.ok.has,I.ok.dG,(λz=>nomatch z),I.ok.frames,I.ok.bJ,I.ok.dH,I.ok.bs,I.ok.cF,I.ok.dI,I.ok.cS,I.ok.bK,I.ok.cT⟩,I.os,I.bare,I.base,I.loc,I.cell,I.free,I.bL,I.pin,I.af,I.len⟩
theorem Ad.aaC {B:Cx}{D:Addr}(I:Ad (B.su D) pins σ H s)(hd:B.calm=true->B.A.handled=none):Ad B pins σ H s :=
 ⟨⟨I.ok.mod,I.ok.kind,I.ok.glob,I.ok.blt,I.ok.above,I.ok.inj,I.ok.has,I.ok.dG,hd,I.ok.frames,I.ok.bJ,I.ok.dH,I.ok.bs,I.ok.cF,I.ok.dI,I.ok.cS,I.ok.bK,I.ok.cT⟩,I.os,I.bare,I.base,I.loc,I.cell,I.free,I.bL,I.pin,I.af,I.len⟩
def Jp (CX:B0)(X:Cx)(W:St->XK):Prop:=∀(pins:List (Addr×Obj))(σ:St)(H:Hp)(s:T2)(e:Value)(s':T2),Ad X pins σ H s->CX X.stack H s (W σ) e s'->X.xe e s'
def O3 (K:T3)(Ch:Addr)(i:Nat)(tb:(Value->T2->Prop)->List (Addr×Obj)->(St->XK)->TS)(ts:Addr->TS):TS:=λD σ H=>∀ Ew pins,tb Ew pins (λσ' cls _ H'=>PySem.W.exmOne K cls (.ref Ch)=some true/\∀ ea,H' ea=none ->
 ts ea { nx:=λσ2 H2=>D.nx (σ2.set i none) H2,rt:=D.rt,bk:=λσ2 H2=>D.bk (σ2.set i none) H2,ct:=λσ2 H2=>D.ct (σ2.set i none) H2 } (σ'.set i (some (.ref ea))) (upd H' ea (FJ ea cls))) D σ H
theorem Ab1 {body g8:List Stmt}{b₀:Stmt}{x n:Str}{np i4 pos:Pos}{i:Nat}{Ch:Addr}{tb:(Value->T2->Prop)->List (Addr×Obj)->(St->XK)->TS}{ts:Addr->TS}(hex:X.ex=[])(aL:X.stack=X.env :: X.outer)(mR:X.env.frame=some X.env.locals)(hm:X.mg x=some (.ref Ch))(hN:X.N.Nodup)(hi:X.N[i]?=some n)(hb:∀ Ew pins W,Jp (AJ X.prog X.w) (X.tr Ew pins) W->Yw (T8 X.prog X.w) X.A X.env Ew->CN (X.tr Ew pins) body (tb Ew pins W))(hs:∀ O,CN (X.su O) (b₀ :: g8) (ts O))(hx:Gl X x:=by rfl)(hl:X.env.scope.names.lookup n=some .local:=by rfl)(hd:(x == ("__debug__":Str))=false:=by decide) :
  PS X (.Try body [.ExceptHandler (some (.Name x np)) (some n) (b₀ :: g8) i4] [] [] pos) (O3 X.K Ch i tb ts):=by
 intro pins s σ H D I h;refine wpAny_Try_except (VB (hb (λe s₁=>T5 (T8 X.prog X.w) X.A (ZG e X.env) (λ_ s₂=>T5 (T8 X.prog X.w) X.A (setFlight e none) (λ_ s₃=>T5 (T8 X.prog X.w) X.A (handleBy e X.env [.ExceptHandler (some (.Name x np)) (some n) (b₀ :: g8) i4]) (SP X pins D) X.xe s₃) X.xe s₂) X.xe s₁) pins _ ?_ PassesOwn.looking [] s σ H D (Ad.tr (by rw [Vu];exact I)) (h _ _)) (λf s₁ q=>?_) λe s₁ q=>q)
 .-- an exception of a callee
  intro dJ σ' H1 s1 e rp I1 hcx;obtain ⟨O,cls,a0,B,H',rfl,L,fl,hw,hsu⟩:=Et (I1.iZ.gj.rg hcx);show T5 _ _ (ZG _ _) _ _ _;rw [aL] at fl;have fr:X.A.frames=some (X.env :: X.outer):=by rw [<- aL];exact L.inv.ok.frames
  refine wpAny_looks_onW fr mR fl λh₄ aaD rq=>?_;refine wpAny_landsW aaD λh₅ mS rA=>?_;have I5:=L.move (tk:=rp.toks) mS.1 (rq.trans rA);refine wpAny_handleBy_cons (codeAny_handlers_test (Hl (X:=X.su O) (I5.su O) hx hm ?_ hd)) (by intro q;cases q);obtain ⟨ob,hob,aaE⟩:=Ag mS.there;have LT:PySem.W.Looks (T8 X.prog X.w) h₅ (typeOf (.ref O)) cls:=aaE▸(PySem.W.Looks.ld hob).andThen .now;refine (PySem.W.exm_one I5.aJ LT hw).here ?_;rw [if_pos rfl];refine codeAny_handlers_suite_as ?_;refine lands_againW mS λh₆ i5 up₆=>?_;have I6:=L.move (tk:=rp.toks) i5.1 ((rq.trans rA).trans up₆);have rB:H' O=none:=L.af.out i5.2.1;obtain ⟨oe,vs,he,hc,rC,_⟩:=AY i5.first
  have hs0:X.s₀.heap.get? O=none:=by
   cases q:X.s₀.heap.get? O with
   | none=>rfl
   | some o =>
    by_cases hf:O∈X.fs
    .obtain ⟨_,o1,e1,d1⟩:=I6.bK.mem hf;have bZ:h₆.get? O=some o1:=e1;rw [he] at bZ;cases bZ;exact absurd rC (d1 vs)
    .by_cases mT:O∈X.ex
     .rw [hex] at mT;cases mT
     .obtain ⟨o',e'⟩:=L.there O o q hf mT;rw [i5.2.1] at e';cases e'
  have I7:=I6.aaz (a:=O) (cls:=cls) rB ⟨oe,vs,he,hc,rC⟩ hs0 (λp hp z=>by
   have:=L.pin p hp;rw [z,i5.2.1] at this;cases this)
  refine KZ (X:=X.su O) (I7.su O) hN hi (.inl hl) (v:=.ref O) rfl (λs8 I8=>?_) (.inr hl);refine VB (hs O pins s8 _ _ _ I8 (hsu O rB)) (λf s9 q=>?_) λ_ _ z=>z.elim;have Y:∀{σ2:St}{V:Hp}(J:Ad (X.su O) pins σ2 V s9){Q:Unit->T2->Prop},(∀ s',Ad X pins (σ2.set i none) V s'->Q () s') ->
    T5 (T8 X.prog X.w) X.A (do bindName X.env n .none;unbindBehindTheSuite X.env n i4) Q X.xe s9:=λ{σ2 V} J {Q} hq=>by
   obtain ⟨m,hn,hlk⟩:=Ag (id J.loc);refine wpAny_nameGoes_keeps hl hn (by rw [I.ok.kind];rfl) λh' v mE cI=>hq _ ?_;exact (J.aaC I.ok.hd).unbind hN hi hn hlk mE cI
  show T5 _ _ _ _ _ _;cases f with
  | next =>
   obtain ⟨σ2,V,J,z⟩:=AQ q;exact Y J λs' J'=>⟨_,_,J',z⟩
  | brk =>
   obtain ⟨σ2,V,J,z⟩:=AQ q;exact Y J λs' J'=>⟨_,_,J',z⟩
  | cont =>
   obtain ⟨σ2,V,J,z⟩:=AQ q;exact Y J λs' J'=>⟨_,_,J',z⟩
  | ret u =>
   obtain ⟨v,σ2,V,J,r,z⟩:=BI q;exact Y J λs' J'=>⟨v,_,_,J',r,z⟩
 .cases f with
  | next =>
   obtain ⟨σ2,V,J,z⟩:=AQ q;exact XW ⟨σ2,V,by have:=J.iZ;rw [Vu] at this;exact this,z⟩
  | brk =>
   obtain ⟨σ2,V,J,z⟩:=AQ q;exact ⟨σ2,V,by have:=J.iZ;rw [Vu] at this;exact this,z⟩
  | cont =>
   obtain ⟨σ2,V,J,z⟩:=AQ q;exact ⟨σ2,V,by have:=J.iZ;rw [Vu] at this;exact this,z⟩
  | ret u =>
   obtain ⟨v,σ2,V,J,r,z⟩:=BI q;exact ⟨v,σ2,V,by have:=J.iZ;rw [Vu] at this;exact this,r,z⟩
end
end L2
namespace L2
open PySem PySem.Spec PySem.Calls PyProof.Rows PySem.W PySem.Builtin PySem.Builtin.ObjectAttr PySem.Builtin.Getset_descriptor
open Sem (wp)
def Ab2 (ea:Addr)(cls:Value)(h:Heap):Prop:=∃ o vs,h.get? ea=some o/\o.cls=cls/\o.data=.fields vs
structure EE (K:Frag)(C:Addr):Prop where
 cls:(clsIn K C).isSome=true
 ga:findIn K (.ref C) "__getattribute__"=some (some (.builtin "BaseException.__getattribute__"))
 gt:findIn K (.ref C) "__getattr__"=some none
 cl:findIn K (.ref C) "__class__"=some (some (.builtin "object.__class__"))
 ob:subIn K (.ref C) (.type "object")=some true
 be:subIn K (.ref C) (.type "BaseException")=some true
section
variable {prog:Ub}{w:T6}{A:Us}{E:Value->T2->Prop}{K:Frag}{C ea:Addr}{h:Heap}{g:Array XS}{d:Drawn}{t:Nat}{os:OsState}{o:Obj}
theorem Le {M:WC}(hx:h.get? ea=some o)(hc:o.cls=.ref C):Looks M h (typeOf (.ref ea)) (.ref C):=hc▸(Looks.ld hx).andThen .now
theorem Ab3 {R:Xj->T2->Prop}(X:K.In h)(c:EE K C)(hx:h.get? ea=some o)(hc:o.cls=.ref C)(hq:R (.ok (.ret (.ref C))) ⟨h,g,d,t,os⟩) :
  Vk (T8 prog w) A (.call (.builtin "getset_descriptor.__get__") ⟨[.builtin "object.__class__",.ref ea,.ref C],[]⟩) R ⟨h,g,d,t,os⟩:=by
 have B:=Le (M:=T8 prog w) hx hc;have D:=looks_subIn (M:=T8 prog w) X c.ob;refine ZH KF.slot_gs.plain KF.entry_gs (KF.slot_gs.check _ _ _ _ _ _ _ _ KF.type_class (KF.args_gs _ _ _) ?_);unfold Builtin.«getset_descriptor.__get__» descrGet;rw [dga_obj];refine Ua (Um ?_);unfold descrGetter descrCheckInstance descrNameAndClass isInstance;simp only [KF.owner_class];repeat lk
 refine ⟨wX _ (by decide +kernel),Xs KF.entry_class ?_⟩;unfold Builtin.«object.__class__» shownTypeOf;repeat lk
 exact hq
theorem Ab4 {M:WC}{D:Value}{Q:Unit->T2->Prop}(X:K.In h)(c:EE K C)(hx:h.get? ea=some o)(hc:o.cls=.ref C)(hq:Q () ⟨h,g,d,t,os⟩) :
  T5 M A (ZI "BaseException.__getattribute__" ⟨[.ref ea,D],[]⟩) Q E ⟨h,g,d,t,os⟩:=by
 have hk:builtinKind "BaseException.__getattribute__"=some .slot:=by decide +kernel
 have B:splitId "BaseException.__getattribute__"=some ("BaseException","__getattribute__"):=by decide +kernel
 have H:=Le (M:=M) hx hc;have I:=looks_subIn (M:=M) X c.be;have L:=F.args_bexc_ga (.ref ea) D;have J:Looks M h (isInstance (.ref ea) (.type "BaseException")) true:=H.andThen I;simp only [ZI,hk,B];refine Ua (J.at ?_);repeat (first | assumption | lk | wp_step)
theorem Ab5 {tk:Tok}{Q:Fin->T2->Prop}(X:K.In h)(c:EE K C)(hx:h.get? ea=some o)(hc:o.cls=.ref C)(hq:Q (.done (.ret (.ref C))) ⟨h,g,d,t,os⟩) :
  T5 (T8 prog w) A (Builtin.«object.__getattribute__» ⟨[.ref ea,.str "__class__" tk],[]⟩) Q E ⟨h,g,d,t,os⟩:=by
 have B:(⟨h,g,d,t,os⟩:T2).TypeIs (.builtin "object.__class__") "getset_descriptor":=wY;have L2:=looks_findIn (M:=T8 prog w) X c.cl;have D:=wY;have H:=F.slot_gs_get.lookup;have I:=F.slot_gs_set.lookup;repeat (any_goals (first | assumption | (with_reducible refine wZ hx ?_;rw [hc]) | with_reducible refine L2.at ?_ | wp_step))
 refine Ab3 X c hx hc ?_;repeat (any_goals (first | assumption | wp_step))
theorem Ab6 {tk:Tok}{Q:Value->T2->Prop}(X:K.In h)(c:EE K C)(hx:h.get? ea=some o)(hc:o.cls=.ref C)(hq:Q (.ref C) ⟨h,g,d,t,os⟩) :
  T5 (T8 prog w) A (getAttrBy (.ref ea) (.str "__class__" tk) false) Q E ⟨h,g,d,t,os⟩:=by
 have I:=xa.ga.bind (.ref ea);have B:(YK "BaseException.__getattribute__" == YK "object.__getattribute__")=false:=by decide +kernel
 have D:(onTheHeap (UI C) && YK "BaseException.__getattribute__" == YK "object.__getattribute__")=false:=by rw [B];rfl
 have L2:=looks_findIn (M:=T8 prog w) X c.ga;have H:=looks_findIn (M:=T8 prog w) X c.gt;repeat (any_goals (first | assumption | (with_reducible refine wZ hx ?_;rw [hc]) | with_reducible refine L2.at ?_ | with_reducible refine H.at ?_ | wp_step))
 refine ZH xa.ga.plain F.entry_bexc_ga (Ab4 X c hx hc (Ab5 X c hx hc ?_));repeat (any_goals (first | assumption | wp_step))
theorem Ab7 {Q:Option Value->T2->Prop}(X:K.In h)(c:EE K C)(hx:h.get? ea=some o)(hc:o.cls=.ref C)(hq:Q (some (.ref C)) ⟨h,g,d,t+1,os⟩):T5 (T8 prog w) A (getAttr? (.ref ea) "__class__") Q E ⟨h,g,d,t,os⟩:=by unfold getAttr? getAttrBy?;repeat (any_goals (first | assumption | with_reducible apply Ab6 X c hx hc | wp_step))
theorem O4 (c:EE K C):KitX K (.ref ea) (.ref C) (Ab2 ea (.ref C)) where
 ty:=λ_ _ _ H=>AG H λ_ _ e q _=>Le e q
 it:=λ_ _ X _=>by
  obtain ⟨D,B⟩:=YC.mp c.cls;unfold clsIn at B;split at B
  .rename_i c' d' cd' gY ho
   intro L O V Y k q;unfold isType loadHead;exact Ua (wB (k _ _ (X _ _ ho)) (Um q))
  .cases B
 ne:=λh I dd its n sl X J=>by
  obtain ⟨D,B⟩:=YC.mp c.cls;refine Xt.mpr λq=>?_;have e:C=I:=Value.ref.inj (beq_iff_eq.mp q);subst e;unfold clsIn at B;split at B
  .rename_i c' d' cd' gY ho
   have z:=(X _ _ ho).symm.trans J;cases z
  .cases B
 ca:=λ{prog w A E Q s} X ⟨o,vs,e,q,_⟩ k=>by
  obtain ⟨h,g,d,t,os⟩:=s;exact Ab7 X c e q k
end
end L2
namespace L2
open PySem PySem.Spec PyProof.Rows
mutual
inductive Is (K:T3)(H:Hp):V->PyData->Prop
 | aa:Is K H .aa .none
 | bl (b:Bool):Is K H (.bl b) (.bool b)
 | int (i:Int):Is K H (.int i) (.int i)
 | str (x:Str):Is K H (.str x) (.str x)
 | lst {a:Addr} {xs:List V} {ds:List PyData}:Bg K H a xs->aX K H xs ds->Is K H (.ref a) (.list ds)
 | tup {a:Addr} {xs:List V} {ds:List PyData}:Bt K H a xs->aX K H xs ds->Is K H (.ref a) (.tuple ds)
inductive aX (K:T3)(H:Hp):List V->List PyData->Prop
 | nil:aX K H [] []
 | cons {x:V} {xs:List V} {d:PyData} {ds:List PyData}:Is K H x d->aX K H xs ds->aX K H (x :: xs) (d :: ds)
end
theorem Ai.tup {K:T3}{H B:Hp}{a:Addr}{xs:List V}(e:Ai H B)(h:Bt K H a xs):Bt K B a xs:=by
 rcases h with (h | ⟨o,h⟩) | h
 .exact .inl (.inl (e _ _ h))
 .exact .inl (.inr ⟨o,e _ _ h⟩)
 .exact .inr h
section
variable {X:Cx}{pins:List (Addr×Obj)}{σ:St}{H H':Hp}{s:T2}{K:T3}
mutual
theorem Is.same:∀(d:PyData){x:V},Is K H x d->Ai H H'->Is K H' x d
 | .none,_,r,_=>by cases r;exact .aa
 | .bool _,_,r,_=>by cases r;exact .bl _
 | .int _,_,r,_=>by cases r;exact .int _
 | .str _,_,r,_=>by cases r;exact .str _
 | .list ds,_,r,e=>by cases r with | lst B D=>exact .lst (e.seq B) (aX.same ds D e)
 | .tuple ds,_,r,e=>by cases r with | tup B D=>exact .tup (e.tup B) (aX.same ds D e)
 | .dict _,_,r,_=>nomatch r
theorem aX.same:∀(ds:List PyData){xs:List V},aX K H xs ds->Ai H H'->aX K H' xs ds
 | [],_,r,_=>by cases r;exact .nil
 | d :: ds,_,r,e=>by cases r with | cons B D=>exact .cons (Is.same d B e) (aX.same ds D e)
end
mutual
theorem Is.reads:∀(d:PyData){x:V}{u:Value},Ad X pins σ H s->Is X.K H x d->AE x u->∃ as,Reads s.heap u d as
 | .none,_,_,_,r,q=>by cases r;cases q;exact ⟨_,.none⟩
 | .bool _,_,_,_,r,q=>by cases r;cases q;exact ⟨_,.bool _⟩
 | .int _,_,_,_,r,q=>by cases r;obtain ⟨t,rfl⟩:=q;exact ⟨_,.int _ _⟩
 | .str _,_,_,_,r,q=>by cases r;obtain ⟨t,rfl⟩:=q;exact ⟨_,.str _ _⟩
 | .list ds,_,_,I,r,q=>by
  cases r with
  | lst B D =>
   cases q;obtain ⟨its,J,⟨o,n,e,c,_,d⟩,_⟩:=Av (I.list B);obtain ⟨as,L⟩:=aX.reads ds I D J;exact ⟨_,.list e c d (by simpa using L)⟩
 | .tuple ds,_,_,I,r,q=>by
  cases r with
  | tup B D =>
   cases q;obtain ⟨its,J,⟨o,e,c,n,d⟩,_⟩:=Av (I.tuple B);obtain ⟨as,L⟩:=aX.reads ds I D J;exact ⟨_,.tuple e c d (by simpa using L)⟩
 | .dict _,_,_,_,r,_=>nomatch r
theorem aX.reads:∀(ds:List PyData){xs:List V}{us:List Value},Ad X pins σ H s->aX X.K H xs ds->Ay xs us->∃ as,ReadsAll s.heap us ds as
 | [],_,_,_,r,q=>by cases r;cases q;exact ⟨_,.nil⟩
 | d :: ds,_,_,I,r,q=>by
  cases r with
  | cons B D =>
   cases q with
   | cons J L =>
    obtain ⟨as,O⟩:=Is.reads d I B J;obtain ⟨bs,Y⟩:=aX.reads ds I D L;exact ⟨_,.cons O Y⟩
end
def Jq (K:T3)(neg:Bool):R2:=λx y H Q=>∃ d d',Is K H x d/\Is K H y d'/\d.canLay0=true/\d'.canLay0=true/\d.depth<=32/\Q (.bl (if neg then !YL d d' else YL d d')) H
theorem Ab8 (hu:X.A.units+64<cLine):Bf X (UW .Eq) (Jq X.K false):=by intro pins s σ H x y v u Q I D J ⟨d,B,L,O,V,Y,hd,q⟩;obtain ⟨as,ra⟩:=Is.reads d I L D;obtain ⟨bs,rb⟩:=Is.reads B I O J;exact SeqAt.rcAt_reads ra rb V Y (by have:=xb d.depth B.depth;omega) _ _ _ _ ⟨.bl _,H,I,rfl,q⟩
theorem Ab9 (hu:X.A.units+64<cLine):Bf X (UW .NotEq) (Jq X.K true):=by intro pins s σ H x y v u Q I D J ⟨d,B,L,O,V,Y,hd,q⟩;obtain ⟨as,ra⟩:=Is.reads d I L D;obtain ⟨bs,rb⟩:=Is.reads B I O J;exact SeqAt.rcNeAt_reads ra rb V Y (by have:=xb d.depth B.depth;omega) _ _ _ _ ⟨.bl _,H,I,rfl,q⟩
end
noncomputable def Fg {α:Type}(cs:List α)(lo hi:Option Int):List α:=(cs.drop (HT.aO cs.length 0 lo)).take (HT.aO cs.length cs.length hi - HT.aO cs.length 0 lo)
noncomputable def DC (z:Str)(lo hi:Option Int):Str:=⟨(Fg z.cps.toList lo hi).toArray⟩
theorem Aca (z:Str)(lo B:Option Int):(DC z lo B).length<=z.length:=by show ((Fg z.cps.toList lo B).toArray).size<=z.cps.size;rw [UG];unfold Fg;rw [VF,wJ];simp only [Vt];omega
theorem O5 (n:Nat)(o:Option Int):HT.aO n n o<=n:=HT.qX n n (Uq _) o
theorem O6 (n:Nat)(o:Option Int):HT.aO n 0 o<=n:=HT.qX n 0 (U1 _) o
theorem Acb (a b:Nat):Yf (a:Int) (b:Int) 1=(Vj (b - a)).map (λk=>a+k):=by
 unfold Yf;simp only [show ((1:Int) > 0) from by decide,if_true];by_cases B:(a:Int)<b
 .have D:(((b:Int) - a+1 - 1) / 1).toNat=b - a:=by simp<;>omega
  simp only [B,if_true,D];refine Wl λk _=>?_;omega
 .have:b - a=0:=by omega
  simp [B,this]
theorem O7 (lo D:Option Int)(n:Nat):YM lo D 1 n=(Vj (HT.aO n n D - HT.aO n 0 lo)).map (λk=>HT.aO n 0 lo+k):=by
 have B:∀(v:Int)(d:Nat),max (0:Int) (min (if v<0 then v+(n:Int) else v) (n:Int))=((HT.aO n d (some v):Nat):Int):=by
  intro v d;rw [<- HT.aaj v n d];by_cases hv:v<0
  .rw [if_pos hv,if_pos hv];omega
  .rw [if_neg hv,if_neg hv];omega
 rw [<- Acb];cases lo with
 | none =>
  cases D with
  | none=>rfl
  | some b =>
   show Yf 0 (max (0:Int) (min (if b<0 then b+(n:Int) else b) (n:Int))) 1=_;rw [B b n];rfl
 | some a =>
  cases D with
  | none =>
   show Yf (max (0:Int) (min (if a<0 then a+(n:Int) else a) (n:Int))) (n:Int) 1=_;rw [B a 0];rfl
  | some b =>
   show Yf (max (0:Int) (min (if a<0 then a+(n:Int) else a) (n:Int))) (max (0:Int) (min (if b<0 then b+(n:Int) else b) (n:Int))) 1=_;rw [B a 0,B b n]
theorem Acd (z:Str)(lo B:Option Int):(YM lo B 1 z.length).filterMap (z.cps[·]?)=Fg z.cps.toList lo B:=by
 rw [O7];have H:=O5 z.length B;have I:=O6 z.length lo;have D:z.cps.toList.length=z.length:=by simp [Xp]
 unfold Fg;rw [D];by_cases hc:HT.aO z.length 0 lo<=HT.aO z.length z.length B
 .have:=PySem.StrLaws.picks z.cps.toList (HT.aO z.length z.length B - HT.aO z.length 0 lo) (HT.aO z.length 0 lo) (by rw [D];omega);simpa using this
 .have e:HT.aO z.length z.length B - HT.aO z.length 0 lo=0:=by omega
  rw [e];simp
theorem Ace (z:Str)(lo B:Option Int)(h:(YM lo B 1 z.length).length=z.length):DC z lo B=z:=by
 rw [O7,T7,WS] at h;have J:=O5 z.length B;have L:=O6 z.length lo;have D:z.cps.toList.length=z.length:=by simp [Xp]
 unfold DC Fg;rw [D];by_cases O:z.length=0
 .have:z.cps.toList=[]:=xc.mp (by omega);rw [this];cases z with | mk c=>cases c;simp_all
 .have H:HT.aO z.length 0 lo=0:=by omega
  have I:HT.aO z.length z.length B=z.length:=by omega
  rw [H,I,ZJ,ZK,YN (by omega)]
section
variable {X:Cx}
def Lf:V->Option Int->Option Int->Hp->VK->Prop:=λx lo hi H Q=>∃ z,x=.str z/\z.length<=sizeLine/\Q (.str (DC z lo hi)) H
theorem Acf:EB X Lf:=by
 intro pins s σ H x v D J lo B sl Q I L hs pl O h;replace h:=Av h;obtain ⟨z,rfl,V,q⟩:=h
 obtain ⟨t,rfl⟩:=L;refine ⟨"str",_,F.slot_str_getitem.lookup,YG s z t,?_⟩;obtain ⟨l,Y,fK⟩:∃ l,D=partValue l/\l.map (·.1)=lo:=by
  cases pl with
  | none=>exact ⟨none,rfl,rfl⟩
  | int i t=>exact ⟨some (i,t),rfl,rfl⟩
 obtain ⟨u,hu,mU⟩:∃ u,J=partValue u/\u.map (·.1)=B:=by
  cases O with
  | none=>exact ⟨none,rfl,rfl⟩
  | int i t=>exact ⟨some (i,t),rfl,rfl⟩
 subst Y hu;refine wpAny_getItem_str_slice (l:=l) (u:=u) (st:=none) hs rfl ?_;unfold sliceMade slicePicked;simp only [xf,Zw,fK,mU,beq_self_eq_true,Bool.true_and];by_cases hc:((YM lo B 1 z.length).length == z.length)=true
 .rw [if_pos hc];rw [Ace z lo B (beq_iff_eq.mp hc)] at q;exact ⟨.str z,H,I,⟨t,rfl⟩,q⟩
 .rw [if_neg hc,Acd];exact ⟨U7 (Aca z lo B) V,.str _,H,I.tok _,⟨_,rfl⟩,q⟩
noncomputable def FK (z:Str)(n:Int):Str:=⟨(Ug n.toNat z.cps.toList).flatten.toArray⟩
def O8:R2:=λx y H Q=>∃ z n,x=.str z/\y=.int n/\0<=n/\n<2 ^ 40/\z.length * n.toNat<=sizeLine/\Q (.str (FK z n)) H
end
end L2
namespace PySem.SeqAt
open AutoSeq1 (wpAny_loadPart')
open MeetsSeq MeetsSeq2 MeetsSeq3 SeqRoads2
end PySem.SeqAt
namespace L2
open PySem PySem.Spec PyProof.Rows
section
variable {X:Cx}
theorem Acg:Bf X (VP .Mult) O8:=by
 intro pins s σ H x y v u Q I Y ry ⟨z,n,e1,D,h0,hn,hz,q⟩;subst e1 D;obtain ⟨t,rfl⟩:=Y;obtain ⟨t',rfl⟩:=ry;have fold:∀(k:Nat)(B:List Nat),((Ug k z.cps).foldl (·++·) B.toArray)=(B++(Ug k z.cps.toList).flatten).toArray:=by
  intro k;induction k with
  | zero=>intro B;simp
  | succ k ih =>
   intro B;rw [WQ,wO,WQ,XC];have e:B.toArray++z.cps=(B++z.cps.toList).toArray:=by simp
   rw [e,ih,Uv]
 have V:=fold n.toNat [];simp only [ZC] at V;have len:(FK z n).length=z.length * n.toNat:=by show (List.flatten _).toArray.size=_;rw [UG,List.length_flatten,Yg,List.sum_replicate_nat];simp [Xp,Nat.mul_comm]
 have sl:sizeLine<=2 ^ 40:=by rw [Uc];decide
 refine P.mul_str (by simp;omega) (λJ _=>?_) (λ_ _=>?_) ?_
 .have L:0<n:=by omega
  have:((z.length:Int))<=(2 ^ 63 - 1) / n:=by
   rw [Int.le_ediv_iff_mul_le L];have:((z.length * n.toNat:Nat):Int)<=2 ^ 40:=by omega
   rw [Int.natCast_mul,Int.toNat_of_nonneg h0] at this;omega
  omega
 .unfold Builtin.Str.tooLong;rw [decide_eq_false_iff_not];omega
 .by_cases J:n<1
  .have e:n=0:=by omega
   subst e;rw [if_pos J];have D:FK z 0=UJ:=rfl;rw [D] at q;exact ⟨by decide,.str _,H,I.tok _,⟨_,rfl⟩,q⟩
  .rw [if_neg J];by_cases O:(n == 1 || z.length == 0)=true
   .rw [if_pos O];have D:FK z n=z:=by
     rcases Bool.or_eq_true_iff.mp O with h | h
     .have e:n=1:=beq_iff_eq.mp h;subst e;show (⟨(Ug 1 z.cps.toList).flatten.toArray⟩:Str)=z;simp
     .have e:z.length=0:=beq_iff_eq.mp h;have e':z.cps.toList=[]:=xc.mp (by simpa [Xp] using e);unfold FK;rw [e'];cases z with | mk c=>cases c;simp_all
    rw [D] at q;exact ⟨.str _,H,I,⟨_,rfl⟩,q⟩
   .rw [if_neg O];have D:(⟨(Ug n.toNat z.cps).foldl (·++·) #[]⟩:Str)=FK z n:=by
     unfold FK;rw [<- V]
    rw [D];exact ⟨by rw [len];exact hz,.str _,H,I.tok _,⟨_,rfl⟩,q⟩
def Gz (z:Str):It:=⟨λi _=>i<z.cps.size,λi H x H'=>H'=H/\∃ c,z.cps.toList[i]?=some c/\x=.str ⟨#[c]⟩,λi _=>z.cps.size<=i⟩
theorem Ach {P:Ub}{w:T6}{K:T3}{tg:T9}(z:Str)(t:Tok)(it:Addr):FE P w K tg (Gz z) [it] it (λi h=>h.IsStrIter it "str_ascii_iterator" z t i) where
 mem:=by simp
 obj:=λi h st b hb=>by
  have e:b=it:=by simpa using hb
  subst e;obtain ⟨o,e,c,d⟩:=Av st;exact ⟨o,e,λv z=>by rw [d] at z;cases z⟩
 keep:=λi h B ⟨o,e,r⟩ k=>⟨o,k it (by simp) o e,r⟩
 item:=by intro X J hw L hc i pins s σ H E I D st O;subst J hw L;obtain ⟨V,f1,f2,Y,f4,f5⟩:=AD (D it (by simp));have hx:z.cps[i]?=some z.cps[i]:=WU O;refine wpAny_pyNext_ascii_item st hx λB bB sb=>?_;have I1:Ad X pins σ H { s with heap:=B,toks:=s.toks+1 }:=I.turned (t':=s.toks+1) (λb o hb e=>(sb.2 b hb).trans e) V f1 Y f4 f5;obtain ⟨o,e,c,d⟩:=Av (id bB);exact ⟨_,rfl,IZ (s:={ s with heap:=B,toks:=s.toks+1 }) e c d (by decide) ⟨.str _,H,I1,⟨_,rfl⟩,⟨rfl,z.cps[i],by rw [YJ];exact hx,rfl⟩,bB,λb hb=>(D b hb).1⟩⟩
 done:=by intro X J hw L hc i pins s σ H E I D st O;subst J hw L;obtain ⟨V,f1,f2,Y,f4,f5⟩:=AD (D it (by simp));exact wpAny_pyNext_ascii_end (I.ok.hd hc) st (Array.getElem?_eq_none O) λB eb=>⟨rfl,I.turned (t':=s.toks) (λb o hb e=>eb b o hb e) V f1 Y f4 f5⟩
 self:=λ_ _ _ _ _ st h=>wpAny_pyIter_striter_ascii st h
def Aci (tl:TE):TI:=λσ H R=>tl σ H λx H1=>∃ z,x=.str z/\z.cps.all (·<128)=true/\R (Gz z) H1
theorem Acj {O l:T9}{tl:TE}(V:PE X l tl):PI X O l (Aci tl):=by
 intro pins s σ H R I h;refine Ap (V pins s σ H _ I h) λv B Y=>AG Y λx L D r1 J=>?_;replace J:=Av J;obtain ⟨z,rfl,ha,q⟩:=J
 obtain ⟨t,rfl⟩:=r1;refine wpAny_pyIter_ascii ha ?_;have I2:Ad X pins σ L { B with heap:=B.heap.push { cls:=.type "str_ascii_iterator",data:=.fields #[.str z t,.int 0 0] } }:=D.kept (t':=B.toks) λb ob q=>UA _ q;exact ⟨_,[B.heap.objs.size],_,Gz z,L,rfl,I2,Ach z t _,⟨_,Va _ rfl,rfl,rfl⟩,λb hb=>by
  have e:b=B.heap.objs.size:=by simpa using hb
  subst e;exact D.fJ (Uq _) (D.af.fresh (Uq _)),q⟩
theorem Ack:BJ X (.type "int") (λxs H Q=>∃ z n,xs=[.str z]/\ZL z=some n/\z.length<=640/\Q (.int n) H):=by intro pins s σ H xs J Q I r ⟨z,n,e,B,D,q⟩;subst e;obtain ⟨u,rfl,t,rfl⟩:=Ag r.one;exact PySem.W.KIN.call_text B D ⟨.int n,H,I.tok _,⟨_,rfl⟩,q⟩
inductive HF (K:T3)(H:Hp):V->Value->Prop where
 | of {x:V} {t:Value} (h:Dz K H x t):HF K H x t
 | exc {a C:Addr} (e:H a=some (FJ a (.ref C))) (c:EE K C):HF K H (.ref a) (.ref C)
theorem Acl {pins:List (Addr×Obj)}{σ:St}{H:Hp}{s:T2}{A:Us}{E:Value->T2->Prop}{Q:Value->T2->Prop}{c:Value}{b:Bool}{x:V}{u t:Value}(I:Ad X pins σ H s)(B:AE x u)(ty:HF X.K H x t)(e:X7 X.K t c=some b)(h:∀ tk,Q (.bool b) { s with toks:=tk }) :
  T5 (T8 X.prog X.w) A (call (.builtin "isinstance") [u,c]) Q E s:=by
 cases ty with
 | of ty=>exact Abe I B ty e h
 | @exc a C D J =>
  cases (show u=UI a from B);obtain ⟨p,_⟩:=(show Bl X.prog X.w H s.heap a (FJ a (.ref C)) from I.af a _ D);exact V1 (O4 J) I.aJ p e (λz=>nomatch z) h
noncomputable def FL:V->Option Value
 | .ref a=>some (.ref a)
 | .ty n=>some (.type n)
 | _=>none
theorem O9 {c:V}{u v:Value}(e:FL c=some v)(r:AE c u):u=v:=by cases c<;>simp only [FL] at e<;>first | (cases e;done) | (cases e;exact r)
theorem Acm:BJ X (.builtin "isinstance") (λxs H Q=>∃ x c t v b,xs=[x,c]/\HF X.K H x t/\FL c=some v/\X7 X.K t v=some b/\Q (.bl b) H):=by intro pins s σ H xs J Q I r ⟨x,c,t,v,b,e,ty,hc,hk,q⟩;subst e;obtain ⟨u,w,rfl,B,D⟩:=AY r.two;cases O9 hc D;exact Acl I B ty hk λL=>⟨.bl b,H,I.tok _,rfl,q⟩
theorem Pa:∀{B:List V}{us vs:List Value},B.mapM FL=some vs->Ay B us->us=vs
 | [],_,vs,e,r=>by cases r;simp at e;exact e.symm
 | c :: B,_,vs,e,r=>by
  cases r with
  | cons H I =>
   simp only [List.mapM_cons,Option.bind_eq_bind,Option.bind_eq_some_iff,Option.pure_def,Option.some.injEq] at e;replace e:=Ag e;obtain ⟨v,hv,J,D,rfl⟩:=e
   rw [O9 hv H,Pa D I]
theorem Acn:BJ X (.builtin "isinstance") (λxs H Q=>∃ a C p B vs b,xs=[.ref a,.ref p]/\H a=some (FJ a (.ref C))/\EE X.K C/\H p=some (.tup B)/\B.mapM FL=some vs/\xg X.K (.ref C) vs=some b/\Q (.bl b) H):=by intro pins s σ H xs us Q I r ⟨a,C,p,B,vs,b,e,L,O,V,hc,hk,q⟩;subst e;obtain ⟨u,w,rfl,Y,bp⟩:=AY r.two;cases (show u=UI a from Y);cases (show w=UI p from bp);obtain ⟨p1,_⟩:=(show Bl X.prog X.w H s.heap a (FJ a (.ref C)) from I.af a _ L);obtain ⟨_,its,rv,⟨cls,dd,data,sl⟩,e1,D,n,J⟩:=(show Bl X.prog X.w H s.heap p (.tup B) from I.af p _ V);simp only at D J;subst D J;cases Pa hc rv;exact PySem.W.kia_tup (O4 O) I.aJ p1 e1 hk (λz=>nomatch z) λtk=>⟨.bl b,H,I.tok _,rfl,q⟩
theorem HH {e:T9}{J:TE}{pos:Pos}(V:PE X e J):PE X (.FormattedValue e 114 none pos) (λσ H Q=>J σ H λx B=>∃ z,x=.str z/\(ZM z).length<=sizeLine/\Q (.str (ZM z)) B):=by
 intro pins s σ H Q I h;refine wpAny_FormattedValue_repr (Ap (V pins s σ H _ I h) λv s1 Y=>AG Y λx B L r1 D=>?_);replace D:=Av D;obtain ⟨z,rfl,O,q⟩:=D
 obtain ⟨t,rfl⟩:=r1;refine wpAny_pyReprObj_gives (YG _ _ _) F.slot_str_repr F.entry_str_repr (F.args_str_repr_1 _) (gives_str_repr z t) ?_ rfl O;exact xh ⟨.str _,B,L.tok _,⟨_,rfl⟩,q⟩ ⟨.str _,B,L.tok _,⟨_,rfl⟩,q⟩ O
abbrev TJ:=Str->St->Hp->(Str->Hp->Prop)->Prop
def PJ (X:Cx)(es:List T9)(t:TJ):Prop:=∀(acc:Str)(pins:List (Addr×Obj))(s:T2)(σ:St)(H:Hp)(Q:Str->Hp->Prop),Ad X pins σ H s->t acc σ H Q ->
 Joins (T8 X.prog X.w) X.A X.xe (evalEach es X.env) acc (λout s₁=>∃ H',Ad X pins σ H' s₁/\Q out H') s
theorem FN:PJ X [] (λB _ H Q=>Q B H):=λ_ _ _ _ H _ I h=>⟨H,I,h⟩
theorem Cv {e:T9}{es:List T9}{L:TE}{O:TJ}(V:PE X e L)(hs:PJ X es O)(Y:evalEach (e :: es) X.env=Ui e X.env :: evalEach es X.env:=by rfl) :
  PJ X (e :: es) (λB σ H Q=>L σ H λx D=>∃ y,x=.str y/\(B++y).length<=sizeLine/\O (B++y) σ D Q):=by
 intro B pins s σ H Q I h;rw [Y];refine Ap (V pins s σ H _ I h) λv s1 zz=>AG zz λx D I1 r1 J=>?_;replace J:=Av J;obtain ⟨y,rfl,hz,q⟩:=J
 obtain ⟨t,rfl⟩:=r1;exact ⟨y,t,rfl,hz,hs _ pins s1 σ D Q I1 q⟩
theorem Joins.imp {M:WC}{A:Us}{E:Value->T2->Prop}{Q D:Str->T2->Prop}(hq:∀ x s,Q x s->D x s):∀{l:List (Sem Value)}{B:Str}{s:T2},Joins M A E l B Q s->Joins M A E l B D s
 | [],_,_,h=>hq _ _ h
 | x :: rest,B,s,h=>Ap (t:=x) h λv J H=>AG H λy t e I r=>⟨y,t,e,I,Joins.imp hq r⟩
theorem FO {e e':T9}{es:List T9}{D:TJ}{pos:Pos}(h:PJ X (e :: e' :: es) D):PE X (.JoinedStr (e :: e' :: es) pos) (λσ H Q=>D UJ σ H λout B=>out.length<=sizeLine/\Q (.str out) B):=by intro pins s σ H Q I hw;refine wpAny_JoinedStr (Joins.imp (λout O ⟨B,J,L,q⟩=>?_) (h UJ pins s σ H _ I hw));exact ⟨L,.str out,B,J.tok _,⟨_,rfl⟩,q⟩
end
section
variable {P:Ub}{w:T6}{K:T3}{mg:Str->Option Value}{base:Heap}
theorem AM.bw {x B:Str}{st:Stmt}{f:Addr}{fd:Uk}{N ps:List Str}{k:Nat}{sp:Sp}(F:AM K x B st f fd)(S:AR N ps (Ab st))(I:∀ (D:Value) (A:Us) (outer:List Env) (s:T2) (H:Hp) (vs:List V) (Q:VK) (E:XK),Bu k (A.deeper (Wh B (Ab st) s.heap.objs.size f D))->sp vs H Q E ->
   ∃ t,CN (C3 (AJ P w) P w K mg base N B (Ab st) f D A outer s H E) (Dp st) t/\t { nx:=λ_ J=>Q .aa J,rt:=Q } (AW N vs) H)(len:∀ vs H Q E,sp vs H Q E->vs.length=ps.length:=by intro _ _ _ _ h;repeat (first | exact congrArg V9 h.1 | obtain ⟨_,h⟩:=h)):AF P w K mg base (AJ P w) (k+1) f fd ps sp:=by
 obtain ⟨oc,od,kV,L,pm,an,D,ct,eN,rfl,lk,O⟩:=Eu F.ex;exact ON lk O S len λA outer s H vs Q E Y dN=>I D A outer s H vs Q E Y dN
def BB (P:Ub)(w:T6)(K:T3)(mg:Str->Option Value)(base:Heap)(CX:B0)(k:Nat)(x:Str)(ps:List Str)(sp:Sp):Prop :=
 ∃ f fd,mg x=some (.ref f)/\Vh K (.ref f)=true/\Dg K fd ps []/\AF P w K mg base CX k f fd ps sp
end
section
variable {X:Cx}{CX:B0}{k:Nat}{x:Str}{ps:List Str}{sp:Sp}{p pos:Pos}{e:T9}{es:List T9}{t:TA}
theorem Aco {E:XK}(D:BB X.prog X.w X.K X.mg X.base CX k x ps sp)(B:Bu k X.A)(hx:CT CX X E)(H:PA X (e :: es) t)(I:Gl X x:=by rfl)(J:(x == ("__debug__":Str))=false:=by decide)(L:Ul (e :: es) X.env=(false,Ui e X.env) :: Ul es X.env:=by rfl)(O:(UP pos (Ul es X.env)).any (·.1)=false:=by rfl) :
  PE X (.Call (.Name x p) (e :: es) [] pos) (Jf sp [] E t):=by
 obtain ⟨f,fd,V,Y,h3,h4⟩:=AY D;exact Abk h4 B I V Y h3 .nil hx H J L O
theorem Fh {P:Ub}{w:T6}:CT (AJ P w) X E0:=λ_ _ _ _ _ _ _ h=>by
 obtain ⟨_,_,_,_,_,_,_,_,_,_,_,_,_,z⟩:=Dm h;exact z.elim
end
section
variable {X:Cx}
theorem BL:Bf X (VP .Add) (λx y H Q=>(∃ i j,x=.int i/\y=.int j/\Q (.int (i+j)) H)\/(∃ i j,x=.str i/\y=.str j/\i.length+j.length<=sizeLine/\Q (.str (i++j)) H)\/OZ x y H Q):=AaN.or (AaY.or AbQ)
theorem B2:Bf X (VP .Mult) (λx y H Q=>(∃ i j,x=.int i/\y=.int j/\Hs i j/\Q (.int (i * j)) H)\/O8 x y H Q\/O0 x y H Q):=AaO.or (Acg.or AbS)
theorem B7 (hu:X.A.units+64<cLine):Bf X (UW .Eq) (λx y H Q=>Oq x y H Q\/Jq X.K false x y H Q):=AaQ.or (Ab8 hu)
theorem Ef (hu:X.A.units+64<cLine):Bf X (UW .NotEq) (λx y H Q=>Ot x y H Q\/Jq X.K true x y H Q):=AaR.or (Ab9 hu)
noncomputable def FP (i j:Str):Bool:=!(Zi j i 0 j.length 1).isEmpty
theorem HI:Bf X (UW .In) (λx y H Q=>(∃ i j,x=.str i/\y=.str j/\Q (.bl (FP i j)) H)\/Gv X.K false x y H Q):=AaT.or AbF
theorem Jr:Bf X (UW .NotIn) (λx y H Q=>(∃ i j,x=.str i/\y=.str j/\Q (.bl (!FP i j)) H)\/Gv X.K true x y H Q):=AbH.or AbG
theorem Cp:BJ X (.builtin "len") (λxs H Q=>(∃ z,xs=[.str z]/\z.length<=sizeLine/\Q (.int z.length) H)\/∃ p ys,xs=[.ref p]/\(Bg X.K H p ys\/Bt X.K H p ys)/\Q (.int ys.length) H):=AbJ.or AbI
theorem Pb:BJ X (.builtin "isinstance") (λxs H Q=>(∃ x c t v b,xs=[x,c]/\HF X.K H x t/\FL c=some v/\X7 X.K t v=some b/\Q (.bl b) H) \/
 ∃ a C p B vs b,xs=[.ref a,.ref p]/\H a=some (FJ a (.ref C))/\EE X.K C/\H p=some (.tup B)/\B.mapM FL=some vs/\xg X.K (.ref C) vs=some b/\Q (.bl b) H):=Acm.or Acn
theorem Acp:BJ X (.type "int") (λxs H Q=>∃ z n,xs=[.str z]/\ZL z=some n/\z.length<=640/\Q (.int n) H):=Ack
theorem Js:EB X (λx lo B H Q=>Lf x lo B H Q\/Lb X.K x lo B H Q):=Acf.or AbD
end
theorem Fi {α:Type}{xs:List α}{k:Int}(D:0<=k)(h:k<xs.length):∃ v,Cu xs k=some v/\xs[k.toNat]?=some v:=by
 have B:k.toNat<xs.length:=by omega
 refine ⟨xs[k.toNat],?_,Uu B⟩;unfold Cu DJ;rw [if_pos D,if_pos h];exact Uu B
theorem Fj {ns:List Int}{k:Int}(H:0<=k)(h:k<ns.length):Cu (ns.map V.int) k=some (.int (ns.getD k.toNat 0)):=by
 obtain ⟨v,I,B⟩:=Ag (Fi (xs:=ns.map V.int) H (by simpa using h));have D:k.toNat<ns.length:=by omega
 rw [Uj,Uu D] at B;cases B;rw [I];simp [UM,Uu D]
theorem Ai.upd {H B:Hp}{p:Addr}{o:HO}(s:Ai H B)(h:B p=none):Ai H (upd B p o):=λb I e=>by
 have D:=s b I e;rw [Au (B6 D h)];exact D
theorem Ai.cj {H B:Hp}{p:Addr}{o:HO}(s:Ai H B)(h:H p=none):Ai H (L2.upd B p o):=λb D e=>by
 rw [Au (B6 e h)];exact s b D e
structure Nm (sc:Scope)(x:Str):Prop where
 loc:sc.names.lookup x=some .local
 db:(x == ("__debug__":Str))=false
 cd:(x == ("__classdict__":Str))=false
structure Gm (sc:Scope)(x:Str):Prop where
 gl:sc.names.lookup x=some .globalImplicit
 db:(x == ("__debug__":Str))=false
 nn:x≠"__name__"
theorem Nm.of {sc:Scope}{x:Str}(a:sc.names.lookup x=some .local:=by decide +kernel)(b:(x == ("__debug__":Str))=false:=by decide +kernel)(c:(x == ("__classdict__":Str))=false:=by decide +kernel):Nm sc x:=⟨a,b,c⟩
theorem Gm.of {sc:Scope}{x:Str}(a:sc.names.lookup x=some .globalImplicit:=by decide +kernel)(b:(x == ("__debug__":Str))=false:=by decide +kernel)(c:x≠"__name__":=by decide +kernel):Gm sc x:=⟨a,b,c⟩
theorem AR.of {N P:List Str}{sc:Scope}(a:sc.kind=.function:=by rfl)(b:sc.isCoroutine=false:=by rfl)(c:sc.isGenerator=false:=by rfl)(d:N.Nodup:=by decide +kernel)(e:N.take P.length=P:=by rfl)(f:∀ x∈P,sc.names.lookup x=some .local\/sc.names.lookup x=some .cell:=by decide +kernel)(g:∀ y∈sc.names,y.2≠.free:=by decide +kernel):AR N P sc:=⟨a,b,c,d,e,f,g⟩
theorem Ca:U9 "len"=some (.builtin "len"):=by decide +kernel
theorem Pc:U9 "isinstance"=some (.builtin "isinstance"):=by decide +kernel
theorem Lg:U9 "int"=some (.type "int"):=by decide +kernel
theorem Acq:U9 "bool"=some (.type "bool"):=by decide +kernel
theorem Acr:U9 "str"=some (.type "str"):=by decide +kernel
theorem DZ:U9 "list"=some (.type "list"):=by decide +kernel
theorem Jt:U9 "tuple"=some (.type "tuple"):=by decide +kernel
theorem Acs:U9 "set"=some (.type "set"):=by decide +kernel
theorem Acu:U9 "min"=some (.builtin "min"):=by decide +kernel
theorem Ju:U9 "sorted"=some (.builtin "sorted"):=by decide +kernel
theorem Acv:U9 "all"=some (.builtin "all"):=by decide +kernel
section
variable {X:Cx}{x:Str}{pos p:Pos}
theorem Aa (i:Nat)(n:Nm X.env.scope x)(B:X.N[i]?=some x:=by rfl):PE X (.Name x pos) (IV i):=K0 B (Uh n.loc) n.db n.cd
theorem Bo (i:Nat)(B:X.N.Nodup)(n:Nm X.env.scope x)(D:X.N[i]?=some x:=by rfl):PG X (.Name x pos) (Ez i):=Oa B D (Uh n.loc) (Ue n.loc)
theorem A1 (i:Nat){e:T9}{D:TE}{B:Pos}(H:X.N.Nodup)(n:Nm X.env.scope x)(I:PE X e D)(J:X.N[i]?=some x:=by rfl)(hs:Xd e (some (.Name x B)) pos.line X.env=pure false:=by rfl) :
  PS X (.Assign [.Name x B] e pos) (Gn D (Ez i)):=Oc H J (Uh n.loc) I hs (Ue n.loc)
theorem Jv {v:V}{u:Value}(g:Gm X.env.scope x)(B:X.mg x=some u)(r:AE v u):PE X (.Name x pos) (tC v):=Aal g.gl B r g.db
theorem Pd {v:V}{u:Value}(g:Gm X.env.scope x)(B:X.mg x=none)(hv:U9 x=some u)(r:AE v u):PE X (.Name x pos) (tC v):=Aam g.gl B hv r g.nn g.db
variable {e:T9}{es:List T9}{t:TA}{id T:String}{r:List V->Hp->VK->Prop}
theorem BG (hc:BJ X (.builtin id) r)(g:Gm X.env.scope x)(B:X.mg x=none)(hv:U9 x=some (.builtin id))(D:PA X (e :: es) t)(H:Ul (e :: es) X.env=(false,Ui e X.env) :: Ul es X.env:=by rfl)(I:(UP pos (Ul es X.env)).any (·.1)=false:=by rfl):PE X (.Call (.Name x p) (e :: es) [] pos) (Jh r t):=Abq hc g.gl B hv D g.nn g.db H I
theorem Cw (hc:BJ X (.type T) r)(g:Gm X.env.scope x)(B:X.mg x=none)(hv:U9 x=some (.type T))(D:PA X (e :: es) t)(H:Ul (e :: es) X.env=(false,Ui e X.env) :: Ul es X.env:=by rfl)(I:(UP pos (Ul es X.env)).any (·.1)=false:=by rfl):PE X (.Call (.Name x p) (e :: es) [] pos) (Jh r t):=Abr hc g.gl B hv D g.nn g.db H I
theorem Bx {CX:B0}{k:Nat}{ps:List Str}{sp:Sp}{E:XK}(D:BB X.prog X.w X.K X.mg X.base CX k x ps sp)(g:Gm X.env.scope x)(B:Bu k X.A)(hx:CT CX X E)(H:PA X (e :: es) t)(I:Ul (e :: es) X.env=(false,Ui e X.env) :: Ul es X.env:=by rfl)(J:(UP pos (Ul es X.env)).any (·.1)=false:=by rfl) :
  PE X (.Call (.Name x p) (e :: es) [] pos) (Jf sp [] E t):=Aco D B hx H g.gl g.db I J
theorem GA {D b:T9}{B:TA}(g:Gm X.env.scope "range")(H:X.mg "range"=none)(I:PA X [b] B)(hs:Ul [b] X.env=[(false,Ui b X.env)]:=by rfl):PI X D (.Call (.Name "range" p) [b] [] pos) (Oi B):=AaG g.gl H I hs
theorem Dr {W:St->XK}{C:Addr}{D B:Pos}(H:Ld X W)(g:Gm X.env.scope x)(hc:X.calm=true)(q:VH X.K C [.type "ValueError",.type "Exception",.type "BaseException",.type "object"] "ValueError.__new__"=true)(I:X.mg x=some (.ref C))(J:PA X (e :: es) t)(L:Ul (e :: es) X.env=(false,Ui e X.env) :: Ul es X.env:=by rfl)(O:(UP B (Ul es X.env)).any (·.1)=false:=by rfl) :
  PS X (.Raise (some (.Call (.Name x D) (e :: es) [] B)) none pos) (O2 W C t):=Ab0 H hc q I J g.gl g.db L O
theorem Acw {body D:List Stmt}{H:Stmt}{n:Str}{O Y:Pos}(i:Nat){I:Addr}{J:(Value->T2->Prop)->List (Addr×Obj)->(St->XK)->TS}{ts:Addr->TS}(g:Gm X.env.scope x)(nm:Nm X.env.scope n)(hm:X.mg x=some (.ref I))(nd:X.N.Nodup)(hb:∀ B pins W,Jp (AJ X.prog X.w) (X.tr B pins) W->Yw (T8 X.prog X.w) X.A X.env B->CN (X.tr B pins) body (J B pins W))(hs:∀ L,CN (X.su L) (H :: D) (ts L))(hi:X.N[i]?=some n:=by rfl)(hex:X.ex=[]:=by rfl)(aL:X.stack=X.env :: X.outer:=by rfl)(mR:X.env.frame=some X.env.locals:=by rfl) :
  PS X (.Try body [.ExceptHandler (some (.Name x O)) (some n) (H :: D) Y] [] [] pos) (O3 X.K I i J ts):=Ab1 hex aL mR hm nd hi hb hs g.gl nm.loc g.db
end
noncomputable def HJ:T9->Option V
 | .Constant (.int i) _ _=>some (.int i)
 | .Constant (.str x) _ _=>some (.str x)
 | .Constant (.bool b) _ _=>some (.bl b)
 | .Constant .none _ _=>some .aa
 | _=>none
noncomputable def Lh:List T9->Option (List V)
 | []=>some []
 | e :: es=>match HJ e,Lh es with
  | some v,some vs=>some (v :: vs)
  | _,_=>none
section
variable {X:Cx}
theorem Acx {e:T9}{v:V}(h:HJ e=some v):PE X e (tC v):=by unfold HJ at h;split at h<;>first | (cases h;first | exact Am | exact Ak | exact DR | exact Ck) | cases h
theorem Acy {e:T9}{v:V}(h:HJ e=some v)(es:List T9):Ul (e :: es) X.env=(false,Ui e X.env) :: Ul es X.env:=by unfold HJ at h;split at h<;>first | rfl | cases h
theorem Jw:∀{es:List T9}{vs:List V},Lh es=some vs->PA X es (λ_ H Q=>Q vs H)
 | [],vs,h=>by
  cases h;exact Ae
 | e :: es,vs,h=>by
  unfold Lh at h;split at h
  .rename_i v vs' h1 h2
   cases h;exact Ac (Acx h1) (Jw h2) (Acy h1 es)
  .cases h
end
theorem Jx {env:Env}{x:Str}:∀{ns:List (Str×WM)},(ns.map λ(n,k)=>if (k == WV && env.scope.kind == .function && env.kindOf n == some .cell) then (n,NameKind.cell) else (n,k)).lookup x
   =(ns.lookup x).map λk=>if (k == WV && env.scope.kind == .function && env.kindOf x == some .cell) then NameKind.cell else k
 | []=>rfl
 | (n,k) :: r=>by
  have ih:=@Jx env x r;rw [Vd];cases q:x == n with
  | true =>
   have e:x=n:=beq_iff_eq.mp q;subst e;rw [WW,WW,q];by_cases hc:(k == WV && env.scope.kind == .function && env.kindOf x == some .cell)=true
   .simp only [hc,if_true,q,Vw]
   .simp only [hc,if_false,q,Vw,XE]
  | false =>
   rw [WW,WW,q];by_cases hc:(k == WV && env.scope.kind == .function && env.kindOf n == some .cell)=true
   .simp only [hc,if_true,q];exact ih
   .simp only [hc,if_false,q,XE];exact ih
theorem Jy {sc:Scope}{env:Env}{x:Str}(h:sc.names.lookup x=some .free):(Wb sc env).names.lookup x=some .cell\/(Wb sc env).names.lookup x=some .free:=by
 have e:(Wb sc env).names.lookup x=_:=Jx;rw [h] at e;rw [e,Vw];by_cases hc:(WV == WV && env.scope.kind == .function && env.kindOf x == some .cell)=true
 .rw [if_pos hc];exact .inl rfl
 .rw [if_neg hc];exact .inr rfl
theorem Pe {sc:Scope}{env:Env}{x:Str}{k:WM}(h:sc.names.lookup x=some k)(hk:(k == WV)=false):(Wb sc env).names.lookup x=some k:=by have e:(Wb sc env).names.lookup x=_:=Jx;rw [h,Vw,hk] at e;exact e
theorem Acz {sc:Scope}{env:Env}{x:Str}(B:∀ y∈sc.names,y.2≠.cell)(h:(Wb sc env).names.lookup x=some .cell\/(Wb sc env).names.lookup x=some .free):sc.names.lookup x=some .free:=by
 have e:(Wb sc env).names.lookup x=_:=Jx;cases q:sc.names.lookup x with
 | none=>rw [q] at e;rw [e] at h;rcases h with z | z<;>cases z
 | some k =>
  rw [q,Vw] at e;cases k with
  | free=>rfl
  | cell=>exact absurd rfl (B _ (Wi q))
  | _=>rw [e] at h;rcases h with z | z<;>cases z
theorem Li {env:Env}:∀(ns:List (Str×WM))(B:List (Str×Addr)),(∀ y∈ns,y.2=.free->∃ c,env.cells.lookup y.1=some c)->(∀ x c,B.lookup x=some c->env.cells.lookup x=some c) ->
  ∃ D,(forIn ns B λ(x:Str×WM) (r:List (Str×Addr))=>if (x.2 == .free)=true then do let c <- cellOf env x.1;pure (YO ((x.1,c) :: r)) else pure (YO r):Sem (List (Str×Addr)))=pure D /\
   (∀ x c,D.lookup x=some c->env.cells.lookup x=some c)/\(∀ y∈ns,y.2=.free->∃ c,D.lookup y.1=some c)/\∀ x c,B.lookup x=some c->∃ H,D.lookup x=some H
 | [],B,_,J=>⟨B,rfl,J,λy hy=>by simp at hy,λx c e=>⟨c,e⟩⟩
 | (n,k) :: r,B,h1,J=>by
  rw [List.forIn_cons];by_cases hk:k=.free
  .subst hk;obtain ⟨c,hc⟩:=h1 (n,.free) UY rfl;have hc:env.cells.lookup n=some c:=hc;obtain ⟨D,e,O,V,I⟩:=Li r ((n,c) :: B) (λy hy=>h1 y (UO _ hy)) (λx H e=>by
    rw [WW] at e;cases q:x == n with
    | true=>rw [q] at e;cases e;rw [beq_iff_eq.mp q];exact hc
    | false=>rw [q] at e;exact J x H e)
   refine ⟨D,?_,O,λy hy L=>?_,λx H e=>?_⟩
   .have:cellOf env n=pure c:=by unfold cellOf;rw [hc]
    simp only [beq_self_eq_true,if_true,this,pure_bind];exact e
   .rcases Uo.mp hy with z | z
    .subst z;exact I n c (by rw [WW,beq_self_eq_true])
    .exact V y z L
   .cases q:x == n with
    | true=>exact I x c (by rw [WW,q])
    | false=>exact I x H (by rw [WW,q];exact e)
  .have hb:(k == WV)=false:=beq_eq_false_iff_ne.mpr hk;obtain ⟨D,e,O,V,I⟩:=Li r B (λy hy=>h1 y (UO _ hy)) J;refine ⟨D,?_,O,λy hy L=>?_,I⟩
   .simp only [hb,XE,if_false,pure_bind];exact e
   .rcases Uo.mp hy with z | z
    .subst z;exact absurd L hk
    .exact V y z L
theorem Lj {env:Env}{sc:Scope}(h:∀ y∈sc.names,y.2=.free->∃ c,env.cells.lookup y.1=some c) :
  ∃ B,closureFor sc env=pure B/\(∀ x c,B.lookup x=some c->env.cells.lookup x=some c)/\∀ y∈sc.names,y.2=.free->∃ c,B.lookup y.1=some c:=by
 obtain ⟨B,e,D,H,_⟩:=Li sc.names [] h (λx c e=>by cases e);refine ⟨B,?_,D,H⟩;unfold closureFor;show (forIn sc.names ([]:List (Str×Addr)) _ >>= λr=>pure r)=_;rw [bind_pure];rw [<- e]
theorem CI {α:Type}{M:WC}{A:Us}{t:Sem α}{Q B:α->T2->Prop}{E:Value->T2->Prop}{s:T2}(h:T5 M A t Q (λ_ _=>False) s)(hq:∀ a s,Q a s->B a s):T5 M A t B E s:=VB h hq λ_ _ f=>f.elim
noncomputable def HK (ifs:List T9)(env:Env):Sem Bool:=forIn ifs true λc r=>if r=true then do let ok <- XU c env (Ui c env);pure (YO ok) else pure (YO r)
theorem AcA {prog:Ub}{w:T6}{A:Us}{R:Xj->T2->Prop}{s:T2}{B O iter:T9}{D:List T9}{sc:Scope}{pos:Pos}{it H:Value}{env:Env}(I:Nat->T2->Prop)(turn:∀ n s,I n s->T5 (T8 prog w) A (VZ it) (λr V=>match r with
   | none=>R (.ok .next) V
   | some v=>T5 (T8 prog w) A (Xg O it v) (λ_ s₂=>T5 (T8 prog w) A (V6 O env v) (λ_ s₃=>T5 (T8 prog w) A (HK D env) (λok Y =>
     if ok=true then T5 (T8 prog w) A (Ui B env) (λx s₅=>T5 (T8 prog w) A (call (.builtin "list.append") [H,x]) (λ_ s₆=>∃ m,m<n/\I m s₆) (λ_ _=>False) s₅) (λ_ _=>False) Y
     else ∃ m,m<n/\I m Y) (λ_ _=>False) s₃) (λ_ _=>False) s₂) (λ_ _=>False) V) (λ_ _=>False) s)(n:Nat)(h:I n s):Vk (T8 prog w) A (.compLoop (.ListComp B [⟨O,iter,D,0⟩] sc pos) 0 it H env) R s:=by
 refine ZN rfl I (λn s hI=>?_) n h;show T5 _ A ((YQ (.ListComp B [⟨O,iter,D,0⟩] sc pos) 0 it H env).onRaise _) _ _ s;refine ZO ?_;rw [compTurn_list];refine Ua (Wt (Ua (CI (turn n s hI) λr V J=>?_)));match r,J with
 | none,J=>exact Um J
 | some v,J =>
  refine Ua (CI J λ_ s₂ h₂=>Ua (CI h₂ λ_ s₃ h₃=>Ua (CI h₃ λok Y L=>?_)));match ok,L with
  | false,L=>exact Um ⟨rfl,L⟩
  | true,L=>exact Ua (Ua (CI L λx s₅ h₅=>Ua (CI h₅ λ_ s₆ h₆=>Um (Um ⟨rfl,h₆⟩))))
structure BE (sc dP:Scope)(N' N:List Str)(ax:List (Option Nat)):Prop where
 kind:sc.kind=.function
 kE:∀ y∈sc.names,y.2≠.cell
 one:∀ y∈sc.names,y.2=.local->sc.names.lookup y.1=some .local
 frees:∀ y∈sc.names,y.2=.free->dP.names.lookup y.1=some .cell\/dP.names.lookup y.1=some .free
 nd:N'.Nodup
 len:ax.length=N'.length
 out:∀ i j:Nat,ax[i]?=some (some j)->∃ x,N'[i]?=some x/\N[j]?=some x/\sc.names.lookup x=some .free/\(dP.names.lookup x=some .cell\/dP.names.lookup x=some .free)
noncomputable def EF (ax:List (Option Nat))(σ:St):St:=ax.map λo=>o.bind λj=>(σ[j]?).join
noncomputable def A4 (X:Cx)(N':List Str)(sc:Scope)(cl:List (Str×Addr))(C:Addr)(fp:List Addr)(pins:List (Addr×Obj))(s₂:T2)(H₂:Hp):Cx :=
 { prog:=X.prog,w:=X.w,K:=X.K,mg:=X.mg,base:=X.base,A:=X.A,N:=N',s₀:=s₂,H₀:=H₂,env:=YR sc cl C X.env,outer:=X.stack,stack:=X.stack,ex:=fp,fn:=λ_=>false,calm:=X.calm,pn:=X.pn++pins,xe:=λ_ _=>False }
section
variable {X:Cx}{N':List Str}{sc:Scope}{ax:List (Option Nat)}{cl:List (Str×Addr)}{C:Addr}{fp:List Addr}{pins:List (Addr×Obj)}{s₂:T2}{H₂:Hp}{σ:St}
theorem EG (S:BE sc X.env.scope N' X.N ax)(I:Ad X pins σ H₂ s₂)(D:∀ x c,cl.lookup x=some c->X.env.cells.lookup x=some c)(J:∀ y∈sc.names,y.2=.free->∃ c,cl.lookup y.1=some c)(H:s₂.heap.objs.size<=C)(B:∀ b∈fp,De X pins H₂ b)(L:∀ b∈fp,∃ o,s₂.heap.get? b=some o):(A4 X N' sc cl C fp pins s₂ H₂).Ok where
 mod:=I.ok.mod
 kind:=S.kind
 glob:=I.ok.glob
 blt:=I.ok.blt
 above:=H
 inj:=λx y c O V=>I.ok.inj x y c (D x c O) (D y c V)
 has:=λx hx=>J _ (Wi (Acz S.kE hx)) rfl
 dG:=λx c Y=>by cases Y
 hd:=I.ok.hd
 frames:=I.ok.frames
 bJ:=.inl rfl
 dH:=λb hb=>by
  obtain ⟨o,ho⟩:=L b hb;exact ⟨UB (UN (Ut ho) H),λx c e=>(B b hb).2.2.2.2.1 x c (D x c e)⟩
 bs:=I.bs
 cF:=U7 I.ok.cF I.sz
 dI:=λb o e hb=>by
  rcases (B b hb).2.2.2.1 with z | z
  .exact I.ok.dI b o e z
  .exact absurd (UN (Ut (I.ok.bs b o e).1) z) (VA _)
 cS:=λb hb z=>(Uo.mp (I.cZ b z)).elim (B b hb).2.1 (B b hb).2.2.1
 bK:=I.stack
 cT:=I.mB
theorem AcB {D:Addr}{h₁:Heap}{tk:Nat}{m:Str->Option Value}(S:BE sc X.env.scope N' X.N ax)(I:Ad X pins σ H₂ s₂)(L:∀ x c,cl.lookup x=some c->X.env.cells.lookup x=some c)(bC:∀ y∈sc.names,y.2=.free->∃ c,cl.lookup y.1=some c)(cm:∀ b∈fp,De X pins H₂ b)(bD:∀ b∈fp,∃ o,s₂.heap.get? b=some o)(hD:D=s₂.heap.objs.size)(hC:C=s₂.heap.objs.size+1)(hk:∀ b o,(s₂.heap.push { cls:=.type "list",data:=.seq #[] }).get? b=some o->h₁.get? b=some o)(bG:h₁.Ns C m) :
  Ad (A4 X N' sc cl C fp pins s₂ H₂) [] (EF ax σ) (upd H₂ D (.lst [])) { s₂ with heap:=h₁,toks:=tk }:=by
 subst hD;have Y:s₂.heap.objs.size<=C:=by rw [hC];exact Vl _
 have ok:=EG S I L bC Y cm bD;have I3:=I.mK (ys:=[]) (its:=[]) (t':=tk) .nil (U1 _);have I4:Ad X pins σ (upd H₂ s₂.heap.objs.size (.lst [])) { s₂ with heap:=h₁,toks:=tk }:=I3.kept (t':=tk) hk;have B:∀ b o,s₂.heap.get? b=some o->h₁.get? b=some o:=λb o e=>hk b o (UA _ e);have i6:∀ b o,s₂.heap.get? b=some o->b≠s₂.heap.objs.size:=λb o e=>UB (Ut e);have fL:∀ x c,cl.lookup x=some c->∃ v o,s₂.heap.get? c=some o/\o.data=.cell v:=λx c e=>by
  obtain ⟨v,o,H,hd⟩:=AQ (I.cell x c (L x c e));exact ⟨v,o,H,hd⟩
 refine ⟨ok,rfl,I.bare,Un.laid B (Uq _) I.fresh,⟨m,bG,λi x v e1 e2 e3=>?_⟩,λx c e=>?_,?_,λx c e=>?_,λp hp=>?_,I4.af,?_⟩
 .have J:(ax[i]?).map (λo=>o.bind λj=>(σ[j]?).join)=some (some v):=by
   have:=e2;unfold EF at this;rwa [Uj] at this
  cases q:ax[i]? with
  | none=>rw [q] at J;cases J
  | some oj =>
   rw [q,Vw] at J;cases oj with
   | none=>cases J
   | some j =>
    have O:(σ[j]?).join=some v:=by simpa using J
    have e5:σ[j]?=some (some v):=by
     cases z:σ[j]? with
     | none=>rw [z] at O;cases O
     | some w=>rw [z] at O;rw [<- O];rfl
    obtain ⟨x',n1,n2,n3,V⟩:=Av (S.out i j q);have bZ:N'[i]?=some x:=e1;rw [n1] at bZ;cases bZ;obtain ⟨m2,gu,hl⟩:=Ag I.loc;have hv:Gj X.env.scope x:=V.elim (λz=>.inr (.inl z)) λz=>.inr (.inr z);obtain ⟨u,r,l⟩:=Ag (hl j x v n2 e5 hv);refine ⟨u,r,.inr ⟨Jy n3,?_⟩⟩;rcases l with ⟨k,_⟩ | ⟨_,c,ec,z⟩
    .have k':X.env.scope.names.lookup x=some .local:=k;rcases V with z | z<;>rw [k'] at z<;>cases z
    .obtain ⟨c',fM⟩:=bC _ (Wi n3) rfl;have:=L x c' fM;rw [ec] at this;cases this;obtain ⟨o,H,hd⟩:=Ag z;exact ⟨c,fM,o,B c o H,hd⟩
 .obtain ⟨v,o,H,hd⟩:=AQ (fL x c e);exact ⟨v,o,B c o H,hd⟩
 .show upd H₂ s₂.heap.objs.size (.lst []) C=none;rw [Au (by rw [hC];exact Yh _)];exact I.af.fresh Y
 .obtain ⟨v,o,H,hd⟩:=AQ (fL x c e);show upd H₂ s₂.heap.objs.size (.lst []) c=none;rw [Au (i6 c o H)];exact I.bL x c (L x c e)
 .have bN:p∈X.pn++pins:=by simpa [A4] using hp
  obtain ⟨e,n,ne,nf,d⟩:=AD (I.pin p bN);obtain ⟨_,V,_⟩:=AD (I4.pin p bN);exact ⟨B _ _ e,V,UB (UN (Ut e) Y),λz=>(Uo.mp (I.cZ _ z)).elim ne nf,d⟩
 .show (ax.map _).length=N'.length;rw [T7];exact S.len
theorem Ll {D:Hp}{σ':St}{H:T2}(I:Ad X pins σ H₂ s₂)(B:∀ b∈fp,De X pins H₂ b)(J:Ad (A4 X N' sc cl C fp pins s₂ H₂) [] σ' D H):Ad X pins σ D H :=
 I.qQ J.os J.base J.af J.bare λb hb=>⟨(B b hb).2.2.2.1,(B b hb).2.1,(B b hb).2.2.2.2.1,(B b hb).2.2.2.2.2⟩
def EH (X:Cx)(ifs:List T9)(t:TT):Prop :=
 ∀(pins:List (Addr×Obj))(s:T2)(σ:St)(H:Hp)(Q:Bool->Hp->Prop),Ad X pins σ H s->t σ H Q->T5 (T8 X.prog X.w) X.A (HK ifs X.env) (TP X pins σ Q) X.xe s
def AcC:TT:=λ_ H Q=>Q true H
theorem FQ {X:Cx}:EH X [] AcC:=λpins s σ H Q I h=>wpAny_tests_nil ⟨H,I,h⟩
theorem Lm {X:Cx}{c:T9}{t:TT}(h:PT X c t):EH X [c] t:=λpins s σ H Q I q=>wpAny_tests_one (h pins s σ H Q I q)
def Lp (ax:List (Option Nat))(wi:TI)(g:TG)(tt:TT)(te:TE):TE:=λσ H Q=>wi σ H λJ H1=>∀ D,H1 D=none->∃ W:Nat->Nat->St->Hp->Prop,(∃ m,W 0 m (EF ax σ) (upd H1 D (.lst [])))/\∀ i m σ' H',W i m σ' H' ->
 (J.stop i H'/\Q (.ref D) H')\/(J.go i H'/\∃ N:St->Hp->Prop,(∀ σ2 H2,N σ2 H2->∃ m',m'<m/\W (i+1) m' σ2 H2)/\∀ x H2,J.bY i H' x H2->g x σ' H2 λσ3 H3=>tt σ3 H3 λb H4 =>
  if b=true then te σ3 H4 λv H5=>∃ ys,H5 D=some (.lst ys)/\ys.length<sizeLine/\N σ3 (upd H5 D (.lst (ys++[v]))) else N σ3 H4)
theorem Pf {elt tg iter:T9}{V:List T9}{sc:Scope}{ax:List (Option Nat)}{N':List Str}{pos:Pos}{wi:TI}{g:TG}{tt:TT}{te:TE}{s:T2}{H:Hp}{use:Option (Value->Sem Unit)}{Qv:Value->T2->Prop}{Q:VK}(hc:X.calm=true)(S:BE sc X.env.scope N' X.N ax)(hi:PI X tg iter wi)(hg:∀ cl C fp pins s₂ H₂,PG (A4 X N' sc cl C fp pins s₂ H₂) tg g)(ht:∀ cl C fp pins s₂ H₂,EH (A4 X N' sc cl C fp pins s₂ H₂) V tt)(he:∀ cl C fp pins s₂ H₂,PE (A4 X N' sc cl C fp pins s₂ H₂) elt te)(hs:∀ x,WE iter X.env x=pure x)(I:Ad X pins σ H s)(h:Lp ax wi g tt te σ H Q)(post:∀ D C B s' m,(∀ h',U4 C s'.heap h'->Ad X pins σ B { s' with heap:=h' })->Ad X pins σ B s'->s'.heap.Ns C m->(∀ x c,X.env.cells.lookup x=some c->c≠C)->X.env.locals≠C->B C=none ->
   (∀ σ' Y h',Ad X pins σ' B Y->U4 C Y.heap h'->Ad X pins σ' B { Y with heap:=h' })->Q (.ref D) B->XF (T8 X.prog X.w) X.A X.xe use Qv (.ref D) C (.ok .next) s') :
  T5 (T8 X.prog X.w) X.A (YS (.ListComp elt [⟨tg,iter,V,0⟩] sc pos) sc X.env (ZP [⟨tg,iter,V,0⟩] pos) (newList []) false (Ui iter X.env) use) Qv X.xe s:=by
 obtain ⟨cl,i7,aY,bC⟩:=Lj (env:=X.env) (sc:=sc) λy hy hf=>I.ok.has y.1 (S.frees y hy hf);refine ZQ rfl hs i7 S.kind S.one (Ap (hi pins s σ H _ I h) λxv s₁ h₁=>Ap h₁ λiT s₂ h₂=>?_);obtain ⟨it,fp,tn,J,H₂,e,O,T,fN,f₂,rd⟩:=Dm h₂;subst e;refine Yi (ZR S.kE (by intro y hy;simp at hy) (λh₁ bG cI=>?_) S.kind);dsimp only at bG cI ⊢;have bD:∀ b∈fp,∃ o,s₂.heap.get? b=some o:=λb hb=>let ⟨o,e,_⟩:=T.obj _ _ fN b hb;⟨o,e⟩;have cx:(s₂.heap.push { cls:=.type "list",dict:=none,data:=.seq ([]:List Value).toArray }).objs.size=s₂.heap.objs.size+1:=V0 ..;have hk:∀ b o,(s₂.heap.push { cls:=.type "list",data:=.seq #[] }).get? b=some o->h₁.get? b=some o:=λb o e=>cI.extBut b o (UB (Ut e)) (UA _ e);have IB:=AcB (tk:=s₂.toks+([]:List (Str×Value)).length) S O aY bC f₂ bD rfl cx hk bG;generalize (s₂.heap.push { cls:=.type "list",dict:=none,data:=.seq ([]:List Value).toArray }).objs.size=C at cx bG cI IB ⊢;generalize hD:s₂.heap.objs.size=D at IB cx ⊢;have aQ:s₂.heap.objs.size<=C:=by rw [hD,cx];exact Vl _
 obtain ⟨W,⟨m0,w0⟩,turn⟩:=Ag (rd D (by rw [<- hD];exact O.fresh));have dm:∀{B:Hp},(∀ b∈fp,B b=none)->∀ b∈fp,De (A4 X N' sc cl C fp pins s₂ H₂) [] B b:=λhn b hb=>by
  obtain ⟨z1,z2⟩:=(EG S O aY bC aQ f₂ bD).dH b hb;exact ⟨hn b hb,z1,(EG S O aY bC aQ f₂ bD).cS b hb,.inl hb,z2,λp hp=>(f₂ b hb).2.2.2.2.2 p (by simpa [A4] using hp)⟩
 have i8:∀ b∈fp,(upd H₂ D (.lst [])) b=none:=λb hb=>by
  obtain ⟨o,ho⟩:=bD b hb;rw [Au (by rw [<- hD];exact UB (Ut ho))];exact (f₂ b hb).1
 have aS:tn 0 h₁:=T.keep _ _ _ fN λb hb o e=>hk b o (UA _ e);have loop:Vk (T8 X.prog X.w) X.A (.compLoop (.ListComp elt [⟨tg,iter,V,0⟩] sc pos) 0 (.ref it) (.ref D) (YR sc cl C X.env)) (XF (T8 X.prog X.w) X.A X.xe use Qv (.ref D) C) { s₂ with heap:=h₁,toks:=s₂.toks+([]:List (Str×Value)).length }:=by
  refine AcA (λn s'=>∃ i σ' B,Ad (A4 X N' sc cl C fp pins s₂ H₂) [] σ' B s'/\tn i s'.heap/\(∀ b∈fp,B b=none)/\W i n σ' B) ?_ m0 ⟨0,_,_,IB,aS,i8,w0⟩;rintro n s3 ⟨i,σ3,H3,I3,dg,dh,w3⟩;rcases turn i n σ3 H3 w3 with ⟨stop,qn⟩ | ⟨go,N,hN,VD⟩
  .refine Ap (T.done (A4 X N' sc cl C fp pins s₂ H₂) rfl rfl rfl hc i [] s3 σ3 H3 _ I3 (dm dh) dg stop) λr s4 ⟨hr,I4⟩=>?_;subst hr;have JX:=Ll O f₂ I4;obtain ⟨m,hn,_⟩:=Ag I4.loc;have cn:∀ x c,X.env.cells.lookup x=some c->c≠C:=λx c e z=>by
    obtain ⟨v,q⟩:=O.cell x c e;exact absurd (UN q.lt (by rw [z];exact aQ)) (VA _)
   have gone:∀ σ' Y h',Ad X pins σ' H3 Y->U4 C Y.heap h'->Ad X pins σ' H3 { Y with heap:=h' }:=λσ' Y h' K3 i9 =>
    K3.turned (t':=Y.toks) (it:=C) (λb o hb e=>(i9.2 b hb).trans e) I4.free (Wf (UN O.lt aQ)) (.inr (U7 O.sz aQ)) cn λp hp z=>by
     exact absurd (UN (Ut (O.pin p hp).1) (by rw [z];exact aQ)) (VA _)
   exact post D C H3 s4 m (λh' hs'=>gone σ s4 h' JX hs') JX hn cn (UB (UN O.lt aQ)) I4.free gone qn
  .refine Ap (T.item (A4 X N' sc cl C fp pins s₂ H₂) rfl rfl rfl hc i [] s3 σ3 H3 _ I3 (dm dh) dg go) λr s4 L=>CL L λu hr h4=>?_;subst hr;refine Ap h4 λ_ s5 L=>AG L λx H5 I5 r5 ⟨y5,cg,gm⟩=>?_;have gp:=I5.pinned (dm gm) (T.obj _ _ cg);refine Ap (hg cl C fp pins s₂ H₂ _ s5 σ3 H5 x u _ gp r5 (VD x H5 y5)) λ_ s6 L=>Hf L λσ6 H6 I6 q6=>?_;refine Ap (ht cl C fp pins s₂ H₂ _ s6 σ6 H6 _ I6 q6) λok s7 L=>CL L λH7 I7 q7=>?_;have again:∀{H8:Hp}{s8:T2},Ad (A4 X N' sc cl C fp pins s₂ H₂) ([]++FF fp s5.heap) σ6 H8 s8->N σ6 H8->∃ m,m<n/\∃ i σ' B,Ad (A4 X N' sc cl C fp pins s₂ H₂) [] σ' B s8/\tn i s8.heap/\(∀ b∈fp,B b=none)/\W i m σ' B:=λ{H8 s8} I8 n8=>by
    obtain ⟨m',hm,w8⟩:=Ag (hN σ6 H8 n8);refine ⟨m',hm,i+1,σ6,H8,I8.gj,T.keep _ _ _ cg λb hb o e=>(I8.pin (b,o) (U0 _ (U0 _ (Fd hb e)))).1,λb hb=>?_,w8⟩;obtain ⟨o,e,d⟩:=Ag (T.obj _ _ cg b hb);exact (I8.pin (b,o) (U0 _ (U0 _ (Fd hb e)))).2.1
   cases ok with
   | false=>exact again I7 q7
   | true =>
    refine Ap (he cl C fp pins s₂ H₂ _ s7 σ6 H7 _ I7 q7) λy s8 L=>AG L λv H8 I8 r8 q8=>?_;obtain ⟨ys,hy,hz,n8⟩:=Av q8;refine Ap (C7 _ s8 σ6 H8 (.ref D) [v] (.ref D) [y] (λ_ H9=>N σ6 H9) I8 rfl (.cons r8 .nil) ⟨D,ys,v,rfl,rfl,hy,hz,n8⟩) λ_ s9 L=>AG L λ_ H9 I9 _ q9=>?_;exact again I9 q9
 exact codeAny_compStart_list loop (T.self _ 0 _ _ _ aS loop)
theorem Lq {B O iter:T9}{L:List T9}{sc:Scope}{ax:List (Option Nat)}{N':List Str}{pos:Pos}{Y:TI}{g:TG}{tt:TT}{te:TE}(hc:X.calm=true)(S:BE sc X.env.scope N' X.N ax)(hi:PI X O iter Y)(hg:∀ cl C fp pins s₂ H₂,PG (A4 X N' sc cl C fp pins s₂ H₂) O g)(ht:∀ cl C fp pins s₂ H₂,EH (A4 X N' sc cl C fp pins s₂ H₂) L tt)(he:∀ cl C fp pins s₂ H₂,PE (A4 X N' sc cl C fp pins s₂ H₂) B te)(hs:∀ x,WE iter X.env x=pure x:=by intro _;rfl):PE X (.ListComp B [⟨O,iter,L,0⟩] sc pos) (Lp ax Y g tt te):=by intro pins s σ H Q I h;rw [eval_ListComp];refine Pf (use:=none) (Q:=Q) hc S hi hg ht he hs I h λD C H' s' m g1 J hn cn ln fr g2 q=>?_;exact ⟨m,hn,λh' V=>⟨.ref D,H',g1 h' V,rfl,q⟩⟩
theorem Jz {O Y iter:T9}{V:List T9}{sc:Scope}{ax:List (Option Nat)}{N':List Str}{pos rE B:Pos}{wi:TI}{g:TG}{tt:TT}{te:TE}{j:Nat}{y:Str}(hc:X.calm=true)(nd:X.N.Nodup)(hj:X.N[j]?=some y)(hy:Hk X.env.scope y)(S:BE sc X.env.scope N' X.N ax)(hi:PI X Y iter wi)(hg:∀ cl C fp pins s₂ H₂,PG (A4 X N' sc cl C fp pins s₂ H₂) Y g)(ht:∀ cl C fp pins s₂ H₂,EH (A4 X N' sc cl C fp pins s₂ H₂) V tt)(he:∀ cl C fp pins s₂ H₂,PE (A4 X N' sc cl C fp pins s₂ H₂) O te)(hsw:Xd (.ListComp O [⟨Y,iter,V,0⟩] sc pos) (some (.Name y B)) rE.line X.env=pure true)(hs:∀ x,WE iter X.env x=pure x:=by intro _;rfl)(hf:X.fn y=true\/X.env.scope.names.lookup y=some .local:=by first | exact .inl rfl | exact .inr rfl | assumption) :
  PS X (.Assign [.Name y B] (.ListComp O [⟨Y,iter,V,0⟩] sc pos) rE) (Gn (Lp ax wi g tt te) (Ez j)):=by
 intro pins s σ H D I h;rw [exec_Assign_Name_used _ _ _ _ hsw];refine Ua (Wt (Ua ?_));show T5 _ X.A (do let _ <- YS (.ListComp O [⟨Y,iter,V,0⟩] sc pos) sc X.env _ (newList []) false (Ui iter X.env) (some (V6 (.Name y B) X.env))) _ _ s;refine Ua (Ap (Pf (use:=some (V6 (.Name y B) X.env)) (Qv:=λ_ s'=>SP X pins D .next s') hc S hi hg ht he hs I h λL C H' s' m g1 J hn cn ln fr g2 q=>?_) λ_ s' hq=>Um (Um hq));show T5 _ X.A (V6 (.Name y B) X.env (.ref L)) _ _ _;refine wq (N5 J nd hj hy (v:=.ref L) rfl (λaN K aaG=>?_) hf);obtain ⟨a,hsm,ha⟩:=Ag aaG;have mV:C≠a:=by
  rcases ha with z | z
  .rw [z];exact UQ ln
  .exact UQ (cn y a z)
 exact ⟨m,hn.sameBut hsm mV,λh' hs'=>⟨_,H',g2 _ aN h' K hs',q⟩⟩
end
section
variable {X:Cx}{pins:List (Addr×Obj)}{σ:St}{H:Hp}{s:T2}{h':Heap}
theorem Ad.rF {t':Nat}{ch:List Addr}{T:Addr}{xs:List V}{us:List Value}(I:Ad X pins σ H s)(B:∀ b∈ch,De X pins H b)(k:∀ b o,b ∉ ch->s.heap.get? b=some o->h'.get? b=some o)(D:s.heap.objs.size<=T)(L:∀ b∈ch,∃ o,s.heap.get? b=some o)(O:h'.get? T=some { cls:=.type "tuple",data:=.seq us.toArray })(hv:Ay xs us)(Y:xs.length<=sizeLine):Ad X pins σ (upd H T (.tup xs)) { s with heap:=h',toks:=t' }:=by
 have hn:=I.af.fresh D;have neT:∀ b o,s.heap.get? b=some o->b≠T:=λb o e=>UB (UN (Ut e) D);have J:∀ b u,H b=some u->b ∉ ch:=λb u e z=>by rw [(B b z).1] at e;cases e
 have up:∀ b u,H b=some u->upd H T (.tup xs) b=some u:=λb u e=>by rw [Au (λz=>by rw [z,hn] at e;cases e)];exact e
 refine I.step (g':=s.gens) (d':=s.drawn) (ch:=ch) (λb hb=>⟨(B b hb).2.2.2.1,(B b hb).2.1,(B b hb).2.2.2.2.1,(B b hb).2.2.2.2.2⟩) (λb o _ _ hc e _=>k b o hc e) (λb o _ _ hc e _=>⟨o.slots,k b o hc e⟩)
  (λb o _ e n=>by rw [Au (neT b o e)];exact n) (λb o hc e=>⟨o,k b o hc e⟩) (λb ys e=>up b _ e) (λb o u e=>up b _ e) (λb ps e=>⟨#[],by rw [up b _ e];simp⟩) (λm hm=>?_) (λb u e=>?_) I.bare
 .obtain ⟨o,es,ep,ho,r⟩:=BI hm;exact ⟨o,es,ep,k _ o (λz=>(B _ z).2.1 rfl) ho,r⟩
 .by_cases hb:b=T
  .subst hb;rw [Al] at e;cases e;exact ⟨Y,us,hv,_,O,rfl,_,rfl⟩
  .rw [Au hb] at e;refine (I.af b u e).eF (λc v hc q=>k c v ?_ q) (λc q=>up c _ q) λc ys q=>up c _ q;rcases hc with z | z
   .rw [z];exact J b u e
   .exact J c _ z
noncomputable def Fl (K:T3)(a:Addr):It :=
 ⟨λi H=>∃ xs x,Bg K H a xs/\xs[i]?=some x,λi H x H'=>∃ t y,x=.ref t/\H t=none/\H'=upd H t (.tup [.int i,y])/\∀ xs,Bg K H a xs->xs[i]?=some y,λi H=>∃ xs,Bg K H a xs/\xs.length<=i⟩
theorem AcD {P:Ub}{w:T6}{K:T3}{L:List T9}{kk:Nat}{pos:Pos}(a e it:Addr)(jc:e≠it):FE P w K (.Tuple L kk pos) (Fl K a) [e,it] e (λi h=>(∃ B,V2 h e it i B)/\h.IsListIter it a i) where
 mem:=by simp
 obj:=λi h st b hb=>by
  obtain ⟨⟨B,D⟩,⟨o,V,c,d⟩⟩:=st;rcases Uo.mp hb with z | z
  .subst z;exact ⟨_,D,λv z=>by cases z⟩
  .have z:b=it:=by simpa using z
   subst z;exact ⟨o,V,λv z=>by rw [d] at z;cases z⟩
 keep:=λi h h' st k=>by
  obtain ⟨⟨B,D⟩,hi⟩:=st;exact ⟨⟨B,k e (by simp) _ D⟩,hi.at λo q=>k it (by simp) o q⟩
 item:=by
  intro X Y hw hK hc i pins s σ H E I O st hg;subst Y hw hK;obtain ⟨xs,x,hq,hx⟩:=AQ hg;obtain ⟨its,rv,p,hz⟩:=Av (I.list hq);obtain ⟨u,hu,ru⟩:=Ag (rv.get hx);obtain ⟨⟨B,D⟩,J⟩:=st;refine wpAny_pyNext_enum_item D J p.isList (x:=u) (by simpa using hu) jc λh' V mX hT hsz hk=>⟨_,rfl,?_⟩;have I1:Ad X pins σ (upd H s.heap.objs.size (.tup [.int i,x])) { s with heap:=h',toks:=s.toks+1 } :=
   I.rF (ch:=[e,it]) (us:=[.int i s.toks,u]) O (λb o hb q=>hk b o (λz=>hb (by simp [z])) (λz=>hb (by simp [z])) q) (Uq _)
    (λb hb=>by
     rcases Uo.mp hb with z | z
     .subst z;exact ⟨_,D⟩
     .have z:b=it:=by simpa using z
      subst z;obtain ⟨o,q,_⟩:=Ag J;exact ⟨o,q⟩) hT (.cons ⟨_,rfl⟩ (.cons ru .nil)) Ax
  have fr:∀ b∈[e,it],(upd H s.heap.objs.size (.tup [.int i,x])) b=none:=λb hb=>by
   have ak:b<s.heap.objs.size:=by
    rcases Uo.mp hb with z | z
    .subst z;exact Ut D
    .have z:b=it:=by simpa using z
     subst z;obtain ⟨o,q,_⟩:=Ag J;exact Ut q
   rw [Au (UB ak)];exact (O b hb).1
  refine xi V λh2 mY cH=>?_;obtain ⟨f0,f1,f2,f3,f4,f5⟩:=AD (O e (by simp));have I2:Ad X pins σ (upd H s.heap.objs.size (.tup [.int i,x])) { s with heap:=h2,toks:=s.toks+1 }:=I1.turned (t':=s.toks+1) (λb o hb q=>(cH.2 b hb).trans q) (fr e (by simp)) f1 f3 f4 f5;refine ⟨.ref s.heap.objs.size,_,I2,rfl,⟨_,x,rfl,I.fresh,rfl,λys hy=>by rw [I.qS hy hq];exact hx⟩,⟨⟨u,mY⟩,?_⟩,fr⟩;exact mX.at λo q=>(cH.2 it jc.symm).trans q
 done:=by intro X Y hw hK hc i pins s σ H E I O st hg;subst Y hw hK;obtain ⟨xs,hq,hx⟩:=Ag hg;obtain ⟨its,rv,p,hz⟩:=Av (I.list hq);obtain ⟨⟨B,D⟩,J⟩:=st;obtain ⟨f0,f1,f2,f3,f4,f5⟩:=AD (O it (by simp));have hl:=rv.length;exact wpAny_pyNext_enum_end (I.ok.hd hc) D J p.isList (by simp;omega) λh' eb=>⟨rfl,I.turned (t':=s.toks) (λb o hb q=>eb b o hb q) f0 f1 f3 f4 f5⟩
 self:=λ_ _ _ _ _ st h=>by
  obtain ⟨⟨B,D⟩,_⟩:=st;exact YT D h
theorem Pg:U9 "enumerate"=some (.type "enumerate"):=by decide +kernel
def AcE (K:T3)(ta:TA):TI:=λσ H R=>ta σ H λvs H1=>∃ a xs,vs=[.ref a]/\Bg K H1 a xs/\R (Fl K a) H1
theorem Ph {x:T9}{O:TA}{p pos tp:Pos}{J:List T9}{kk:Nat}(g:Gm X.env.scope "enumerate")(hm:X.mg "enumerate"=none)(ha:PA X [x] O)(hs:Ul [x] X.env=[(false,Ui x X.env)]:=by rfl) :
  PI X (.Tuple J kk tp) (.Call (.Name "enumerate" p) [x] [] pos) (AcE X.K O):=by
 intro pins s σ H R I h;refine Call_ (FC I g.gl hm Pg (X5 (Ap (ha pos pins s σ H _ I h) λus B zz=>AG zz λvs V D r1 q1=>?_) hs rfl));obtain ⟨a,xs,e,hq,q⟩:=AY q1;subst e;cases r1 with
 | cons r rr =>
  cases rr;cases r;obtain ⟨its,rv,pl,hz⟩:=Av (D.list hq);refine call_enumerate_list pl.isList λh' Y L hsz hk=>?_;refine YT Y ?_;have mZ:V (B.heap.objs.size+1)=none:=D.af.fresh (Vl _);refine ⟨B.heap.objs.size+1,[B.heap.objs.size+1,B.heap.objs.size],_,_,V,rfl,D.kept (t':=B.toks) hk,AcD a _ _ (Yh _),⟨⟨_,Y⟩,L⟩,λb hb=>?_,q⟩;rcases Uo.mp hb with z | z
  .subst z;exact D.fJ (Vl _) mZ
  .have z:b=B.heap.objs.size:=by simpa using z
   subst z;exact D.fJ (Uq _) D.fresh
end
noncomputable def BM (lo hi:Int):List Int:=(Vj (hi - lo).toNat).map λ(k:Nat)=>lo+(k:Int)
theorem Lr (lo B:Int):(BM lo B).length=(B - lo).toNat:=by unfold BM;rw [T7,WS]
section
variable {X:Cx}
def Sm (i:Int):Prop:=-(2 ^ 62)<=i/\i<2 ^ 62
theorem Pj {pins:List (Addr×Obj)}{σ:St}{H:Hp}{s:T2}{lo B:Int}{t u v:Tok}{tk:Nat}(I:Ad X pins σ H s) :
  Ad X pins σ (upd H s.heap.objs.size (.cE lo B)) { s with heap:=s.heap.push { cls:=.type "range",data:=.fields #[.int lo t,.int B u,.int 1 v] },toks:=tk } :=
 I.laid (λ_ _ q=>UA _ q) (Uq _) (show Bl X.prog X.w _ _ _ (.cE lo B) from ⟨t,u,v,Va _ rfl⟩)
theorem Pk:BJ X (.type "range") (λxs H Q=>(∃ j:Int,xs=[.int j]/\Sm j/\∀ p,H p=none->Q (.ref p) (upd H p (.cE 0 j)))\/∃ i j:Int,xs=[.int i,.int j]/\Sm i/\Sm j/\∀ p,H p=none->Q (.ref p) (upd H p (.cE i j))):=by
 intro pins s σ H xs D Q I r h;rcases h with ⟨j,rfl,B,q⟩ | ⟨i,j,rfl,J,B,q⟩
 .obtain ⟨u,rfl,t,rfl⟩:=Ag (CZ r);exact call_range_1 ⟨.ref s.heap.objs.size,_,Pj I,rfl,q _ I.fresh⟩
 .obtain ⟨u,L,rfl,⟨t,rfl⟩,⟨O,rfl⟩⟩:=AY (K9 r);exact call_range_2 ⟨.ref s.heap.objs.size,_,Pj I,rfl,q _ I.fresh⟩
theorem AcF {lo O:Int}{B:Array Value}(h:ItemsOf (λ(i:Nat) (v:Value)=>∃ t,v=.int (lo+(i:Int) * 1) t) B (O - lo).toNat):Ay ((BM lo O).map V.int) B.toList:=by
 obtain ⟨hs,eO⟩:=h;have I:∀(D:List Value)(n k:Nat),D.length=n->(∀ j v,D[j]?=some v->∃ t,v=Vg (lo+((k+j:Nat):Int)) t)->Ay (((List.range' k n).map λ(k:Nat)=>lo+(k:Int)).map V.int) D:=by
  intro D;induction D with
  | nil=>intro n k H _;subst H;exact .nil
  | cons u D ih =>
   intro n k H Y;obtain ⟨J,rfl⟩:∃ J,n=J+1:=⟨D.length,by rw [<- H];rfl⟩;rw [List.range'_succ,Vd,Vd];obtain ⟨t,e⟩:=Y 0 u rfl;refine .cons ⟨t,by simpa using e⟩ (ih J (k+1) (by simpa using H) λj v L=>?_);obtain ⟨t,e⟩:=Y (j+1) v (by simpa using L);exact ⟨t,by rw [e];congr 1;omega⟩
 unfold BM;rw [List.range_eq_range'];refine I B.toList _ 0 (by rw [Vt];exact hs) λj v L=>?_;obtain ⟨t,e⟩:=eO j v (by simpa using L);exact ⟨t,by rw [e];simp⟩
theorem AcG (hc:X.calm=true):BJ X (.type "list") (λxs H Q=>∃ p lo B,xs=[.ref p]/\H p=some (.cE lo B)/\Sm lo/\Sm B/\(B - lo).toNat<=sizeLine/\∀ l,H l=none->Q (.ref l) (upd H l (.lst ((BM lo B).map V.int)))):=by
 intro pins s σ H xs us Q I r h;replace h:=BZ h;obtain ⟨p,lo,B,rfl,O,⟨Y,l2⟩,⟨l3,l4⟩,L,q⟩:=h
 obtain ⟨u,rfl,rx⟩:=Ag (CZ r);cases rx;obtain ⟨t,u,v,e⟩:=I.af p _ O;have D:(B - lo).toNat<=2 ^ 24:=L;refine call_list_range (n:=(B - lo).toNat) (I.ok.hd hc) e (small_one Y l2 l3 l4) (by rw [rangeSize_one];split<;>omega) D λh' tk J c hk hl ha=>?_;refine ⟨.ref s.heap.objs.size,_,I.laid (t':=tk) hk (Uq _) (show Bl X.prog X.w _ h' _ (.lst ((BM lo B).map V.int)) from ⟨?_,J.toList,c,AcF ha,by simpa using hl⟩),rfl,q _ I.fresh⟩;rw [T7,Lr];exact L
theorem Eg (hc:X.calm=true):BJ X (.type "list") (λxs H Q=>(∃ p ys,xs=[.ref p]/\(Bg X.K H p ys\/Bt X.K H p ys)/\∀ l,H l=none->Q (.ref l) (upd H l (.lst ys))) \/
  ∃ p lo B,xs=[.ref p]/\H p=some (.cE lo B)/\Sm lo/\Sm B/\(B - lo).toNat<=sizeLine/\∀ l,H l=none->Q (.ref l) (upd H l (.lst ((BM lo B).map V.int)))):=AbK.or (AcG hc)
theorem Pl:U9 "range"=some (.type "range"):=by decide +kernel
theorem Ls {α:Type} [BEq α] [LawfulBEq α] {f:α->V}:∀{ns:List α}{us:List Value}{n:α},Ay (ns.map f) us->Ay ((ns.erase n).map f) (us.eraseIdx (ns.idxOf n))
 | [],[],_,_=>.nil
 | a :: ns,u :: us,n,.cons r t=>by
  rw [List.erase_cons,xj];cases q:a == n with
  | true=>simpa using t
  | false=>simpa using Paired.cons r (Ls t)
def AcH (X:Cx):V->List V->Hp->VK->Prop:=λx vs H Q=>(∃(l:Addr)(ns:List Int)(n:Int),x=.ref l/\vs=[.int n]/\H l=some (.lst (ns.map V.int))/\n∈ns/\Q .aa (upd H l (.lst ((ns.erase n).map V.int)))) \/
 ∃(l:Addr)(ns:List Str)(n:Str),x=.ref l/\vs=[.str n]/\H l=some (.lst (ns.map V.str))/\n∈ns/\Q .aa (upd H l (.lst ((ns.erase n).map V.str)))
theorem Lu {α:Type} [BEq α] [LawfulBEq α]:∀{ns:List α}{n a:α}{m:Nat},m<ns.idxOf n->ns[m]?=some a->(a == n)=false
 | [],_,_,_,_,e=>by simp at e
 | b :: ns,n,a,m,h,e=>by
  rw [xj] at h;cases q:b == n with
  | true=>rw [q] at h;simp at h
  | false =>
   rw [q] at h;cases m with
   | zero=>simp at e;rw [<- e];exact q
   | succ m=>exact Lu (ns:=ns) (m:=m) (by simpa using h) (by simpa using e)
theorem Lv {α:Type} [BEq α] [LawfulBEq α] {ns:List α} {n:α} (h:n∈ns):ns[ns.idxOf n]?=some n:=by have B:=ZS h;rw [Uu B,List.getElem_idxOf B]
theorem Lx {ns:List Int}{us:List Value}(r:Ay (ns.map V.int) us)(j:Nat)(h:j<us.length):∃ a t,ns[j]?=some a/\us[j]=.int a t:=by have B:=r.length;rw [T7] at B;obtain ⟨u,hu,⟨t,rfl⟩⟩:=r.get (i:=j) (x:=.int (ns[j]'(by omega))) (by rw [Uj,Uu (by omega)];rfl);rw [Uu h] at hu;exact ⟨_,t,Uu (by omega),UK hu⟩
theorem Ly {ns:List Str}{us:List Value}(r:Ay (ns.map V.str) us)(j:Nat)(h:j<us.length):∃ a t,ns[j]?=some a/\us[j]=.str a t:=by have B:=r.length;rw [T7] at B;obtain ⟨u,hu,⟨t,rfl⟩⟩:=r.get (i:=j) (x:=.str (ns[j]'(by omega))) (by rw [Uj,Uu (by omega)];rfl);rw [Uu h] at hu;exact ⟨_,t,Uu (by omega),UK hu⟩
noncomputable def Lz (n:Int):Value->Bool
 | .int a _=>a == n
 | _=>false
noncomputable def LA (n:Str):Value->Bool
 | .str a _=>a == n
 | _=>false
theorem Pn:Hy X "list.remove" (AcH X):=by
 intro pins s σ H x vs v us Q I rx rv h;rcases h with ⟨l,B,n,rfl,rfl,L,O,q⟩ | ⟨l,B,n,rfl,rfl,L,O,q⟩
 .cases rx;obtain ⟨u,rfl,t,rfl⟩:=Ag rv.one;obtain ⟨z,its,c,r,V,e⟩:=I.dO L;rw [T7] at V;have hj:B.idxOf n<B.length:=ZS O;refine WR xk ⟨_,e,rfl⟩ xl (xm _ _)
   (xn l its.toArray c (.int n t) (Lz n) (λy hy=>?_) (B.idxOf n) (by rw [UG];omega) ?_ (λm Y ak=>?_) (by rw [UG,<- V];simpa using z)) ⟨e,?_⟩
  .obtain ⟨k,hk,rfl⟩:=Wc (by simpa using hy:y∈its);obtain ⟨a,t',_,D⟩:=AQ (Lx r k hk);rw [D];exact MeetsSeq.EqGives.int _ _ _ _
  .obtain ⟨a,t',J,D⟩:=AQ (Lx r (B.idxOf n) (by omega));rw [Lv O] at J;cases J;show Lz n its[B.idxOf n]=true;rw [D];exact beq_self_eq_true n
  .obtain ⟨a,t',J,D⟩:=AQ (Lx r m (by simpa using Y));show Lz n (its[m]'(by simpa using Y))=false;rw [D];exact Lu ak J
  .refine ⟨.aa,_,I.iW (its':=its.eraseIdx (B.idxOf n)) L e (by simp [ZA]) (Ls r) ?_,rfl,q⟩;have:=ZT (a:=n) (l:=B);rw [T7] at z ⊢;omega
 .cases rx;obtain ⟨u,rfl,t,rfl⟩:=Ag rv.one;obtain ⟨z,its,c,r,V,e⟩:=I.dO L;rw [T7] at V;have hj:B.idxOf n<B.length:=ZS O;refine WR xk ⟨_,e,rfl⟩ xl (xm _ _)
   (xn l its.toArray c (.str n t) (LA n) (λy hy=>?_) (B.idxOf n) (by rw [UG];omega) ?_ (λm Y ak=>?_) (by rw [UG,<- V];simpa using z)) ⟨e,?_⟩
  .obtain ⟨k,hk,rfl⟩:=Wc (by simpa using hy:y∈its);obtain ⟨a,t',_,D⟩:=AQ (Ly r k hk);rw [D];exact eqGives_str _ _ _ _
  .obtain ⟨a,t',J,D⟩:=AQ (Ly r (B.idxOf n) (by omega));rw [Lv O] at J;cases J;show LA n its[B.idxOf n]=true;rw [D];exact beq_self_eq_true n
  .obtain ⟨a,t',J,D⟩:=AQ (Ly r m (by simpa using Y));show LA n (its[m]'(by simpa using Y))=false;rw [D];exact Lu ak J
  .refine ⟨.aa,_,I.iW (its':=its.eraseIdx (B.idxOf n)) L e (by simp [ZA]) (Ls r) ?_,rfl,q⟩;have:=ZT (a:=n) (l:=B);rw [T7] at z ⊢;omega
end
def A2 (P:Ub)(w:T6)(K:T3)(mg:Str->Option Value)(base:Heap)(CX:B0)(k:Nat)(C:Addr)(m:Str)(ps:List Str)(sp:Sp):Prop :=
 ∃ f fd,Je K C m f/\Dg K fd ps []/\AF P w K mg base CX k f fd ps sp
def Fm (P:Ub)(w:T6)(K:T3)(mg:Str->Option Value)(base:Heap)(CX:B0)(k:Nat)(C:Addr)(x:Str)(ps:List Str)(sp:Sp):Prop :=
 ∃ f fd,mg x=some (.ref C)/\Mk K C f/\Dg K fd ps []/\AF P w K mg base CX k f fd ps sp
section
variable {X:Cx}{CX:B0}{k:Nat}{C:Addr}{ps:List Str}{sp:Sp}{E:XK}{x m:Str}{p pos apos:Pos}{e o:T9}{es:List T9}{ta:TE}{t:TA}{W:St->XK}
theorem Bs {pl:Sem Bool}(D:A2 X.prog X.w X.K X.mg X.base CX k C m ps sp)(c:CB X.K C)(I:PE X o ta)(J:Bu k X.A)(hx:CT CX X E)(L:PA X (e :: es) t)(O:Ul (e :: es) X.env=(false,Ui e X.env) :: Ul es X.env:=by rfl)(V:(UP pos (Ul es X.env)).any (·.1)=false:=by rfl)(Y:Ui (.Call (.Attribute o m apos) (e :: es) [] pos) X.env=(Ui o X.env >>= λB=>VC apos.atName >>= λ_=>Vs [B] (Wg B m pl) >>= λH=>WL pos H.1 H.2 (UP pos (Ul (e :: es) X.env)) (V7 pos (V8 [] X.env))):=by rfl) :
  PE X (.Call (.Attribute o m apos) (e :: es) [] pos) (Jg C m sp [] E ta t):=by
 obtain ⟨f,fd,hm,hb,F⟩:=AY D;exact Abl (pl:=pl) I c hm F J hb .nil hx L O V Y
theorem HL {pl:Sem Bool}(D:A2 X.prog X.w X.K X.mg X.base CX k C m ps sp)(c:CB X.K C)(I:PE X o ta)(J:Bu k X.A)(hx:CT CX X E)(L:Ui (.Call (.Attribute o m apos) [] [] pos) X.env=(Ui o X.env >>= λB=>VC apos.atName >>= λ_=>Vs [B] (Wg B m pl) >>= λH=>WL pos H.1 H.2 (UP pos (Ul [] X.env)) (V7 pos (V8 [] X.env))):=by rfl) :
  PE X (.Call (.Attribute o m apos) [] [] pos) (Jg C m sp [] E ta Cd):=by
 obtain ⟨f,V,O,hb,F⟩:=AY D;exact Abm (pl:=pl) I c O F J hb .nil hx L
def AcI (C:Addr)(m:Str)(sp:Sp)(W:St->XK)(ta:TE)(t:TA):TE:=λσ H Q=>ta σ H λx H1=>∃ a dx fs,x=.ref a/\H1 a=some (.ins C dx fs)/\fs.lookup m=none/\t σ H1 λvs H2=>sp (x :: vs) H2 Q (W σ)
theorem AcJ {f:Addr}{fd:Uk}{pins:List (Addr×Obj)}{σ:St}{H:Hp}{s:T2}{Q:VK}{us:List Value}{vs:List V}(F:AF X.prog X.w X.K X.mg X.base CX k f fd ps sp)(B:Bu k X.A)(hb:Dg X.K fd ps [])(hx:Jp CX X W)(I:Ad X pins σ H s)(r:Ay vs us)(h:sp vs H Q (W σ)):T5 (T8 X.prog X.w) X.A (call (.ref f) us) (EP X pins σ Q) X.xe s:=by
 have D:(us++[]).length=ps.length:=by rw [Vu,<- r.length];exact F.len _ _ _ _ h
 refine YA (Xm (F.run X.A X.stack s H ⟨us,[]⟩ us vs Q (W σ) B I.mI (by simpa using hb s us I.aJ D) r h) λr J hq=>?_);match r,hq with
 | .error e,hq=>exact hx pins σ H s e J I hq
 | .ok (.ret u),hq=>exact I.after hq
theorem AcK {pl:Sem Bool}(D:A2 X.prog X.w X.K X.mg X.base CX k C m ps sp)(c:CB X.K C)(he:PE X o ta)(hr:Bu k X.A)(hx:Jp CX X W)(ha:PA X (e :: es) t)(aL:Ul (e :: es) X.env=(false,Ui e X.env) :: Ul es X.env:=by rfl)(aT:(UP pos (Ul es X.env)).any (·.1)=false:=by rfl)(ht:Ui (.Call (.Attribute o m apos) (e :: es) [] pos) X.env=(Ui o X.env >>= λJ=>VC apos.atName >>= λ_=>Vs [J] (Wg J m pl) >>= λL=>WL pos L.1 L.2 (UP pos (Ul (e :: es) X.env)) (V7 pos (V8 [] X.env))):=by rfl) :
  PE X (.Call (.Attribute o m apos) (e :: es) [] pos) (AcI C m sp W ta t):=by
 obtain ⟨f,fd,O,hb,F⟩:=AY D;intro pins s σ H Q I h;refine XB (pl:=pl) (Ap (he pins s σ H _ I h) λu s1 B=>AG B λx H1 V rx ⟨a,dx,fs,ex,ea,l,q⟩=>?_) ht;subst ex;cases rx;refine Ht V ea c O l (XA (first:=[.ref a]) (h₀:=X.base) I.ok.mod.eJ O.kp (Ap (ha pos pins s1 σ H1 _ V q) λY s2 B=>AG B λvs H2 I2 r q2=>⟨I2.aJ,?_⟩) aL aT);exact AcJ (us:=.ref a :: Y) (vs:=.ref a :: vs) F hr hb hx I2 (.cons rfl r) q2
theorem HM (D:Fm X.prog X.w X.K X.mg X.base CX k C x ps sp)(g:Gm X.env.scope x)(B:Bu (k+1) X.A)(hx:CT CX X E)(H:PA X (e :: es) t)(I:Ul (e :: es) X.env=(false,Ui e X.env) :: Ul es X.env:=by rfl)(J:(UP pos (Ul es X.env)).any (·.1)=false:=by rfl) :
  PE X (.Call (.Name x p) (e :: es) [] pos) (OH C sp [] E t):=by
 obtain ⟨f,O,L,M,hb,F⟩:=AY D;exact Abo M F B g.gl L hb .nil hx H g.db I J
end
structure EI (sc:Scope)(x:Str):Prop where
 loc:sc.names.lookup x=some .cell
 db:(x == ("__debug__":Str))=false
 cd:(x == ("__classdict__":Str))=false
structure Po (sc:Scope)(x:Str):Prop where
 loc:sc.names.lookup x=some .cell\/sc.names.lookup x=some .free
 db:(x == ("__debug__":Str))=false
 cd:(x == ("__classdict__":Str))=false
section
variable {X:Cx}{x:Str}{pos p:Pos}
theorem BW (i:Nat)(n:EI X.env.scope x)(B:X.N[i]?=some x:=by rfl):PE X (.Name x pos) (IV i):=K0 B (Ue (Uh n.loc)) n.db n.cd
theorem Fn (i:Nat)(n:Po X.env.scope x)(B:X.N[i]?=some x:=by rfl):PE X (.Name x pos) (IV i):=K0 B (Ue n.loc) n.db n.cd
theorem AcL (i:Nat)(B:X.N.Nodup)(n:EI X.env.scope x)(D:X.fn x=true:=by rfl)(H:X.N[i]?=some x:=by rfl):PG X (.Name x pos) (Ez i):=Oa B H (Ue n.loc) (Uh D)
theorem HN (i:Nat){e:T9}{D:TE}{B:Pos}(H:X.N.Nodup)(n:EI X.env.scope x)(I:PE X e D)(J:X.fn x=true:=by rfl)(L:X.N[i]?=some x:=by rfl)(hs:Xd e (some (.Name x B)) pos.line X.env=pure false:=by rfl) :
  PS X (.Assign [.Name x B] e pos) (Gn D (Ez i)):=Oc H L (Ue n.loc) I hs (Uh J)
theorem Nm.comp {sc:Scope}{env:Env}(n:Nm sc x):Nm (Wb sc env) x:=⟨Pe n.loc rfl,n.db,n.cd⟩
theorem Gm.comp {sc:Scope}{env:Env}(n:Gm sc x):Gm (Wb sc env) x:=⟨Pe n.gl rfl,n.db,n.nn⟩
structure EJ (sc:Scope)(x:Str):Prop where
 loc:sc.names.lookup x=some .free
 db:(x == ("__debug__":Str))=false
 cd:(x == ("__classdict__":Str))=false
theorem EJ.comp {sc:Scope}{env:Env}(n:EJ sc x):Po (Wb sc env) x:=⟨Jy n.loc,n.db,n.cd⟩
end
section
variable {X:Cx}
theorem JA:Od X (λo i H Q=>∃ p xs k v,o=.ref p/\i=.int k/\0<=k/\Bg X.K H p xs/\Cu xs k=some v/\Q v H):=by
 intro pins s σ H o i ov iv Q I J L h;replace h:=Dd h;obtain ⟨p,xs,k,z,rfl,rfl,B,hq,O,q⟩:=h
 cases J;obtain ⟨t,rfl⟩:=L;obtain ⟨its,r,pl,hz⟩:=Av (I.list hq);obtain ⟨j,D,V,h3,h4,Y⟩:=Av (Ji O);obtain ⟨w,ew,bp⟩:=Ag (r.get V);have hn:=Ff;have hj:k.toNat=j:=by rw [YE B Y] at D;exact UK D
 exact wpAny_getItem_list pl.isList B (by omega) (by rw [hj];simpa using ew) ⟨z,H,I,bp,q⟩
theorem LB:BJ X (.type "int") (λxs H Q=>(∃ k,xs=[.bl k]/\Q (.int (if k then 1 else 0)) H)\/(∃ i,xs=[.int i]/\Q (.int i) H)\/∃ z n,xs=[.str z]/\ZL z=some n/\z.length<=640/\Q (.int n) H):=by
 intro pins s σ H xs B Q I r h;rcases h with h | h | h
 .exact OD pins s σ H xs B Q I r (.inr h)
 .exact OD pins s σ H xs B Q I r (.inl h)
 .exact Acp pins s σ H xs B Q I r h
theorem BE.mk' {sc D:Scope}{B N:List Str}{H:List (Option Nat)}(I:sc.kind=.function)(J:∀ y∈sc.names,y.2≠.cell)(h3:∀ y∈sc.names,y.2=.local->sc.names.lookup y.1=some .local)(L:∀ y∈sc.names,y.2=.free->D.names.lookup y.1=some .cell\/D.names.lookup y.1=some .free)(O:B.Nodup)(V:H.length=B.length)(Y:∀ p∈H.zip B,∀ j∈p.1,N[j]?=some p.2/\sc.names.lookup p.2=some .free/\(D.names.lookup p.2=some .cell\/D.names.lookup p.2=some .free)):BE sc D B N H :=
 ⟨I,J,h3,L,O,V,λi j e=>by
  have hi:i<H.length:=(US.mp e).1;obtain ⟨x,hx⟩:∃ x,B[i]?=some x:=⟨B[i]'(by omega),Uu (by omega)⟩;have hz:(H.zip B)[i]?=some (some j,x):=by rw [List.getElem?_zip_eq_some];exact ⟨e,hx⟩
  obtain ⟨a,b,c⟩:=Y _ (Uw hz) j rfl;exact ⟨x,hx,a,b,c⟩⟩
theorem AcM:∀ n:Nat,n<1001->(Ud (toString (n:Int))).length<=10:=by decide +kernel
theorem HP {e:T9}{J:TE}{pos:Pos}(O:PE X e J):PE X (.FormattedValue e (-1) none pos) (λσ H Q=>J σ H λx B=>(∃ i:Int,x=.int i/\0<=i/\i<=1000/\∀ z:Str,z.length<=10->Q (.str z) B)\/∃ z,x=.str z/\z.length<=sizeLine/\Q (.str z) B):=by
 intro pins s σ H Q I h;refine wpAny_FormattedValue_plain (Ap (O pins s σ H _ I h) λv s1 V=>AG V λx B D L Y=>?_);rcases Y with ⟨i,rfl,h0,h1,q⟩ | ⟨z,rfl,hz,q⟩
 .obtain ⟨t,rfl⟩:=L;obtain ⟨n,rfl⟩:=Yj h0;have hn:n<1001:=by omega
  refine wpAny_formatField_int ?_ ⟨.str _,B,D.tok _,⟨_,rfl⟩,q _ (AcM n hn)⟩;have:(n:Int).natAbs=n:=rfl;rw [this];exact U5 (Nat.log2_le_self n) (by omega)
 .obtain ⟨t,rfl⟩:=L;exact xh ⟨.str _,B,D,⟨_,rfl⟩,q⟩ ⟨.str _,B,D.tok _,⟨_,rfl⟩,q⟩ hz
end
section
variable {K:T3}{a D:Addr}{xs:List V}{g:TG}{tt:TT}{te:TE}{σ0:St}{H:Hp}{Q:Hp->Prop}
abbrev JB (D:Addr)(tt:TT)(te:TE)(N:St->Hp->Prop):St->Hp->Prop:=λσ3 H3=>tt σ3 H3 λb H4 =>
 if b=true then te σ3 H4 λv H5=>∃ ys,H5 D=some (.lst ys)/\ys.length<sizeLine/\N σ3 (upd H5 D (.lst (ys++[v]))) else N σ3 H4
theorem AcN (Pv:Nat->St->Hp->Prop)(h0:Pv 0 σ0 (upd H D (.lst [])))(hl:∀ i σ H,i<=xs.length->Pv i σ H->Bg K H a xs)(hs:∀ i x t σ B,xs[i]?=some x->Pv i σ B->B t=none->g (.ref t) σ (upd B t (.tup [.int i,x])) (JB D tt te (Pv (i+1))))(hd:∀ σ B,Pv xs.length σ B->Q B) :
  ∃ W:Nat->Nat->St->Hp->Prop,(∃ m,W 0 m σ0 (upd H D (.lst [])))/\∀ i m σ' B,W i m σ' B ->
   ((Fl K a).stop i B/\Q B)\/((Fl K a).go i B/\∃ N:St->Hp->Prop,(∀ σ2 I,N σ2 I->∃ m',m'<m/\W (i+1) m' σ2 I)/\∀ x I,(Fl K a).bY i B x I->g x σ' I λσ3 H3=>tt σ3 H3 λb L =>
    if b=true then te σ3 L λv O=>∃ ys,O D=some (.lst ys)/\ys.length<sizeLine/\N σ3 (upd O D (.lst (ys++[v]))) else N σ3 L):=by
 refine ⟨λi m σ H=>m=xs.length - i/\i<=xs.length/\Pv i σ H,⟨xs.length,by simp,U1 _,h0⟩,?_⟩;rintro i m σ J ⟨rfl,hi,p⟩;have q:=hl i σ J hi p;by_cases Y:i<xs.length
 .refine .inr ⟨⟨xs,xs[i],q,by simp [Y]⟩,Pv (i+1),λσ' B p'=>⟨xs.length - (i+1),by omega,rfl,Y,p'⟩,λx B y=>?_⟩;replace y:=AY y;obtain ⟨t,y,rfl,ht,rfl,hy⟩:=y
  exact hs i y t σ J (hy xs q) p ht
 .have e:i=xs.length:=by omega
  subst e;exact .inl ⟨⟨xs,q,Uq _⟩,hd σ J p⟩
theorem LC (Pv:Nat->St->Hp->Prop)(h0:Pv 0 σ0 (upd H D (.lst [])))(hl:∀ i σ H,i<=xs.length->Pv i σ H->Bg K H a xs)(hs:∀ i x σ B,xs[i]?=some x->Pv i σ B->g x σ B (JB D tt te (Pv (i+1))))(hd:∀ σ B,Pv xs.length σ B->Q B) :
  ∃ W:Nat->Nat->St->Hp->Prop,(∃ m,W 0 m σ0 (upd H D (.lst [])))/\∀ i m σ' B,W i m σ' B ->
   ((DV K a).stop i B/\Q B)\/((DV K a).go i B/\∃ N:St->Hp->Prop,(∀ σ2 I,N σ2 I->∃ m',m'<m/\W (i+1) m' σ2 I)/\∀ x I,(DV K a).bY i B x I->g x σ' I λσ3 H3=>tt σ3 H3 λb J =>
    if b=true then te σ3 J λv L=>∃ ys,L D=some (.lst ys)/\ys.length<sizeLine/\N σ3 (upd L D (.lst (ys++[v]))) else N σ3 J):=by
 refine ⟨λi m σ H=>m=xs.length - i/\i<=xs.length/\Pv i σ H,⟨xs.length,by simp,U1 _,h0⟩,?_⟩;rintro i m σ O ⟨rfl,hi,p⟩;have q:=hl i σ O hi p;by_cases Y:i<xs.length
 .refine .inr ⟨⟨xs,xs[i],q,by simp [Y]⟩,Pv (i+1),λσ' B p'=>⟨xs.length - (i+1),by omega,rfl,Y,p'⟩,λx B y=>?_⟩;obtain ⟨rfl,hy⟩:=y;exact hs i x σ _ (hy xs q) p
 .have e:i=xs.length:=by omega
  subst e;exact .inl ⟨⟨xs,q,Uq _⟩,hd σ O p⟩
theorem Pp {lo:Int}{n:Nat}(Pv:Nat->St->Hp->Prop)(Y:Pv 0 σ0 (upd H D (.lst [])))(hs:∀ i σ B,i<n->Pv i σ B->g (.int (lo+i)) σ B (JB D tt te (Pv (i+1))))(hd:∀ σ B,Pv n σ B->Q B) :
  ∃ W:Nat->Nat->St->Hp->Prop,(∃ m,W 0 m σ0 (upd H D (.lst [])))/\∀ i m σ' B,W i m σ' B ->
   ((Eb lo n).stop i B/\Q B)\/((Eb lo n).go i B/\∃ N:St->Hp->Prop,(∀ σ2 I,N σ2 I->∃ m',m'<m/\W (i+1) m' σ2 I)/\∀ x I,(Eb lo n).bY i B x I->g x σ' I λσ3 H3=>tt σ3 H3 λb L =>
    if b=true then te σ3 L λv O=>∃ ys,O D=some (.lst ys)/\ys.length<sizeLine/\N σ3 (upd O D (.lst (ys++[v]))) else N σ3 L):=by
 refine ⟨λi m σ H=>m=n - i/\i<=n/\Pv i σ H,⟨n,by simp,U1 _,Y⟩,?_⟩;rintro i m σ H1 ⟨rfl,hi,p⟩;by_cases J:i<n
 .refine .inr ⟨J,Pv (i+1),λσ' B p'=>⟨n - (i+1),by omega,rfl,J,p'⟩,λx B y=>?_⟩;obtain ⟨rfl,rfl⟩:=y;exact hs i σ _ J p
 .have e:i=n:=by omega
  subst e;exact .inl ⟨Uq _,hd σ H1 p⟩
theorem AcO {L:TS}{E:DI}{σ:St}(Pv:Nat->St->Hp->Prop)(Y:Pv 0 σ H)(hl:∀ i σ H,i<=xs.length->Pv i σ H->Bg K H a xs)(hs:∀ i x t σ H,xs[i]?=some x->Pv i σ H->H t=none->g (.ref t) σ (upd H t (.tup [.int i,x])) λσ2 I=>L { E with nx:=Pv (i+1),ct:=Pv (i+1),bk:=E.nx } σ2 I)(hd:∀ σ H,Pv xs.length σ H->E.nx σ H) :
  ∃ W:Nat->Nat->St->Hp->Prop,(∃ m,W 0 m σ H)/\∀ i m σ H,W i m σ H ->
   ((Fl K a).stop i H/\E.nx σ H)\/((Fl K a).go i H/\∃ N:St->Hp->Prop,(∀ σ' B,N σ' B->∃ m',m'<m/\W (i+1) m' σ' B)/\∀ x B,(Fl K a).bY i H x B->g x σ B λσ2 I=>L { E with nx:=N,ct:=N,bk:=E.nx } σ2 I):=by
 refine ⟨λi m σ H=>m=xs.length - i/\i<=xs.length/\Pv i σ H,⟨xs.length,by simp,U1 _,Y⟩,?_⟩;rintro i m σ J ⟨rfl,hi,p⟩;have q:=hl i σ J hi p;by_cases O:i<xs.length
 .refine .inr ⟨⟨xs,xs[i],q,by simp [O]⟩,Pv (i+1),λσ' B p'=>⟨xs.length - (i+1),by omega,rfl,O,p'⟩,λx B y=>?_⟩;replace y:=AY y;obtain ⟨t,y,rfl,ht,rfl,hy⟩:=y
  exact hs i y t σ J (hy xs q) p ht
 .have e:i=xs.length:=by omega
  subst e;exact .inl ⟨⟨xs,q,Uq _⟩,hd σ J p⟩
end
section
variable {X:Cx}(K:T3)(h:X.K=K)
include h
theorem AcP:Ed X (OT K):=h▸AL
theorem Pq:EB X (λx lo B H Q=>Lf x lo B H Q\/Lb K x lo B H Q):=h▸Js
theorem JC (n:Nat){es:List T9}{k:Nat}{pos:Pos}{t:E9}(hc:X.calm=true)(B:Ho X es t)(D:(WD es X.env).length=n)(H:(WD es X.env).findIdx? (·.1)=none):PG X (.Tuple es k pos) (Ob K n t):=h▸Fb hc B D H
theorem AcQ:Bf X (UW .In) (λx y H Q=>(∃ i j,x=.str i/\y=.str j/\Q (.bl (FP i j)) H)\/Gv K false x y H Q):=h▸HI
theorem AcR:Bf X (UW .NotIn) (λx y H Q=>(∃ i j,x=.str i/\y=.str j/\Q (.bl (!FP i j)) H)\/Gv K true x y H Q):=h▸Jr
end
section
variable {κ:Type} [DecidableEq κ]
noncomputable def AS (kvs:List (κ×V))(k:κ):Option V:=(kvs.find? λkv=>decide (kv.1=k)).map (·.2)
noncomputable def AX (kvs:List (κ×V))(k:κ)(v:V):List (κ×V) :=
 if (kvs.any λkv=>decide (kv.1=k))=true then kvs.map (λkv=>if kv.1=k then (kv.1,v) else kv) else kvs++[(k,v)]
theorem Eh {p:κ×V}{r:List (κ×V)}{k:κ}(e:p.1=k):AS (p :: r) k=some p.2:=by simp [AS,Wd,e]
theorem DD {p:κ×V}{r:List (κ×V)}{k:κ}(e:¬ p.1=k):AS (p :: r) k=AS r k:=by simp [AS,Wd,e]
theorem HQ (k:κ):∀ kvs:List (κ×V),(kvs.any λkv=>decide (kv.1=k))=(AS kvs k).isSome
 | []=>rfl
 | p :: r=>by
  rw [Yb];by_cases e:p.1=k
  .simp only [Eh e,decide_eq_true e,Bool.true_or,Option.isSome_some]
  .rw [DD e,decide_eq_false e,Bool.false_or];exact HQ k r
theorem JD (k j:κ)(y:V):∀ kvs:List (κ×V),AS kvs k=none->AS (kvs++[(k,y)]) j=if j=k then some y else AS kvs j
 | [],_=>by
  by_cases e:k=j
  .rw [if_pos e.symm];exact Eh (p:=(k,y)) e
  .rw [if_neg (λz=>e z.symm)];exact DD (p:=(k,y)) e
 | p :: r,hn=>by
  rw [WY];have hk:¬ p.1=k:=λz=>by rw [Eh z] at hn;cases hn
  rw [DD hk] at hn;have ih:=JD k j y r hn;by_cases e:p.1=j
  .rw [Eh e,Eh e,if_neg (λz=>hk (e.trans z))]
  .rw [DD e,DD e,ih]
theorem JE (kvs:List (κ×V))(k:κ)(v:V):(AX kvs k v).length<=kvs.length+1:=by
 unfold AX;split
 .rw [T7];omega
 .rw [U2,Vf,ZU];omega
theorem GB {kvs:List (κ×V)}{k:κ}(v:V)(h:AS kvs k=none):AX kvs k v=kvs++[(k,v)]:=by unfold AX;rw [HQ,h];exact if_neg (by decide)
theorem CH.rG {o:Option V}{u:Option Value}(r:CH o u):o.isSome=u.isSome:=by
 cases o with
 | none=>cases u with
  | none=>rfl
  | some _=>exact (show False from r).elim
 | some _=>cases u with
  | none=>exact (show False from r).elim
  | some _=>rfl
theorem CH.getD {o:Option V}{u:Option Value}{d:V}{d':Value}(r:CH o u)(B:AE d d'):AE (o.getD d) (u.getD d'):=by
 cases o with
 | none=>cases u with
  | none=>exact B
  | some _=>exact (show False from r).elim
 | some _=>cases u with
  | none=>exact (show False from r).elim
  | some _=>exact r
theorem KV.val {kvs:List (κ×V)}{vs:List (κ×Value)}(r:KV kvs vs)(k:κ):CH (AS kvs k) (WZ vs k):=by
 unfold KV at r;induction r with
 | nil=>exact VE
 | @cons p q I qs h t ih =>
  obtain ⟨D,H⟩:=h;by_cases e:p.1=k
  .have B:q.1=k:=D.symm.trans e;have b:WZ (q :: qs) k=some q.2:=by simp [WZ,Wd,B]
   rw [Eh e,b];exact H
  .have B:¬ q.1=k:=λz=>e (D.trans z);have b:WZ (q :: qs) k=WZ qs k:=by simp [WZ,Wd,B]
   rw [DD e,b];exact ih
theorem KV.any {kvs:List (κ×V)}{vs:List (κ×Value)}(r:KV kvs vs)(k:κ):(kvs.any λkv=>decide (kv.1=k))=vs.any λkv=>decide (kv.1=k):=by
 unfold KV at r;induction r with
 | nil=>rfl
 | cons h t ih=>rw [Yb,Yb,ih,h.1]
theorem KV.m4 {kvs:List (κ×V)}{vs:List (κ×Value)}(r:KV kvs vs)(k:κ){y:V}{u:Value}(D:AE y u) :
  KV (kvs.map λkv=>if kv.1=k then (kv.1,y) else kv) (vs.map λkv=>if kv.1=k then (kv.1,u) else kv):=by
 unfold KV at r ⊢;induction r with
 | nil=>exact .nil
 | @cons p q I qs h t ih =>
  rw [Vd,Vd];refine .cons ?_ ih;obtain ⟨B,H⟩:=h;by_cases e:p.1=k
  .rw [if_pos e,if_pos (B.symm.trans e)];exact ⟨B,D⟩
  .rw [if_neg e,if_neg (λz=>e (B.trans z))];exact ⟨B,H⟩
theorem KV.put {kvs:List (κ×V)}{vs:List (κ×Value)}(r:KV kvs vs)(k:κ){y:V}{u:Value}(B:AE y u):KV (AX kvs k y) (stored vs k u):=by
 unfold AX stored;rw [r.any k];by_cases e:(vs.any λkv=>decide (kv.1=k))=true
 .rw [if_pos e,if_pos e];exact r.m4 k B
 .rw [if_neg e,if_neg e];exact Paired.snoc r ⟨rfl,B⟩
theorem KV.keys {kvs:List (κ×V)}{vs:List (κ×Value)}(r:KV kvs vs):kvs.map (·.1)=vs.map (·.1):=by
 unfold KV at r;induction r with
 | nil=>rfl
 | cons h t ih=>rw [Vd,Vd,ih,h.1]
theorem KV.length {kvs:List (κ×V)}{vs:List (κ×Value)}(r:KV kvs vs):kvs.length=vs.length:=Paired.length r
end
theorem Fo {P:Ub}{w:T6}{k:Ar}{u:Value}(r:AE (kV k) u):(Bv P w).is k u=true:=by
 cases k with
 | inl i=>obtain ⟨t,e⟩:=(show ∃ t,u=Vg i t from r);subst e;exact Aah P w i t
 | inr x=>obtain ⟨t,e⟩:=(show ∃ t,u=Vc x t from r);subst e;exact Gi P w x t
theorem Pt {P:Ub}{w:T6}:∀{ks:List Ar}{us:List Value},Ay (ks.map kV) us->ItemsAre (Bv P w) ks us
 | [],_,r=>by rw [XD] at r;cases r;exact .nil
 | k :: ks,_,r=>by
  rw [Vd] at r;cases r with
  | cons h t=>exact .cons (Fo h) (Pt t)
abbrev KT (H:Hp):List (List Ar×V)->List (List Ar×Addr×Value)->Prop:=Paired λp q=>p.1=q.1/\H q.2.1=some (.tup (p.1.map kV))/\AE p.2 q.2.2
theorem KT.val {H:Hp}{kvs:List (List Ar×V)}{xs:List (List Ar×Addr×Value)}(r:KT H kvs xs)(k:List Ar):CH (AS kvs k) ((Wx xs k).map (·.2)):=by
 induction r with
 | nil=>exact VE
 | @cons p q J qs h t ih =>
  obtain ⟨D,_,I⟩:=AD h;by_cases e:p.1=k
  .have B:q.1=k:=D.symm.trans e;have b:Wx (q :: qs) k=some q.2:=by simp [Wx,Wd,B]
   rw [Eh e,b];exact I
  .have B:¬ q.1=k:=λz=>e (D.trans z);have b:Wx (q :: qs) k=Wx qs k:=by simp [Wx,Wd,B]
   rw [DD e,b];exact ih
theorem KT.m4 {H:Hp}{kvs:List (List Ar×V)}{xs:List (List Ar×Addr×Value)}(r:KT H kvs xs)(k:List Ar){y:V}{u:Value}(I:AE y u) :
  KT H (kvs.map λkv=>if kv.1=k then (kv.1,y) else kv) (xs.map (putAt k u)):=by
 induction r with
 | nil=>exact .nil
 | @cons p q J qs h t ih =>
  rw [Vd,Vd];refine .cons ?_ ih;obtain ⟨B,D,h3⟩:=AD h;unfold putAt;by_cases e:p.1=k
  .rw [if_pos e,if_pos (B.symm.trans e)];exact ⟨B,D,I⟩
  .rw [if_neg e,if_neg (λz=>e (B.trans z))];exact ⟨B,D,h3⟩
theorem KT.put {H:Hp}{kvs:List (List Ar×V)}{xs:List (List Ar×Addr×Value)}(r:KT H kvs xs)(k:List Ar){b:Addr}{y:V}{u:Value}(hb:H b=some (.tup (k.map kV)))(B:AE y u) :
  KT H (AX kvs k y) (storedH xs k b u):=by
 have e:(kvs.any λkv=>decide (kv.1=k))=(Wx xs k).isSome:=by rw [HQ,(r.val k).rG,Option.isSome_map]
 unfold AX storedH;rw [e];by_cases q:(Wx xs k).isSome=true
 .rw [if_pos q,if_pos q];exact r.m4 k B
 .rw [if_neg q,if_neg q];exact Paired.snoc r ⟨rfl,hb,B⟩
theorem KT.keeps {H B:Hp}{kvs:List (List Ar×V)}{xs:List (List Ar×Addr×Value)}(r:KT H kvs xs)(D:∀ b ys,H b=some (.tup ys)->B b=some (.tup ys)):KT B kvs xs :=
 Paired.mj r λ_ _ z=>⟨z.1,D _ _ z.2.1,z.2.2⟩
section
variable {P:Ub}{w:T6}{H:Hp}{h:Heap}{a:Addr}
theorem Pu {u:HO}(ok:AV P w H h)(e:Rd H a u):Bl P w H h a u:=e.ok ok
theorem HR {kvs:List (Ar×V)}(ok:AV P w H h)(e:Rd H a (.dK kvs)):kvs.length<=sizeLine/\(a == Vq)=false/\∃ vs,KV kvs vs/\h.DictOf (Bv P w) a vs :=
 show Bl P w H h a (.dK kvs) from Pu ok e
theorem LD {kvs:List (Ar×V)}(ok:AV P w H h)(e:H a=some (.dK kvs)):kvs.length<=sizeLine/\(a == Vq)=false/\∃ vs,KV kvs vs/\h.DictOf (Bv P w) a vs:=HR ok (.inl e)
theorem JF {ks:List Ar}(ok:AV P w H h)(e:H a=some (.tup (ks.map kV))):(Xw (Bv P w)).is h ks a:=by obtain ⟨_,its,r,o,B,D,n,h3⟩:=(show Bl P w H h a (.tup (ks.map kV)) from ok a _ e);exact ⟨o,its.toArray,n,B,D,h3,by simpa using Pt r⟩
theorem JG {kvs:List (List Ar×V)}(ok:AV P w H h)(e:Rd H a (.dT kvs)):kvs.length<=sizeLine/\(a == Vq)=false /\
  ∃ xs,KT H kvs xs/\h.DictOfH (Xw (Bv P w)) a xs:=by
 obtain ⟨z,y,xs,r,o,es,B,D,I,h3,J,L⟩:=AD ((show Bl P w H h a (.dT kvs) from Pu ok e));refine ⟨z,y,xs,r,o,es,B,D,I,h3,J,λx hx=>?_,L⟩;have all:∀{l:List (List Ar×V)}{m:List (List Ar×Addr×Value)},KT H l m->∀ x∈m,(Xw (Bv P w)).is h x.1 x.2.1:=by
  intro l m q;induction q with
  | nil=>intro x hx;exact nomatch hx
  | @cons p q O qs hq t ih =>
   intro x hx;rcases Uo.mp hx with e | hx
   .subst e;exact JF ok (by rw [<- hq.1];exact hq.2.1)
   .exact ih x hx
 exact all r x hx
theorem AcS {kvs:List (List Ar×V)}(ok:AV P w H h)(e:H a=some (.dT kvs)):kvs.length<=sizeLine/\(a == Vq)=false /\
  ∃ xs,KT H kvs xs/\h.DictOfH (Xw (Bv P w)) a xs:=JG ok (.inl e)
end
def GC (H:Hp)(a:Addr)(y:V)(r:Option V):Prop :=
 (∃ kvs k,Rd H a (.dK kvs)/\y=kV k/\r=AS kvs k)\/∃ kvs k b,Rd H a (.dT kvs)/\y=.ref b/\H b=some (.tup (k.map kV))/\r=AS kvs k
def HS (H:Hp)(a:Addr)(y v:V)(H':Hp):Prop :=
 (∃ kvs k,H a=some (.dK kvs)/\y=kV k/\kvs.length<sizeLine/\H'=upd H a (.dK (AX kvs k v))) \/
 ∃ kvs k b,H a=some (.dT kvs)/\y=.ref b/\H b=some (.tup (k.map kV))/\kvs.length<sizeLine/\H'=upd H a (.dT (AX kvs k v))
theorem GC.k {H:Hp}{a:Addr}{kvs:List (Ar×V)}{k:Ar}(e:H a=some (.dK kvs)):GC H a (kV k) (AS kvs k):=.inl ⟨kvs,k,.inl e,rfl,rfl⟩
theorem HS.k {H:Hp}{a:Addr}{kvs:List (Ar×V)}{k:Ar}{v:V}(e:H a=some (.dK kvs))(B:kvs.length<sizeLine):HS H a (kV k) v (upd H a (.dK (AX kvs k v))):=.inl ⟨kvs,k,e,rfl,B,rfl⟩
section
variable {X:Cx}{pins:List (Addr×Obj)}{σ:St}{H:Hp}{s:T2}{a:Addr}{y v:V}{u r:Value}{o:Option V}{A:Us}{E:Value->T2->Prop}
theorem Ad.big (I:Ad X pins σ H s):Vq<s.heap.objs.size:=by have h:Ux<s.heap.objs.size:=(I.mod.glob.keeps I.bk).lt;exact Nat.lt_trans (by decide) h
theorem AcT {Q:Value->T2->Prop}(hu:A.units+1<cLine)(I:Ad X pins σ H s)(g:GC H a y (some v))(ry:AE y u)(h:∀ D s',Ad X pins σ H s'->AE v D->Q D s') :
  T5 (T8 X.prog X.w) A (Xe (.ref a) u) Q E s:=by
 rcases g with ⟨J,k,e,L,l⟩ | ⟨J,k,b,e,L,eb,l⟩
 .subst L;obtain ⟨z,hd,vs,B,O⟩:=AD (HR I.af e);obtain ⟨D,hw,Y⟩:=Ag (CH.some_of (v:=v) (o:=WZ vs k) (by rw [l];exact B.val k));exact xo (Fo ry) O.mapOf hw (h D _ (I.tok _) Y)
 .subst L;cases (show u=UI b from ry);obtain ⟨z,hd,xs,B,O⟩:=AD (JG I.af e);obtain ⟨D,hw,Y⟩:=Ag (CH.some_of (v:=v) (o:=(Wx xs k).map (·.2)) (by rw [l];exact B.val k));obtain ⟨p,hp,dQ⟩:=Ag (UX.mp hw);refine wpAny_getItem_heap (ZV hu) (JF I.af eb) O hp ?_;rw [dQ];exact h D _ (I.tok _) Y
theorem JH {h':Heap}{t':Nat}{B:HO}(I:Ad X pins σ H s)(D:Hj (H a))(hs:U4 a s.heap h')(J:∃ q,h'.get? a=some q)(new:Bl X.prog X.w (upd H a B) h' a B) :
  Ad X pins σ (upd H a B) { s with heap:=h',toks:=t' } :=
 I.write (x:=a) (e:=a) D (.inl rfl) (λb q hb z=>(hs.2 b hb).trans z) J new
theorem LF {P:Ub}{w:T6}{D:Hp}{h':Heap}{kvs:List (Ar×V)}{vs:List (Ar×Value)}(z:kvs.length<=sizeLine)(hd:(a == Vq)=false)(B:KV kvs vs)(dd:h'.DictOf (Bv P w) a vs) :
  Bl P w D h' a (.dK kvs):=⟨z,hd,vs,B,dd⟩
theorem Pw {H':Hp}{Q:Unit->T2->Prop}(hu:A.units+1<cLine)(I:Ad X pins σ H s)(g:HS H a y v H')(ry:AE y u)(rv:AE v r)(h:∀ s',Ad X pins σ H' s'->Q () s') :
  T5 (T8 X.prog X.w) A (XX (.ref a) u r) Q E s:=by
 rcases g with ⟨B,k,e,L,l,O⟩ | ⟨B,k,b,e,L,eb,l,O⟩
 .subst L O;obtain ⟨z,hd,vs,D,Y⟩:=AD (LD I.af e);have hz:vs.length<=sizeLine:=by rw [<- D.length];exact z
  have hl:(AX B k v).length<=sizeLine:=by have:=JE B k v;omega
  refine wpAny_setItem_pairs (hsz:=hz) (Fo ry) Y λh' J hs=>h _ ?_;have he:∃ q,h'.get? a=some q:=let ⟨q,_,_,hq,_⟩:=J;⟨q,hq⟩;exact JH I (by rw [e];exact VE) hs he (LF hl hd (D.put k rv) J)
 .subst L O;cases (show u=UI b from ry);obtain ⟨z,hd,xs,D,Y⟩:=AD (AcS I.af e);have hz:xs.length<=sizeLine:=by rw [<- Paired.length D];exact z
  have hl:(AX B k v).length<=sizeLine:=by have:=JE B k v;omega
  refine wpAny_setItem_heap (hsz:=hz) (ZV hu) (JF I.af eb) Y λh' J hs=>h _ ?_;obtain ⟨q,es,ep,hq,h2,h3,h4,_,h5⟩:=BZ J;refine JH I (by rw [e];exact VE) hs ⟨q,hq⟩ ⟨hl,hd,_,(D.put k eb rv).keeps λc ys ec=>?_,q,es,ep,hq,h2,h3,h4,h5⟩;rw [Au (IT ec e (λz=>nomatch z))];exact ec
end
section
variable {X:Cx}{pins:List (Addr×Obj)}{σ:St}{H:Hp}{s:T2}{a:Addr}{kvs:List (Ar×V)}{k:Ar}{u:Value}{A:Us}{E:Value->T2->Prop}
end
def LG (i:T9):Prop:=∀ ov iv,YF i false ov iv=operate [ov,iv] (Xe ov iv)
theorem AcU {prog:Ub}{w:T6}{A:Us}{E:Value->T2->Prop}{s:T2}{env:Env}{value slice:T9}{pos:Pos}{T id:String}{Q:Value->T2->Prop}(O:typeLookup (.type T) "__getitem__"=pure (some (.builtin id)))(hs:LG slice)(h:T5 (T8 prog w) A (Ui value env) (λo I=>T5 (T8 prog w) A (Ui slice env) (λi D=>D.TypeIs o T/\T5 (T8 prog w) A (Xe o i) Q E D) E I) E s) :
  T5 (T8 prog w) A (Ui (.Subscript value slice pos) env) Q E s:=by
 refine Zs (VB h (λo I V=>VB V (λi D H=>?_) λ_ _ x=>x) λ_ _ x=>x);obtain ⟨J,H⟩:=H;unfold Zt;refine Ua ?_;rw [getitemInPython_of_ne J.not_modules];refine Ua (wpAny_specialOf J O ?_);have B:T5 (T8 prog w) A (YF slice false o i) (λr L=>T5 (T8 prog w) A (letTemporaryGo value o r >>= λ_=>pure r) Q E L) E D:=by rw [hs o i];exact wpAny_operating (VB H (λr L Y=>Ua (wpAny_letTemporaryGo (Um Y))) λ_ _ x=>x)
 first
  | exact Um (Ua B)
  | exact Ua (Um (Ua B))
  | exact Ua B
def AcV (td ty tv:TE):TS:=λD σ H=>tv σ H λv H1=>td σ H1 λx H2=>ty σ H2 λy H3=>∃ a H4,x=.ref a/\HS H3 a y v H4/\D.nx σ H4
def AcW (td ty tv:TE)(rd:V->V->Hp->VK->Prop):TS:=λD σ H=>td σ H λx H1=>ty σ H1 λy H2=>∃ a v,x=.ref a/\GC H2 a y (some v) /\
 tv σ H2 λy2 H3=>rd v y2 H3 λz H4=>∃ H5,HS H4 a y z H5/\D.nx σ H5
section
variable {X:Cx}{o i e value:T9}{pos pos' kA:Pos}{td ty tv:TE}
theorem CD (hu:X.A.units+1<cLine)(J:PE X o td)(L:PE X i ty)(hv:PE X value tv)(hs:Xd value (some (.Subscript o i pos')) pos.line X.env=pure false) :
  PS X (.Assign [.Subscript o i pos'] value pos) (AcV td ty tv):=by
 intro pins s σ H D I h;refine wpAny_Assign_Subscript (Ap (hv pins s σ H _ I h) λr O B=>AG B λv V Y rv q1=>Ap (J pins O σ V _ Y q1) λu s2 B=>AG B λx H2 I2 rx q2=>Ap (L pins s2 σ H2 _ I2 q2) λiv s3 B=>AG B λy H3 I3 ry ⟨a,H4,ex,g,q3⟩=>?_) hs;subst ex;obtain rfl:u=UI a:=rx;exact Pw hu I3 g ry rv λs4 I4=>⟨σ,H4,I4,q3⟩
theorem AcX {op:XY}{rd:V->V->Hp->VK->Prop}(hu:X.A.units+1<cLine)(ho:PE X o td)(hi:PE X i ty)(hv:PE X value tv)(O:OG X op rd)(ha:∀ L J new,augStore i L J new=(do Vs [new,L,J] (XX L J new);release [new,L,J] [];pure .next)):PS X (.AugAssign (.Subscript o i kA) op value pos) (AcW td ty tv rd):=by intro pins s σ H D I h;refine wu (Ap (ho pins s σ H _ I h) λu s1 B=>AG B λx H1 I1 rx q1=>Ap (hi pins s1 σ H1 _ I1 q1) λJ s2 B=>AG B λy H2 I2 ry ⟨a,v,ex,g,q2⟩=>?_) ha;subst ex;obtain rfl:u=UI a:=rx;refine AcT hu I2 g ry λw' s3 I3 bp=>Ap (hv pins s3 σ H2 _ I3 q2) λw2 s4 B=>AG B λy2 H3 I4 Y q3=>Ap (O pins s4 σ H3 v y2 w' w2 _ I4 bp Y q3) λw3 s5 B=>AG B λz H4 I5 rz ⟨H5,g5,q4⟩=>?_;exact Pw hu I5 g5 ry rz λs6 I6=>⟨σ,H5,I6,q4⟩
end
theorem LH {P:Ub}{w:T6}{H:Hp}(h:Heap)(hb:Vq<h.objs.size):Bl P w H (h.push { cls:=.type "dict",data:=.dict #[] }) h.objs.size (.dK []) :=
 ⟨U1 _,beq_eq_false_iff_ne.mpr (UQ (UB hb)),[],.nil,Heap.DictOf.new h⟩
def AcY:TE:=λ_ H Q=>∀ p,H p=none->Q (.ref p) (upd H p (.dK []))
section
variable {X:Cx}{pos:Pos}
theorem AcZ:PE X (.Dict [] [] pos) AcY:=λpins s σ H Q I h =>
 wpAny_Dict_empty ⟨.ref s.heap.objs.size,_,I.laid (a:=s.heap.objs.size) (o:=.dK []) (t':=s.toks) (λ_ _ q=>UA _ q) (Uq _) (LH s.heap I.big),rfl,h _ (I.af.fresh (Uq _))⟩
end
def LJ:List (TE×TE)->St->Hp->(List (V×V)->Hp->Prop)->Prop
 | [],_,H,Q=>Q [] H
 | (tk,tv) :: r,σ,H,Q=>tk σ H λx H1=>tv σ H1 λy H2=>LJ r σ H2 λps H3=>Q ((x,y) :: ps) H3
abbrev VV:List (V×V)->List (Value×Value)->Prop:=Paired λp q=>AE p.1 q.1/\AE p.2 q.2
def JI (X:Cx)(pos:Pos)(keys:List (Option T9))(values:List T9)(eP:List (TE×TE)):Prop :=
 ∀(pins:List (Addr×Obj))(s:T2)(σ:St)(H:Hp)(Q:List (V×V)->Hp->Prop),Ad X pins σ H s->LJ eP σ H Q ->
  T5 (T8 X.prog X.w) X.A (evalPairs (pairTrees keys values X.env pos)) (λvs s'=>∃ ps H',Ad X pins σ H' s'/\VV ps vs/\Q ps H') X.xe s
theorem Ac0 {X:Cx}{pos:Pos}:JI X pos [] [] []:=λpins s σ H Q I h=>pairTrees_nil_walk ⟨[],H,I,.nil,h⟩
theorem HV {X:Cx}{pos:Pos}{k v:T9}{ks:List (Option T9)}{vs:List T9}{tk J:TE}{L:List (TE×TE)}(hk:PE X k tk)(hv:PE X v J)(O:JI X pos ks vs L) :
  JI X pos (some k :: ks) (v :: vs) ((tk,J) :: L):=λpins s σ H Q I h =>
 pairTrees_cons_walk (Ap (hk pins s σ H _ I h) λu V B=>AG B λx Y I1 rx q1=>Ap (hv pins V σ Y _ I1 q1) λw2 s2 ⟨y,H2,I2,ry,q2⟩ =>
  Ap (O pins s2 σ H2 _ I2 q2) λws s3 B=>AG B λps H3 I3 D q3=>⟨(x,y) :: ps,H3,I3,.cons ⟨rx,ry⟩ D,q3⟩)
def GD (kvs more:List (Ar×V)):List (Ar×V):=more.foldl (λacc kv=>AX acc kv.1 kv.2) kvs
theorem KV.merge:∀{more:List (Ar×V)}{B:List (Ar×Value)}{kvs:List (Ar×V)}{vs:List (Ar×Value)},KV more B->KV kvs vs->KV (GD kvs more) (merged vs B):=by
 intro more B kvs vs r;unfold KV at r;induction r generalizing kvs vs with
 | nil=>intro q;exact q
 | @cons p q H qs h t ih =>
  intro D;have e:KV (AX kvs p.1 p.2) (stored vs q.1 q.2):=by have:=D.put p.1 h.2;rw [<- h.1];exact this
  exact ih e
theorem Px:∀(more kvs:List (Ar×V)),(GD kvs more).length<=kvs.length+more.length
 | [],kvs=>by show kvs.length<=kvs.length+0;omega
 | p :: r,kvs=>by
  have B:=Px r (AX kvs p.1 p.2);have D:=JE kvs p.1 p.2;show (GD (AX kvs p.1 p.2) r).length<=_;rw [Vf];omega
theorem Py {P:Ub}{w:T6}:∀{kvs:List (Ar×V)}{ws:List (Value×Value)},VV (kvs.map λkv=>(kV kv.1,kv.2)) ws->∃ B,Carries (Bv P w) ws B/\KV kvs B
 | [],_,r=>by rw [XD] at r;cases r;exact ⟨[],VE,.nil⟩
 | p :: kvs,_,r=>by
  rw [Vd] at r;cases r with
  | @cons a b H bs h t =>
   obtain ⟨B,c,q⟩:=Ag (Py (P:=P) (w:=w) t);obtain ⟨I,D⟩:=b;exact ⟨(p.1,D) :: B,⟨Fo h.1,rfl,c⟩,.cons ⟨rfl,h.2⟩ q⟩
def Ac1 (eP:List (TE×TE)):TE:=λσ H Q=>∀ p,H p=none->LJ eP σ (upd H p (.dK [])) λps H2=>H2 p=some (.dK [])/\∃ kvs:List (Ar×V),ps=kvs.map (λkv=>(kV kv.1,kv.2))/\kvs.length<=15/\Q (.ref p) (upd H2 p (.dK (GD [] kvs)))
theorem Ac2 {X:Cx}{pos:Pos}{keys:List (Option T9)}{B:List T9}{O:List (TE×TE)}(h:JI X pos keys B O)(aA:keys.all (·.isSome)=true)(hl:keys.length=B.length)(h0:keys≠[])(J:keys.length<=15):PE X (.Dict keys B pos) (Ac1 O):=by
 intro pins s σ H Q I q;have hn:=I.af.fresh (Uq s.heap.objs.size);have I1:=I.laid (a:=s.heap.objs.size) (o:=.dK []) (h':=s.heap.push { cls:=.type "dict",data:=.dict #[] }) (t':=s.toks) (λ_ _ q=>UA _ q) (Uq _) (LH s.heap I.big);refine wpAny_Dict_walk (knd:=Bv X.prog X.w) aA hl h0 J (Ap (h pins _ σ _ _ I1 (q _ hn)) λws s2 zz=>AG zz λps H2 Y L ⟨e,D,ep,lk,q2⟩=>?_);subst ep;obtain ⟨rs,c,rk⟩:=Ag (Py (P:=X.prog) (w:=X.w) L);obtain ⟨z,hd,vs0,r0,dd⟩:=AD (LD Y.af e);cases r0;refine ⟨rs,c,dd,λV dR hs=>⟨.ref s.heap.objs.size,_,?_,rfl,q2⟩⟩;have hz:(GD [] D).length<=sizeLine:=by have h1:=Px D [];rw [ZU] at h1;rw [Uc];omega
 have he:∃ q,V.get? s.heap.objs.size=some q:=let ⟨q,_,_,hq,_⟩:=dR;⟨q,hq⟩;exact JH Y (by rw [e];exact VE) hs he (LF hz hd (rk.merge .nil) dR)
structure M1 (X:Cx)(o:T9)(m:Str)(apos:Pos)(e:T9)(bh:Pos):Prop where
 base:X6 o m X.env (Ui o X.env)=Ui o X.env
 aE:((UP bh (Ul [e] X.env)).all (λx=>!x.1) && (V7 bh (V8 [] X.env)).all (λx=>x.1.isSome)
  && decide (([e]:List T9).length+([]:List Xn).length+(if ([]:List Xn).isEmpty then 0 else 1)<30))=true
 line:(apos.endLine == bh.line)=true
 trees:UP bh (Ul [e] X.env)=[(false,Ui e X.env)]
structure M2 (X:Cx)(o:T9)(m:Str)(apos:Pos)(e f:T9)(bh:Pos):Prop where
 base:X6 o m X.env (Ui o X.env)=Ui o X.env
 aE:((UP bh (Ul [e,f] X.env)).all (λx=>!x.1) && (V7 bh (V8 [] X.env)).all (λx=>x.1.isSome)
  && decide (([e,f]:List T9).length+([]:List Xn).length+(if ([]:List Xn).isEmpty then 0 else 1)<30))=true
 line:(apos.endLine == bh.line)=true
 trees:UP bh (Ul [e,f] X.env)=[(false,Ui e X.env),(false,Ui f X.env)]
def Pz (H:Hp)(a:Addr):Prop:=(∃ kvs,Rd H a (.dK kvs))\/∃ kvs,Rd H a (.dT kvs)
theorem Ac3 {X:Cx}{pins:List (Addr×Obj)}{σ:St}{H:Hp}{s:T2}{a:Addr}(I:Ad X pins σ H s)(d:Pz H a) :
  s.TypeIs (.ref a) "dict"/\(∀ b,UI a=.ref b->∃ B,s.heap.get? b=some B/\B.dict=none)/\(a == Vq)=false:=by
 rcases d with ⟨J,e⟩ | ⟨J,e⟩
 .obtain ⟨_,hd,vs,_,D⟩:=AD (HR I.af e);refine ⟨D.typeIs,λb q=>?_,hd⟩;cases q;obtain ⟨B,_,_,L,O,_⟩:=BI D;exact ⟨B,L,O.2.1⟩
 .obtain ⟨_,hd,V,_,D⟩:=AD (JG I.af e);refine ⟨D.typeIs,λb q=>?_,hd⟩;cases q;obtain ⟨B,_,_,L,O,_⟩:=BI D;exact ⟨B,L,O.2.1⟩
section
variable {X:Cx}{pins:List (Addr×Obj)}{σ:St}{H:Hp}{s:T2}{a:Addr}{y d:V}{u r:Value}{o:Option V}{A:Us}{E:Value->T2->Prop}
theorem Ac4 {Q:Value->T2->Prop}(hu:A.units+1<cLine)(I:Ad X pins σ H s)(g:GC H a y o)(O:AE y u)(Y:AE d r)(h:∀ w' s',Ad X pins σ H s'->AE (o.getD d) w'->Q w' s') :
  T5 (T8 X.prog X.w) A (call (.builtin "dict.get") [.ref a,u,r]) Q E s:=by
 rcases g with ⟨J,k,e,L,l⟩ | ⟨J,k,b,e,L,eb,l⟩
 .subst L;obtain ⟨z,hd,vs,B,D⟩:=AD (HR I.af e);refine call_meetsIn ZW D.typeIs xp (xq _ _ _) (meets_dict_get_default (Bv X.prog X.w) a (Fo O) hd r) ⟨_,D.mapOf,h _ _ (I.tok _) ?_⟩;rw [l];exact (B.val k).getD Y
 .subst L;cases (show u=UI b from O);obtain ⟨z,hd,xs,B,D⟩:=AD (JG I.af e);refine call_meetsIn ZW D.typeIs xp (xq _ _ _) (meetsH_dict_get_default (Xw (Bv X.prog X.w)) a b hd r) ⟨ZV hu,k,xs,JF I.af eb,D,h _ _ (I.tok _) ?_⟩;rw [l];exact (B.val k).getD Y
end
def Ac5 (td ty tx:TE):TE:=λσ H Q=>td σ H λx H1=>∃ a,x=.ref a/\Pz H1 a/\ty σ H1 λy H2=>tx σ H2 λz H3=>∃ o,GC H3 a y o/\Q (o.getD z) H3
section
variable {X:Cx}{o e f:T9}{apos bh:Pos}{td ty tx:TE}
theorem Ac6 (hu:X.A.units+1<cLine)(J:PE X o td)(L:PE X e ty)(O:PE X f tx)(m:M2 X o "get" apos e f bh):PE X (.Call (.Attribute o "get" apos) [e,f] [] bh) (Ac5 td ty tx):=by
 intro pins s σ H Q I h;refine wpAny_Call_method m.base m.aE m.line PySem.F.plainAttrs_dict ZW PySem.F.type_dict_get (Ap (J pins s σ H _ I h) λu V B=>AG B λx Y D rx ⟨a,ex,d,q1⟩=>?_);subst ex;obtain rfl:u=UI a:=rx;obtain ⟨t1,t2,_⟩:=AD (Ac3 D d);refine ⟨t1,t2,?_⟩;rw [m.trees];refine wN rfl (Zy (Zo (Ap (L pins V σ Y _ D q1) λiv s2 ⟨y,H2,I2,ry,q2⟩ =>
  Zo (Ap (O pins s2 σ H2 _ I2 q2) λfv s3 B=>AG B λz H3 I3 rz ⟨ov,g,q3⟩=>wF ?_))))
 exact Ac4 hu I3 g ry rz λw' s4 I4 bp=>⟨_,H3,I4,bp,q3⟩
end
section
variable {X:Cx}{pins:List (Addr×Obj)}{σ:St}{H:Hp}{s:T2}{a:Addr}{kvs:List (Ar×V)}{A:Us}{E:Value->T2->Prop}
end
section
variable {X:Cx}{pins:List (Addr×Obj)}{σ:St}{H:Hp}{s:T2}{a:Addr}{y:V}{u:Value}{A:Us}{E:Value->T2->Prop}
end
section
variable {X:Cx}
end
section
variable {κ:Type} [DecidableEq κ]
end
structure PB (K:T3)(C f:Addr)(m:Str):Prop where
 rd:xr K C (.type "type")=true
 sp:Yz K (.ref C) "__getattribute__"=some (some (.builtin "type.__getattribute__"))
 fd:xt K (.ref C) (.type "type") m=some (.val (.ref f))
 ty:Zl K (.ref f)=some (.type "function")
 kp:Vh K (.ref f)=true
section
variable {X:Cx}{CX:B0}{k:Nat}{f C:Addr}{fd:Uk}{ps:List Str}{sp:Sp}{E:XK}{x m:Str}{p pos apos:Pos}{e:T9}{es:List T9}{t:TA}
theorem Ac7 {pl:Sem Bool}(c:PB X.K C f m)(g:Gm X.env.scope x)(Y:X.mg x=some (.ref C))(F:AF X.prog X.w X.K X.mg X.base CX k f fd ps sp)(hb:Dg X.K fd ps [])(hr:Bu k X.A)(hx:CT CX X E)(ha:PA X (e :: es) t)(aL:Ul (e :: es) X.env=(false,Ui e X.env) :: Ul es X.env:=by rfl)(aT:(UP pos (Ul es X.env)).any (·.1)=false:=by rfl)(ht:Ui (.Call (.Attribute (.Name x p) m apos) (e :: es) [] pos) X.env=(Ui (.Name x p) X.env >>= λJ=>VC apos.atName >>= λ_=>Vs [J] (Wg J m pl) >>= λL=>WL pos L.1 L.2 (UP pos (Ul (e :: es) X.env)) (V7 pos (V8 [] X.env))):=by rfl) :
  PE X (.Call (.Attribute (.Name x p) m apos) (e :: es) [] pos) (Jf sp [] E t):=by
 intro pins s σ H Q I h;refine XB (pl:=pl) ?_ ht;have pn:PE X (.Name x p) (tC (.ref C)):=Jv g Y rfl;refine Ap (pn pins s σ H (λv O=>v=.ref C/\O=H) I ⟨rfl,rfl⟩) λu s1 B=>Hg B λv O D rv e1 e2=>?_;subst e1 e2;cases rv;refine PySem.W.method_cls D.aJ c.sp (PySem.W.cls_value D.aJ c.rd c.fd rfl ?_);have I2:=D.tok (s1.toks+1);refine XA (first:=[]) (h₀:=X.base) I.ok.mod.eJ c.kp (Ap (ha pos pins _ σ _ _ I2 h) λus s2 B=>AG B λvs H2 V r q=>⟨V.aJ,?_⟩) aL aT;exact Gq F hr hb .nil hx V r q
end
section
variable {X:Cx}
end
theorem FR:∀{vs:List Value}{zs:List Str},Xu vs zs->Ay (zs.map V.str) vs
 | _,_,.nil=>.nil
 | _,_,.cons n t r=>.cons ⟨t,rfl⟩ (FR r)
theorem HW:∀{zs:List Str}{vs:List Value},Ay (zs.map V.str) vs->Xu vs zs
 | [],_,.nil=>.nil
 | n :: zs,_,.cons r t=>by
  obtain ⟨B,rfl⟩:=r;exact .cons n B (HW t)
def CJ (a b:Str):Prop:=a.cps.toList<=b.cps.toList
theorem Ac8 {a b c:Str}(h:CJ a b)(k:CJ b c):CJ a c:=List.le_trans h k
theorem Ac9 {a b:Str}(h:CJ a b)(k:CJ b a):a=b:=by have e:=ZX h k;cases a with | mk x=>cases b with | mk y=>cases x;cases y;simp_all
theorem PC:∀(l:List Str)(p:Str),risingS p l=true->(p :: l).Pairwise CJ
 | [],p,_=>List.pairwise_singleton _ _
 | x :: r,p,h=>by
  have B:(!ltCps x.cps.toList p.cps.toList && risingS x r)=true:=h;rw [Wj] at B;have ih:=PC r x B.2;have hx:CJ p x:=by have:=B.1;rw [ltCps_eq] at this;show ¬ (x.cps.toList<p.cps.toList);simpa using this
  refine xu.mpr ⟨λy hy=>?_,ih⟩;rcases Uo.mp hy with z | z
  .rw [z];exact hx
  .exact Ac8 hx ((xu.mp ih).1 y z)
theorem Ada:∀{l:List Str},sortedS l=true->l.Pairwise CJ
 | [],_=>.nil
 | x :: r,h=>PC r x h
theorem Adb {a b:List Str}(p:a.Perm b)(B:a.Pairwise CJ)(hb:b.Pairwise CJ):a=b :=
 List.Perm.eq_of_pairwise (le:=CJ) (λx y _ _ D H=>Ac9 D H) B hb p
section
variable {X:Cx}
theorem PD:BJ X (.builtin "sorted") (λxs H Q=>∃(p:Addr)(zs:List Str),xs=[.ref p]/\Bg X.K H p (zs.map V.str)/\zs.length<64/\∀(l:Addr)(B:List Str),H l=none->B.Perm zs->B.Pairwise CJ->Q (.ref l) (upd H l (.lst (B.map V.str)))):=by
 intro pins s σ H xs us Q I r h;replace h:=AY h;obtain ⟨p,zs,rfl,hq,hl,q⟩:=h
 obtain ⟨u,rfl,L⟩:=Ag (CZ r);cases L;obtain ⟨its,D,pl,hz⟩:=Av (I.list hq);have e:=D.length;rw [T7] at e;refine sorted_strs pl.isList (HW D) (by omega) λout B O J Y=>?_;obtain ⟨c,ho⟩:=sortedAll_at s.heap its out;have fr:H (s.heap.objs.size+1)=none:=I.af.fresh (Vl _);refine ⟨.ref (s.heap.objs.size+1),_,I.laid (t':=s.toks) (λb o q=>sortedAll_old q) (Vl _) (show Bl X.prog X.w _ _ _ (.lst (B.map V.str)) from ⟨?_,out.toList,c,FR O,by simpa using ho⟩),rfl,q _ B fr J (Ada Y)⟩;rw [T7,J.length_eq,Uc];omega
theorem Adc (hc:X.calm=true):BJ X (.builtin "all") (λxs H Q=>∃(p:Addr)(bs:List Bool),xs=[.ref p]/\Bg X.K H p (bs.map V.bl)/\Q (.bl (bs.all id)) H):=by
 intro pins s σ H xs us Q I r h;replace h:=AY h;obtain ⟨p,bs,rfl,hq,q⟩:=h
 obtain ⟨u,rfl,rx⟩:=Ag (CZ r);cases rx;obtain ⟨its,L,pl,hz⟩:=Av (I.list hq);refine call_all_walk (Zf pl.isList ?_);have ak:p<s.heap.objs.size:=by obtain ⟨o,e,_⟩:=Ag pl.isList;exact Ut e
 have J:=L.length;rw [T7] at J;have hb:∀(i:Nat)(v:Value),its.toArray[i]?=some v->v=XO (bs.getD i true):=λi v hv=>by
  have O:its[i]?=some v:=by simpa using hv
  have B:i<bs.length:=by rw [J];exact (US.mp O).1
  obtain ⟨u,Y,e2⟩:=L.get (i:=i) (x:=.bl bs[i]) (by rw [Uj,Uu B];rfl);rw [O] at Y;cases Y;rw [UM,Uu B];exact e2
 refine ⟨s.heap.objs.size,_,_,_,_,_,λi=>bs.getD i true,rfl,Walks.list (by simpa using I.ok.hd hc) s.heap.objs.size p (UB ak) its.toArray,⟨⟨_,Va _ rfl,rfl,rfl⟩,pl.isList.push _⟩,λi v s' Q' E' hv gx=>?_,λh' tk hk=>?_⟩
 .rw [hb i v hv];exact Ws gx
 .have e:(Vj its.toArray.size).all (λi=>bs.getD i true)=bs.all id:=by
   rw [UG,<- J,WH,V3,V3];constructor
   .intro h b D;obtain ⟨i,B,rfl⟩:=Wc D;have:=h i (Vr.mpr B);rwa [UM,Uu B] at this
   .intro h i B;have eO:=Vr.mp B;rw [UM,Uu eO];exact h _ (Wz eO)
  rw [e];have I2:Ad X pins σ H { s with heap:=h',toks:=tk }:=I.kept (t':=tk) λb o D=>hk b o (λz=>by
   rw [UL.mp z] at D;exact absurd (Ut D) (VA _)) (UA _ D)
  exact ⟨.bl _,H,I2,rfl,q⟩
end
end L2
namespace L2
open PySem PySem.Spec PyProof.Rows PySem.W
section
variable {n:Nat}{key:Nat->List Nat}{cmp:Nat->Nat->(Bool->T2->Prop)->T2->Prop}{s:T2}
noncomputable def Bj (p:Array Nat)(i:Nat):Nat:=p.getD i 0
theorem Ds (p:Array Nat)(i:Nat):Bj p i=(p[i]?).getD 0:=by unfold Bj;rw [Array.getD_eq_getD_getElem?]
structure Pm (n:Nat)(p:Array Nat):Prop where
 pm:p.toList.Perm (Vj n)
theorem Pm.size {p:Array Nat}(h:Pm n p):p.size=n:=by have:=h.pm.length_eq;simpa using this
theorem Pm.lt {p:Array Nat}(h:Pm n p){i:Nat}(B:i<n):Bj p i<n:=by
 have hs:i<p.size:=by rw [h.size];exact B
 rw [Ds,WU hs];exact Vr.mp (h.pm.mem_iff.mp (Array.getElem_mem_toList hs))
theorem Pm.inj {p:Array Nat}(h:Pm n p){i j:Nat}(D:i<n)(H:j<n)(e:Bj p i=Bj p j):i=j:=by
 have hs:i<p.size:=by rw [h.size];exact D
 have B:j<p.size:=by rw [h.size];exact H
 rw [Ds,Ds,WU hs,WU B] at e;have I:p.toList.Nodup:=h.pm.nodup_iff.mpr xw;have J:p.toList[i]'(by simpa using hs)=p.toList[j]'(by simpa using B):=by simpa using e
 exact (XT I).mp J
structure Ky (n:Nat)(key:Nat->List Nat)(cmp:Nat->Nat->(Bool->T2->Prop)->T2->Prop)(s:T2):Prop where
 df:∀ i j,i<n->j<n->i≠j->key i≠key j
 ok:∀ i j C,i<n->j<n->C (decide (key i<key j)) s->cmp i j C s
def Up (key:Nat->List Nat)(p:Array Nat)(m:Nat):Prop:=∀ i j,i<j->j<m->key (Bj p i)<key (Bj p j)
def Dn (key:Nat->List Nat)(p:Array Nat)(m:Nat):Prop:=∀ i j,i<j->j<m->key (Bj p j)<key (Bj p i)
theorem LK (k:Ky n key cmp s){p:Array Nat}(h:Pm n p){i j:Nat}(B:i<n)(D:j<n)(d:i≠j)(z:¬ key (Bj p i)<key (Bj p j)):key (Bj p j)<key (Bj p i):=by
 have ne:key (Bj p i)≠key (Bj p j):=k.df _ _ (h.lt B) (h.lt D) λe=>d (h.inj B D e);rcases List.le_total (key (Bj p i)) (key (Bj p j)) with q | q
 .exact absurd (ZX q (List.not_lt.mp z)) ne
 .exact Yk λw=>ne (ZX (List.not_lt.mp w) q)
theorem Up.more {p:Array Nat}{m:Nat}(u:Up key p m)(h:m=0\/key (Bj p (m - 1))<key (Bj p m)):Up key p (m+1):=λi j B D=>by
 by_cases e:j<m
 .exact u i j B e
 .have e:j=m:=by omega
  subst e;rcases h with h | h
  .omega
  .by_cases q:i=j - 1
   .rw [q];exact h
   .exact YU (u i (j - 1) (by omega) (by omega)) h
theorem Dn.more {p:Array Nat}{m:Nat}(u:Dn key p m)(h:m=0\/key (Bj p m)<key (Bj p (m - 1))):Dn key p (m+1):=λi j B D=>by
 by_cases e:j<m
 .exact u i j B e
 .have e:j=m:=by omega
  subst e;rcases h with h | h
  .omega
  .by_cases q:i=j - 1
   .rw [q];exact h
   .exact YU h (u i (j - 1) (by omega) (by omega))
theorem LL (k:Ky n key cmp s){p:Array Nat}(B:Pm n p){Q:Nat->T2->Prop}:∀(f m:Nat),1<=m->m+f=n->Up key p m->(∀ m',m<=m'->m'<=n->Up key p m'->(m'<n->key (Bj p m')<key (Bj p (m' - 1)))->Q m' s)->(kas_asc p f m).kasWp cmp Q s
 | 0,m,H,I,u,q=>q m (Uq _) (by omega) u λz=>by omega
 | f+1,m,H,I,u,q=>by
  refine k.ok _ _ _ (B.lt (i:=m) (by omega)) (B.lt (i:=m - 1) (by omega)) ?_;by_cases c:key (Bj p m)<key (Bj p (m - 1))
  .have D:key (p.getD m 0)<key (p.getD (m - 1) 0):=c;rw [decide_eq_true D];dsimp only;rw [if_pos rfl];exact q m (Uq _) (by omega) u λ_=>c
  .have D:¬ key (p.getD m 0)<key (p.getD (m - 1) 0):=c;rw [decide_eq_false D];dsimp only;rw [if_neg (by decide)];exact LL k B f (m+1) (by omega) (by omega) (u.more (.inr (LK k B (by omega) (by omega) (by omega) c))) λm' a b=>q m' (by omega) b
theorem PF (k:Ky n key cmp s){p:Array Nat}(B:Pm n p){Q:Array Nat×Nat×Nat->T2->Prop}:∀(f m:Nat),1<=m->m+f=n->Dn key p m->(∀ m',m<=m'->m'<=n->Dn key p m'->Q (p,m',0) s)->(kas_desc f p m 0).kasWp cmp Q s
 | 0,m,H,I,u,q=>q m (Uq _) (by omega) u
 | f+1,m,H,I,u,q=>by
  refine k.ok _ _ _ (B.lt (i:=m) (by omega)) (B.lt (i:=m - 1) (by omega)) ?_;by_cases c:key (Bj p m)<key (Bj p (m - 1))
  .have D:key (p.getD m 0)<key (p.getD (m - 1) 0):=c;rw [decide_eq_true D];dsimp only;rw [if_pos rfl,if_neg (by decide)];exact PF k B f (m+1) (by omega) (by omega) (u.more (.inr c)) λm' a b=>q m' (by omega) b
  .have D:¬ key (p.getD m 0)<key (p.getD (m - 1) 0):=c;rw [decide_eq_false D];dsimp only;rw [if_neg (by decide)];have d:=LK k B (i:=m) (j:=m - 1) (by omega) (by omega) (by omega) c;have J:key (p.getD (m - 1) 0)<key (p.getD m 0):=d;refine k.ok _ _ _ (B.lt (i:=m - 1) (by omega)) (B.lt (i:=m) (by omega)) ?_;rw [decide_eq_true J];dsimp only;rw [if_pos rfl];exact q m (Uq _) (by omega) u
theorem PH {p:Array Nat}{m:Nat}(B:m<=p.size)(i:Nat):Bj (kas_rev p 0 m) i=if i<m then Bj p (m - 1 - i) else Bj p i:=by
 rw [Ds,Ds,Ds];unfold kas_rev;rw [getElem?_mirror B _ (by omega)];split
 .rename_i h
  have D:i<m:=by omega
  rw [if_pos D];congr 2
  omega
 .rename_i h
  split
  .congr 2
   omega
  .rfl
theorem Pm.rev {p:Array Nat}(h:Pm n p)(m:Nat):Pm n (kas_rev p 0 m):=⟨(xx.mp (mirror_perm _ _ _ _)).trans h.pm⟩
theorem Dn.rev {p:Array Nat}{m:Nat}(h:Dn key p m)(B:m<=p.size):Up key (kas_rev p 0 m) m:=λi j H D=>by
 rw [PH B,PH B,if_pos (by omega),if_pos D];exact h _ _ (by omega) (by omega)
theorem Ade (k:Ky n key cmp s){p:Array Nat}(B:Pm n p)(V:1<=n){Q:Nat×Array Nat->T2->Prop}(q:∀ m D,1<=m->m<=n->Pm n D->Up key D m->Q (m,D) s):(kas_count n p).kasWp cmp Q s:=by
 unfold kas_count;rw [Yl];refine LL k B (n - 1) 1 (Uq _) (by omega) (λi j a b=>by omega) λm H I u d=>?_;by_cases e:m=n
 .rw [if_pos (beq_iff_eq.mpr e)];exact q m p H I B u
 .rw [if_neg (λz=>e (beq_iff_eq.mp z))];by_cases g:m > 1
  .rw [if_pos g];have c:key (p.getD 0 0)<key (p.getD (m - 1) 0):=u 0 (m - 1) (by omega) (by omega);refine k.ok _ _ _ (B.lt (i:=0) (by omega)) (B.lt (i:=m - 1) (by omega)) ?_;rw [decide_eq_true c];dsimp only;rw [if_pos rfl];exact q m p H I B u
  .rw [if_neg g];have J:m=1:=by omega
   subst J;unfold kas_descPart;rw [Yl];refine PF k B (n - 2) 2 (by decide) (by omega) (Dn.more (m:=1) (λi j a b=>by omega) (.inr (d (by omega)))) λm' a b dn=>?_;rw [if_neg (by simp)];unfold kas_tail3;rw [Yl];have Y:=B.size;exact LL k (B.rev m') (n - m') m' (by omega) (by omega) (dn.rev (by omega)) λm2 c1 L O _=>q m2 _ (by omega) L (B.rev m') O
theorem LM (k:Ky n key cmp s){p:Array Nat}(B:Pm n p){c:Nat}(hc:c<n)(u:Up key p c){Q:Nat->T2->Prop}(q:∀ l,l<=c->(∀ i,i<l->key (Bj p i)<key (Bj p c))->(∀ i,l<=i->i<c->key (Bj p c)<key (Bj p i))->Q l s) :
  ∀(f l r:Nat),l<=r->r<=c->r - l<=f->(∀ i,i<l->key (Bj p i)<key (Bj p c))->(∀ i,r<=i->i<c->key (Bj p c)<key (Bj p i))->(kas_place p c f l r).kasWp cmp Q s
 | 0,l,r,I,D,h3,a,b=>by
  have e:l=r:=by omega
  subst e;exact q l D a b
 | f+1,l,r,I,D,h3,a,b=>by
  unfold kas_place;by_cases g:l ≥ r
  .rw [if_pos g];have e:l=r:=by omega
   subst e;exact q l D a b
  .rw [if_neg g];refine k.ok _ _ _ (B.lt (i:=c) hc) (B.lt (i:=(l+r) / 2) (by omega)) ?_;by_cases z:key (Bj p c)<key (Bj p ((l+r) / 2))
   .have H:key (p.getD c 0)<key (p.getD ((l+r) / 2) 0):=z;rw [decide_eq_true H];dsimp only;rw [if_pos rfl];refine LM k B hc u q f l ((l+r) / 2) (by omega) (by omega) (by omega) a λi J L=>?_;by_cases e:i=(l+r) / 2
    .rw [e];exact z
    .exact YU z (u _ _ (by omega) L)
   .have H:¬ key (p.getD c 0)<key (p.getD ((l+r) / 2) 0):=z;rw [decide_eq_false H];dsimp only;rw [if_neg (by decide)];have y:=LK k B (i:=c) (j:=(l+r) / 2) hc (by omega) (by omega) z;refine LM k B hc u q f ((l+r) / 2+1) r (by omega) (by omega) (by omega) (λi J=>?_) b;by_cases e:i=(l+r) / 2
    .rw [e];exact y
    .exact YU (u _ _ (by omega) (by omega)) y
theorem PK {p:Array Nat}{c l:Nat}(hc:c<p.size)(B:l<=c)(i:Nat):Bj (bubble p c (c - l)) i=if i=l then Bj p c else if l<i/\i<=c then Bj p (i - 1) else Bj p i:=by
 rw [Ds,getElem?_bubble hc (c - l) (by omega)];have e:c - (c - l)=l:=by omega
 rw [e,Ds,Ds,Ds];split
 .rfl
 .split<;>rfl
theorem PL (k:Ky n key cmp s){Q:Array Nat->T2->Prop}(q:∀ p,Pm n p->Up key p n->Q p s):∀(f:Nat)(p:Array Nat)(c:Nat),Pm n p->c+f=n->Up key p c->(kas_bin f p c).kasWp cmp Q s
 | 0,p,c,B,e,u=>by
  have e:c=n:=by omega
  subst e;exact q p B u
 | f+1,p,c,B,e,u=>by
  unfold kas_bin;rw [Yl];have V:=B.size;refine LM k B (by omega) u (λl D a b=>?_) c 0 c (U1 _) (Uq _) (Uq _) (λi z=>by omega) (λi Y z2=>by omega);refine PL k q f _ (c+1) ⟨(xx.mp (bubble_perm _ _ _)).trans B.pm⟩ (by omega) λi j J hj=>?_;rw [PK (by omega) D,PK (by omega) D];by_cases H:i=l
  .rw [if_pos H,if_neg (by omega),if_pos (by omega)];exact b _ (by omega) (by omega)
  .rw [if_neg H];by_cases L:l<i
   .rw [if_pos ⟨L,by omega⟩,if_neg (by omega),if_pos (by omega)];exact u _ _ (by omega) (by omega)
   .rw [if_neg (by omega)];by_cases I:j=l
    .rw [if_pos I];exact a i (by omega)
    .rw [if_neg I];by_cases O:l<j
     .rw [if_pos ⟨O,by omega⟩];by_cases e5:i=j - 1
      .omega
      .exact u _ _ (by omega) (by omega)
     .rw [if_neg (by omega)];exact u _ _ J (by omega)
theorem Adf (k:Ky n key cmp s)(D:1<=n){Q:Array Nat->T2->Prop}(q:∀ p,Pm n p->Up key p n->Q p s):(kas_sort n).kasWp cmp Q s:=by
 unfold kas_sort;rw [Yl];refine Ade k ⟨by simp⟩ D λm p H I B u=>?_;by_cases e:m<n
 .rw [if_pos e];have em:max m 1=m:=by omega
  rw [em];exact PL k q (n - m) p m B (by omega) u
 .rw [if_neg e];have e:m=n:=by omega
  subst e;exact q p B u
end
end L2
namespace L2
open PySem PySem.Spec PyProof.Rows PySem.W
section
variable {prog:Ub}{w:T6}{A:Us}{E:Value->T2->Prop}{s:T2}
def HY (prog:Ub)(w:T6)(A:Us)(key:Nat->List Nat)(vs:List Value)(s:T2):Prop :=
 T5 (T8 prog w) A (keyKind' vs.toArray) (λκ s2=>s2=s/\Ky vs.length key (kas_ask prog w A κ vs) s) (λ_ _=>False) s
noncomputable def DM (p:Array Nat)(vs:List Value):Array Value:=(p.toList.map λi=>vs.getD i U8).toArray
theorem PM (vs:List Value):DM (Vj vs.length).toArray vs=vs.toArray:=by
 unfold DM;congr 1
 refine ZY (by simp) λi D B=>?_;simp [UM,Uu B]
theorem PN {a:Addr}{vs:List Value}{n:Nat}{key:Nat->List Nat}{P:Fin->T2->Prop}(J:s.heap.get? a=some (U3 "list" vs.toArray n))(aE:vs.length<64)(hk:2<=vs.length->∀ h',(∀ b o,b≠a->s.heap.get? b=some o->h'.get? b=some o)->HY prog w A key vs { s with heap:=h' })(q:∀ p,Pm vs.length p->Up key p vs.length->P (.done (.ret .none)) { s with heap:=sortedHeap s.heap a vs (DM p vs) }):T5 (T8 prog w) A (Builtin.«list.sort» ⟨[.ref a],[]⟩) P E s:=by
 rw [list_sort_plain];have lt:a<s.heap.objs.size:=Ut J;refine Ua (listItems_at J rfl (Ua (ZZ J rfl ?_)));obtain ⟨c,hc⟩:∃ c,(s.heap.update a (Vm λ_=>#[])).get? a=some (U3 "list" #[] c):=⟨_,get?_update_seq J (λ_=>#[])⟩;refine Ua (Z0 hc rfl (Ua (xy (Ua (Z1 (VY ?_))))));have n1:a≠(s.heap.update a (Vm λ_=>#[])).objs.size:=by rw [Z2];exact UB lt
 have n2:a≠((s.heap.update a (Vm λ_=>#[])).push (U3 "tuple" vs.toArray 0)).objs.size:=by rw [size_push',Z2];exact UB (Ym lt)
 have hd:(((s.heap.update a (Vm λ_=>#[])).push (U3 "tuple" vs.toArray 0)).push (U3 "list" #[] 0)).get? a=some (U3 "list" #[] c):=by rw [xB _ _ _ n2,xB _ _ _ n1];exact hc
 have V:∀ b o,b≠a->s.heap.get? b=some o->(((s.heap.update a (Vm λ_=>#[])).push (U3 "tuple" vs.toArray 0)).push (U3 "list" #[] 0)).get? b=some o:=λb o hb e =>
  UA _ (UA _ (by rw [xC _ _ _ _ hb];exact e))
 show T5 (T8 prog w) A _ P E { s with heap:=((s.heap.update a (Vm λ_=>#[])).push (U3 "tuple" vs.toArray 0)).push (U3 "list" #[] 0) };have Y:∀ p,Pm vs.length p->Up key p vs.length->P (.done (.ret .none)) { s with heap:=(((s.heap.update a (Vm λ_=>#[])).push (U3 "tuple" vs.toArray 0)).push (U3 "list" #[] 0)).update a (Vm λ_=>DM p vs) }:=q;have rH:=λh2=>hk h2 _ V;generalize ((s.heap.update a (Vm λ_=>#[])).push (U3 "tuple" vs.toArray 0)).push (U3 "list" #[] 0)=G at hd Y rH ⊢;dsimp only;have sz:vs.toArray.size=vs.length:=UG;by_cases two:vs.toArray.size<2
 .rw [if_pos two,if_pos two];refine Ua (Um ?_);rw [StateT.run_pure];refine Ua (Um ?_);dsimp only;have e0:(arrOf (SortSt.mk' general' (vs.toArray.zip vs.toArray) #[] 7 none)).map (·.2)=DM (Vj vs.length).toArray vs:=by
   rw [PM];show (vs.toArray.zip vs.toArray).map (·.2)=_;rw [Array.map_snd_zip]<;>simp
  refine Ua (Z0 hd rfl (Ua (ZZ hd rfl ?_ (hsz2:=by rw [e0,PM,sz,Uc];omega))));simp only [bne_self_eq_false,XE,if_false];rw [e0];exact Um (Y _ ⟨by simp⟩ λi j h1 h2=>by omega)
 .rw [if_neg two,if_neg two];refine Ua (VB (rH (by omega)) (λκ s2 ⟨e,ky⟩=>?_) λ_ _ f=>f.elim);subst e;refine Ua (VB (kat_run (ks:=vs) (vs:=vs) (Q:=λL H=>H={ s with heap:=G }/\failedOf L=none/\∃ p,Pm vs.length p/\Up key p vs.length/\(arrOf L).map (·.2)=DM p vs) (G:=λp H=>H={ s with heap:=G }/\Pm vs.length p/\Up key p vs.length) rfl (by omega) aE
   (λp L H _ I O ⟨e,D,u⟩=>⟨e,O,p,D,u,kat_snds rfl I⟩) (Adf ky (by omega) λp D u=>⟨rfl,D,u⟩)) (λr H ⟨e,O,p,D,u,I⟩=>?_) λ_ _ f=>f)
  subst e;obtain ⟨⟨⟩,L⟩:=r;dsimp only at O I ⊢;have B:(DM p vs).size<=sizeLine:=by unfold DM;rw [UG,T7,Vt,D.size,Uc];omega
  refine Ua (Z0 hd rfl (Ua (ZZ hd rfl ?_ (hsz2:=by rw [I];exact Nat.le_succ_of_le B))));rw [O,I];simp only [bne_self_eq_false,XE,if_false];exact Um (Y p D u)
theorem Adg {l:Addr}{vs:List Value}{key:Nat->List Nat}{Q:Value->T2->Prop}(I:s.heap.IsList l vs.toArray)(J:vs.length<64)(hk:2<=vs.length->∀ h',(∀ b o,s.heap.get? b=some o->h'.get? b=some o)->HY prog w A.in1.in1 key vs { s with heap:=h' })(q:∀ p,Pm vs.length p->Up key p vs.length->Q (.ref (s.heap.objs.size+1)) { s with heap:=sortedAll s.heap vs (DM p vs) }):T5 (T8 prog w) A (call (.builtin "sorted") [.ref l]) Q E s:=by
 refine xF kind_sorted plain_sorted entry_sorted (args_sorted1 _) ?_;unfold Builtin.«sorted»;refine Ua (m:=checkCount "sorted" 1 1 _) (Um (Ua (collect_list I (Ua (Z1 ?_ (by rw [Uc];omega))) (by rw [Uc];omega))));have D:((s.heap.push (U3 "list" #[] 0)).update s.heap.objs.size (Vm (·++vs.toArray))).objs.size=s.heap.objs.size+1:=by rw [Z2,size_push']
 have H:(((s.heap.push (U3 "list" #[] 0)).update s.heap.objs.size (Vm (·++vs.toArray))).push (U3 "list" vs.toArray 0)).get? (s.heap.objs.size+1)=some (U3 "list" vs.toArray 0):=D▸Va _ rfl;have keep:∀ b o,s.heap.get? b=some o->(((s.heap.push (U3 "list" #[] 0)).update s.heap.objs.size (Vm (·++vs.toArray))).push (U3 "list" vs.toArray 0)).get? b=some o:=λb o e =>
  UA _ (by rw [xC _ _ _ _ (UB (Ut e))];exact UA _ e)
 show T5 _ _ _ _ _ { s with heap:=((s.heap.push (U3 "list" #[] 0)).update s.heap.objs.size (Vm (·++vs.toArray))).push (U3 "list" vs.toArray 0) };rw [D];refine Ua (VY (Xv xG ⟨_,H,rfl⟩ xH (PN (key:=key) H J (λL h' B=>hk L h' λb o e=>B b o (UB (Ym (Ut e))) (keep b o e)) λp O u=>⟨_,rfl,?_⟩) (xI _)));exact Um ⟨_,rfl,q p O u⟩
end
end L2
namespace L2
open PySem PySem.Spec PyProof.Rows PySem.W
abbrev Pr:=Addr×Str×Int
noncomputable def A6 (t:Pr):V:=.ref t.1
def C9 (H:Hp)(ts:List Pr):Prop:=∀ t∈ts,H t.1=some (.tup [.str t.2.1,.int t.2.2])
theorem C9.same {H B:Hp}{ts:List Pr}(h:C9 H ts)(s:Ai H B):C9 B ts:=λt m=>s _ _ (h t m)
section
variable {X:Cx}{pins:List (Addr×Obj)}{σ:St}{H:Hp}{s:T2}
theorem Adh (I:Ad X pins σ H s){t:Pr}(h:H t.1=some (.tup [.str t.2.1,.int t.2.2])):∃ o tk B n,s.heap.get? t.1=some o/\o.cls=.type "tuple"/\o.data=.seq #[Vc t.2.1 tk,Vg t.2.2 B] n:=by obtain ⟨_,its,r,o,e,c,n,d⟩:=(show Bl X.prog X.w H s.heap t.1 _ from I.af _ _ h);obtain ⟨_,_,rfl,⟨tk,rfl⟩,B,rfl⟩:=AY r.two;exact ⟨o,tk,B,n,e,c,d⟩
noncomputable def HZ (ts:List Pr)(i:Nat):List Nat:=(ts.getD i (0,UJ,0)).2.1.cps.toList
theorem PQ {x y:Str}(h:x.cps.toList=y.cps.toList):x=y:=by cases x with | mk a=>cases y with | mk b=>cases a;cases b;simp_all
theorem LN {ts:List Pr}{vs:List Value}(r:Ay (ts.map A6) vs){i:Nat}(B:i<ts.length):vs.getD i U8=.ref ts[i].1:=by obtain ⟨u,e,q⟩:=r.get (i:=i) (x:=.ref ts[i].1) (by rw [Uj,Uu B];rfl);rw [UM,e];exact q
theorem JJ {ts:List Pr}{i:Nat}(B:i<ts.length):HZ ts i=ts[i].2.1.cps.toList:=by unfold HZ;rw [UM,Uu B];rfl
theorem PR {h:Heap}:∀{ts:List Pr}{vs:List Value},Ay (ts.map A6) vs->(∀ t∈ts,∃ o tk B n,h.get? t.1=some o/\o.cls=.type "tuple"/\o.data=.seq #[Vc t.2.1 tk,Vg t.2.2 B] n) ->
  ∃ fs:List Value,KatTups h vs fs/\fs.length=ts.length/\∀ f∈fs,∃ z t,f=Vc z t
 | [],_,.nil,_=>⟨[],trivial,rfl,λ_ m=>nomatch m⟩
 | t :: ts,v :: vs,.cons r q,k=>by
  obtain ⟨fs,a,b,c⟩:=PR q λD m=>k D (UO _ m);obtain ⟨o,tk,B,n,I,J,L⟩:=Cj (k t UY);have r:v=.ref t.1:=r;subst r;refine ⟨Vc t.2.1 tk :: fs,KatTups.cons I J L rfl a,by rw [Vf,Vf,b],λf O=>?_⟩;rcases Uo.mp O with z | z
  .exact ⟨_,_,z⟩
  .exact c f z
theorem Adi {A:Us}{ts:List Pr}{vs:List Value}{h':Heap}(r:Ay (ts.map A6) vs)(B:∀ t∈ts,∃ o tk V n,h'.get? t.1=some o/\o.cls=.type "tuple"/\o.data=.seq #[Vc t.2.1 tk,Vg t.2.2 V] n)(O:(ts.map (·.2.1)).Nodup)(two:2<=vs.length):HY X.prog X.w A (HZ ts) vs { s with heap:=h' }:=by
 have Y:=r.length;rw [T7] at Y;obtain ⟨fs,k1,k2,k3⟩:=Av (PR r B);refine kat_kind (s:={ s with heap:=h' }) (T:=.type "str") k1 (by omega) (λv m=>?_) (by decide) ⟨rfl,⟨λi j hi hj ne e=>?_,λi j C hi hj hc=>?_⟩⟩
 .obtain ⟨z,t,rfl⟩:=k3 v m;exact Looks.of_pure rfl
 .rw [JJ (by omega),JJ (by omega)] at e;have e':=PQ e;have D:i<(ts.map (·.2.1)).length:=by rw [T7];omega
  have I:j<(ts.map (·.2.1)).length:=by rw [T7];omega
  exact ne ((XT (h₀:=D) (h₁:=I) O).mp (by simpa using e'))
 .have J:i<ts.length:=by omega
  have L:j<ts.length:=by omega
  show T5 _ A (keyLt' (tuples' true) (vs.getD i U8) (vs.getD j U8)) C _ _;rw [LN r J,LN r L];obtain ⟨o1,a1,b1,n1,x1,x2,x3⟩:=B ts[i] (Wz J);obtain ⟨o2,a2,b2,n2,y1,y2,y3⟩:=B ts[j] (Wz L);refine kat_lt (s:={ s with heap:=h' }) x1 x3 y1 y3 (kat_cons (eqBool_str ?_));rw [JJ J,JJ L] at hc;by_cases e:ts[i].2.1=ts[j].2.1
  .have D:i<(ts.map (·.2.1)).length:=by rw [T7];omega
   have I:j<(ts.map (·.2.1)).length:=by rw [T7];omega
   have ij:i=j:=(XT (h₀:=D) (h₁:=I) O).mp (by simpa using e);subst ij;rw [beq_self_eq_true];refine kat_yes (kat_cons (wc ?_));rw [beq_self_eq_true];refine kat_yes (kat_nil ?_);rw [decide_eq_false (List.lt_irrefl _)] at hc;simpa using hc
  .rw [beq_eq_false_iff_ne.mpr e];exact kat_no (oneLt_str hc)
theorem Adj:BJ X (.builtin "sorted") (λxs H Q=>∃(p:Addr)(ts:List Pr),xs=[.ref p]/\Bg X.K H p (ts.map A6)/\C9 H ts/\(ts.map (·.2.1)).Nodup/\ts.length<64 /\
  ∀(l:Addr)(J:List Pr),H l=none->J.Perm ts->J.Pairwise (λa b=>CJ a.2.1 b.2.1)->Q (.ref l) (upd H l (.lst (J.map A6)))):=by
 intro pins s σ H xs us Q I r h;replace h:=Dl h;obtain ⟨p,ts,rfl,hq,L,nd,O,q⟩:=h
 obtain ⟨u,rfl,rx⟩:=Ag (CZ r);cases rx;obtain ⟨its,V,pl,hz⟩:=Av (I.list hq);have el:=V.length;rw [T7] at el;have objs:=λt (m:t∈ts)=>Adh I (L t m);refine Adg (key:=HZ ts) pl.isList (by omega) (λtwo h' keep=>Adi V (λt m=>?_) nd two) λB hp up=>?_
 .obtain ⟨o,a,b,n,e1,e2,e3⟩:=Cj (objs t m);exact ⟨o,a,b,n,keep _ _ e1,e2,e3⟩
 .obtain ⟨c,ho⟩:=sortedAll_at s.heap its (DM B its);have fr:H (s.heap.objs.size+1)=none:=I.af.fresh (Vl _);have D:=hp.pm;rw [<- el] at D up;have m5:∀ i∈B.toList,i<ts.length:=λi m=>Vr.mp (D.mem_iff.mp m);have vv:∀ l:List Nat,(∀ i∈l,i<ts.length)->Ay ((l.map λi=>ts.getD i (0,UJ,0)).map A6) (l.map λi=>its.getD i U8):=λl O=>by
   induction l with
   | nil=>exact .nil
   | cons i l ih =>
    have hi:=O i UY;refine .cons ?_ (ih λj m=>O j (UO _ m));dsimp only;rw [LN V hi,UM,Uu hi];rfl
  have perm:(B.toList.map λi=>ts.getD i (0,UJ,0)).Perm ts:=by have:=D.map λi=>ts.getD i (0,UJ,0);refine this.trans (xJ ?_);refine ZY (by simp) λi h1 Y=>?_;simp [UM,Uu Y]
  have sz:B.size=ts.length:=by have:=D.length_eq;simpa using this
  refine ⟨.ref (s.heap.objs.size+1),_,I.laid (t':=s.toks) (λb o q=>sortedAll_old q) (Vl _) (show Bl X.prog X.w _ _ _ (.lst ((B.toList.map λi=>ts.getD i (0,UJ,0)).map A6)) from ⟨?_,(B.toList.map λi=>its.getD i U8),c,vv _ m5,ho⟩),rfl,q _ _ fr perm ?_⟩
  .rw [T7,T7,Vt,sz,Uc];omega
  .rw [YV,xK];intro i j h1 Y m6;have k1:i<B.size:=by simpa using h1
   have k2:j<B.size:=by simpa using Y
   have:=up i j m6 (by omega);rw [Ds,Ds,WU k1,WU k2] at this;simp only [Option.getD_some,HZ] at this;have t':(ts.getD B.toList[i] (0,UJ,0)).2.1.cps.toList<(ts.getD B.toList[j] (0,UJ,0)).2.1.cps.toList:=by simpa using this
   exact List.le_of_lt t'
end
end L2
namespace L2
open PySem PySem.Spec PyProof.Rows
noncomputable def CP (w:T6):Bool:=w.params.followText "set-order"
def JK (w:T6)(e:Int×Value):Prop:=∃ z tk,e=(VU w z,Vc z tk)
noncomputable def D0 (e:Int×Value):Str:=match e.2 with
 | .str z _=>z
 | _=>UJ
def Dt (w:T6)(h:Heap)(a:Addr)(zs:List Str):Prop:=∃ o es ep t,h.get? a=some o/\o.ExactSet/\o.data=.set es ep t/\zs=es.toList.map D0/\(∀ e∈es.toList,JK w e)/\zs.Nodup/\zs.length<3000/\t.fits es.size=true/\t.led=!CP w/\(zs≠[]->t.plain=false)
theorem Dt.at {w:T6}{h h':Heap}{a:Addr}{zs:List Str}(x:Dt w h a zs)(k:∀ o,h.get? a=some o->h'.get? a=some o):Dt w h' a zs:=by obtain ⟨o,es,B,t,e,r⟩:=Cj x;exact ⟨o,es,B,t,k _ e,r⟩
theorem Adk {prog:Ub}{w:T6}{l:List (Int×Value)}(h:∀ e∈l,JK w e):ElemsOf (Bv prog w) l:=λe m=>by
 obtain ⟨z,B,rfl⟩:=h e m;exact ⟨⟨UR z,Gi prog w z B,rfl⟩,rfl⟩
theorem PU {w:T6}{e:Int×Value}{z:Str}(h:JK w e):Ea (UR z) e.2=true↔D0 e=z:=by
 obtain ⟨y,B,rfl⟩:=h;show Yt z (.str y B)=true↔y=z;constructor
 .intro q;obtain ⟨t,e⟩:=wb q;injection e
 .rintro rfl;exact N3 y B
theorem Adl (t:Wm)(n:Nat):(t.orStandIn n).led=t.led:=by unfold xM xN;split<;>rfl
theorem Adm {t:Wm}{n:Nat}(h:t.plain=false):(t.orStandIn n).plain=false:=by unfold xM xN;split<;>first | exact h | rfl
theorem Adn (t:Wm)(es:Array (Int×Value))(h:Int)(x:Value):(XG t es h x).2.1.led=t.led:=by
 unfold XG;split
 .exact Adl _ _
 .rfl
theorem Ado {t:Wm}{es:Array (Int×Value)}{h:Int}{x:Value}(B:t.plain=false):(XG t es h x).2.1.plain=false:=by
 unfold XG;split
 .exact Adm B
 .rfl
theorem PV {t t':Wm}{hs:Array Int}{n:Nat}{o:Array Nat}(e:t.relaid hs n=some (t',o)):t'.led=t.led/\t'.plain=t.plain:=by
 unfold SetTable.relaid SetTable.laid at e;cases q:SetTable.layClean (SetTable.sizeAbove n - 1) hs with
 | none=>rw [q] at e;cases e
 | some x=>rw [q] at e;cases e;exact ⟨rfl,rfl⟩
theorem Adp (t:Wm)(es:Array (Int×Value))(n:Nat):(W6 t es n).2.1.led=t.led:=by
 unfold W6;split
 .rename_i t' o e
  dsimp only;split
  .exact (PV e).1
  .rfl
 .rfl
theorem Adq {t:Wm}{es:Array (Int×Value)}{n:Nat}(B:t.plain=false):(W6 t es n).2.1.plain=false:=by
 unfold W6;split
 .rename_i t' o e
  dsimp only;split
  .exact (PV e).2.trans B
  .rfl
 .rfl
section
variable {prog:Ub}{w:T6}{A:Us}{E:Value->T2->Prop}{s:T2}
theorem PX {a:Addr}{o:Obj}{es es':Array (Int×Value)}{ep:Nat}{t t':Wm}{h:Heap}(B:h.get? a=some o)(hd:o.data=.set es ep t):(h.update a (YW es' t')).get? a=some { o with data:=.set es' (ep+1) t' }:=by have e:=Zv (YW es' t') B (by rw [putSet_of es' t' hd];rfl);rwa [putSet_of es' t' hd] at e
theorem add_str {a:Addr}{zs:List Str}{z:Str}{tk:Tok}{Q:Bool->T2->Prop}(hS:Dt w s.heap a zs)(room:zs.length+1<3000)(q:∀ h' aj b,U4 a s.heap h'->Dt w h' a aj->(if z∈zs then aj=zs else aj.Perm (zs++[z]))->Q b { s with heap:=h' }):T5 (T8 prog w) A (setAddHashed a (.str z tk) (VU w z)) Q E s:=by
 obtain ⟨o,es,ep,t,ho,hex,hd,rfl,kF,nd,aE,hf,led,pl⟩:=Dd (id hS);rw [T7,Vt] at aE room;have sb:scanBound=4096:=rfl;have kG:=Adk (prog:=prog) kF;unfold setAddHashed Z3;refine VY (Ua (wpAny_setState_of ho hd hf ?_));dsimp only;rw [byScan_of (knd:=Bv prog w) (x:=Vc z tk) rfl (by omega) kG];simp only [↓reduceIte];unfold setAddByScan;refine Ua (Ua (XH (Ua (wpAny_setScan_of (knd:=Bv prog w) (k:=UR z) (Gi prog w z tk) ho hd hf kG ?_))));cases rJ:List.findIdx? (λe=>(Bv prog w).is (UR z) e.2) es.toList with
 | some j =>
  obtain ⟨hj,O,_⟩:=List.findIdx?_eq_some_iff_getElem.mp rJ;have mem:z∈es.toList.map D0:=Ur.mpr ⟨_,Wz hj,(PU (kF _ (Wz hj))).mp O⟩;dsimp only;exact Um (Um (q s.heap _ _ (Heap.SameBut.refl a s.heap) hS (by rw [if_pos mem])))
 | none =>
  have rK:z ∉ es.toList.map D0:=λm=>by
   obtain ⟨e,me,rfl⟩:=Ag (Ur.mp m);have:=List.findIdx?_eq_none_iff.mp rJ e me;rw [show (Bv prog w).is (UR (D0 e)) e.2=true from (PU (kF e me)).mpr rfl] at this;cases this
  have V:=layNew_perm t es (VU w z) (.str z tk);have kH:=layNew_fits t es (VU w z) (.str z tk);have l1:=Adn t es (VU w z) (.str z tk);have p1:t.plain=false->(XG t es (VU w z) (.str z tk)).2.1.plain=false:=Ado;dsimp only;have ek:N2 w (UR z)=VU w z:=rfl;have ek2:(Bv prog w).hash (UR z)=VU w z:=rfl;try rw [ek2]
  generalize XG t es (VU w z) (.str z tk)=L at V kH l1 p1 ⊢;obtain ⟨B,t1,wd,aaH⟩:=L;dsimp only at V kH l1 p1 ⊢;rw [Array.toList_push] at V;have aaI:∀ e∈B.toList,JK w e:=λe m=>by
   rcases UU.mp (V.mem_iff.mp m) with y | y
   .exact kF e y
   .rw [UL.mp y];exact ⟨z,tk,rfl⟩
  have pz:(B.toList.map D0).Perm (es.toList.map D0++[z]):=by have:=V.map D0;rwa [Uy] at this
  have sz1:B.size=es.size+1:=by rw [<- Vt,V.length_eq,U2,Vt];rfl
  have je:(B.toList.map D0).Nodup:=pz.nodup_iff.mpr (Wn.mpr ⟨nd,UH.mpr ⟨by simp,Wo⟩,λx hx y hy e=>by rw [UL.mp hy] at e;exact rK (e▸hx)⟩);have Y:∀(h':Heap)(o':Obj)(I:Array (Int×Value))(jf:Nat)(D:Wm),U4 a s.heap h'->h'.get? a=some o'->o'.ExactSet->o'.data=.set I jf D->I.toList.Perm B.toList->D.fits I.size=true->D.led=t.led->D.plain=false->∀ b,Q b { s with heap:=h' }:=λh' o' I jf D sm e1 e2 e3 J f2 l2 p2 b=>by
   have rL:=J.map D0;refine q h' (I.toList.map D0) b sm ⟨o',I,jf,D,e1,e2,e3,rfl,λe m=>aaI e (J.mem_iff.mp m),rL.nodup_iff.mpr je,?_,f2,l2.trans led,λ_=>p2⟩ (by rw [if_neg rK];exact rL.trans pz);rw [T7,J.length_eq,Vt,sz1];omega
  have quiet:∀(b:Bool){s₁:T2}{Q':Unit->T2->Prop},Q' () s₁->T5 (T8 prog w) A (match b with | true=>rule "set.scan.the-table-gave-way" | false=>pure ()) Q' E s₁:=λb s₁ Q' h=>by
   cases b
   .exact Um h
   .exact XH h
  refine Ua (quiet aaH ?_);have key:∀ D:Wm,D.fits B.size=true->D.led=t.led->D.plain=false->∀(K:Option Bool->Sem Bool),(∀ h' b,(∀ b,Q b { s with heap:=h' })->T5 (T8 prog w) A (K (some b)) Q E { s with heap:=h' }) ->
    T5 (T8 prog w) A (do
     storeSet a B D
     if (!wd && D.tooFull)=true then do
       (match (W6 D B (W7 B.size)).2.2 with | true=>rule "set.scan.the-table-gave-way" | false=>pure ())
       storeSet a (W6 D B (W7 B.size)).1 (W6 D B (W7 B.size)).2.1
       pure (some true)
      else pure (some true)) (λr s'=>T5 (T8 prog w) A (K r) Q E s') E s:=by
   intro D f2 l2 p2 K hK;refine Ua (xO ho hd ?_ (by rw [Uc];omega));have g1:=PX (es':=B) (t':=D) ho hd;have s1:=YX s.heap a (YW B D);split
   .have J:=relayAll_perm D B (W7 B.size);have f3:=relayAll_fits D B (W7 B.size);have l3:=Adp D B (W7 B.size);have p3:=Adq (es:=B) (n:=W7 B.size) p2;generalize W6 D B (W7 B.size)=R at J f3 l3 p3 ⊢;obtain ⟨I,t3,g2⟩:=R;dsimp only at J f3 l3 p3 ⊢;have sz2:I.size=B.size:=by rw [<- Vt,J.length_eq,Vt]
    refine Ua (quiet g2 (Ua (xO (s:={ s with heap:=s.heap.update a (YW B D) }) g1 rfl ?_ (by rw [Uc];omega))));have g3:=PX (es':=I) (t':=t3) g1 rfl;exact Um (hK _ true (Y _ _ I _ t3 (s1.trans (YX _ a _)) g3 hex rfl J f3 (l3.trans l2) p3))
   .exact Um (hK _ true (Y _ _ B _ D s1 g1 hex rfl (List.Perm.refl _) f2 l2 p2))
  by_cases O:t1.plain=true
  .rw [if_pos O];refine Ua ?_;rw [hashByValue_scannable 8 (x:=Vc z tk) rfl];refine Um ?_;exact key { t1 with plain:=false } (SetTable.fits_plain_off kH) l1 rfl (λr=>match r with | some H=>pure H | none=>Z3 a (.str z tk) (VU w z) 99999) λh' b hq=>Um (hq b)
  .have O:t1.plain=false:=by simpa using O
   rw [if_neg (by rw [O];decide)];refine Ua (Um ?_);exact key t1 kH l1 O (λr=>match r with | some H=>pure H | none=>Z3 a (.str z tk) (VU w z) 99999) λh' b hq=>Um (hq b)
end
section
variable {prog:Ub}{w:T6}{A:Us}{I:Addr}{fp wr:List Addr}{G:Array XS->Array XS->Prop}{n:Nat}{P:Nat->Value->Prop}{St:Nat->T2->Prop}
theorem Ads {R:Xj->T2->Prop}(W:WalksS prog w A.in1 I fp wr G n P St)(S:Addr)(hS:S ∉ fp)(val:Nat->Str)(hv:∀ i v,P i v->∃ t,v=Vc (val i) t)(aE:n+1<3000) :
  ∀(k i:Nat)(s:T2)(zs:List Str),n - i=k->i<=n->St i s->Dt w s.heap S zs->(∀ z,z∈zs↔∃ j,j<i/\val j=z)->zs.length<=i ->
   (∀ B H,Moved (S :: wr) G s B->Dt w B.heap S H->(∀ z,z∈H↔∃ j,j<n/\val j=z)->R (.ok (.ret .none)) B)->Vk (T8 prog w) A (.builtin "set.update.loop" ⟨[.ref S,.ref I],[]⟩) R s:=by
 have Y:S ∉ wr:=λh=>hS (W.sub _ h);have sub:∀ b∈wr,b∈S :: wr:=λb h=>UO _ h;intro k;induction k with
 | zero =>
  intro i s zs hk hi st x mem _ q;have e:i=n:=by omega
  subst e;refine Xs xP ?_;rw [Yn Z4 _];show T5 _ A.in1 (VZ (.ref I) >>= _) _ _ s;refine Ua (W.done s _ _ st λB m=>?_);exact Um (q B zs (m.mono sub) (x.at λo e=>m.heap S o Y e) mem)
 | succ k ih =>
  intro i s zs hk hi st x mem len q;refine Xs xP ?_;rw [Yn Z4 _];show T5 _ A.in1 (VZ (.ref I) >>= _) _ _ s;refine Ua (W.item i s _ _ (by omega) st λv B hP bB m=>?_);obtain ⟨t,rfl⟩:=hv i v hP;have x':=x.at λo e=>m.heap S o Y e;show T5 _ A.in1 (Vs [Vc (val i) t] (setAdd S (.str (val i) t)) >>= _) _ _ B;refine Ua (VY ?_);unfold setAdd;refine VY (Ua ((Bv prog w).pyHash (k:=UR (val i)) (Gi _ _ _ _) ?_));refine add_str (s:={ B with toks:=B.toks+1 }) x' (by omega) λh' H b sb x2 D=>?_;have L:∀ z,z∈H↔∃ j,j<i+1/\val j=z:=λz=>by
   have e:z∈H↔z∈zs\/z=val i:=by
    by_cases y:val i∈zs
    .rw [if_pos y] at D;rw [D];exact ⟨.inl,λh=>h.elim id λe=>e▸y⟩
    .rw [if_neg y] at D;rw [D.mem_iff,UU,UL]
   rw [e,mem];constructor
   .rintro (⟨j,h1,J⟩ | h)
    .exact ⟨j,by omega,J⟩
    .exact ⟨i,by omega,h.symm⟩
   .rintro ⟨j,h1,J⟩;by_cases h:j<i
    .exact .inl ⟨j,h,J⟩
    .have:j=i:=by omega
     subst this;exact .inr J.symm
  have eQ:H.length<=i+1:=by
   by_cases y:val i∈zs
   .rw [if_pos y] at D;rw [D];omega
   .rw [if_neg y] at D;rw [D.length_eq,U2,Vv];omega
  refine Um ⟨Z5 Z4 _,ih (i+1) _ H (by omega) (by omega) (W.frame _ B _ _ bB (Vl _) λb hb o e=>?_) x2 L eQ λaN O m2 x3 V=>?_⟩
  .exact (sb.2 b λh=>hS (h▸hb)).trans e
  .refine q aN O (Moved.trans W.gtrans ((m.mono sub).then_heap (Vl _) λb o hb e=>?_) m2) x3 V;exact (sb.2 b λh=>hb (h▸UY)).trans e
end
section
variable {prog:Ub}{w:T6}{A:Us}{E:Value->T2->Prop}{s:T2}
theorem Adt (a:Value){Q₁:Value->T2->Prop}(h:Q₁ (.ref s.heap.objs.size) { s with heap:=s.heap.push { cls:=.type "set",dict:=none,data:=.set #[] 0 (.fresh 0 0 (!CP w)) } }) :
  Vk (T8 prog w) A (.call (.builtin "set.__new__") ⟨[.type "set",a],[]⟩) (wants Q₁ E) s:=by
 refine Z6 ?_;show T5 _ A.in1 (do ZI "set.__new__" ⟨[.type "set",a],[]⟩;again (.builtin "set.__new__" ⟨[.type "set",a],[]⟩)) _ _ s;refine Ua (wpAny_of_eq (F.newCall_set_1 a) (Um ⟨Z5 xQ _,Xs F.entry_set_new ?_⟩));rw [Yn xQ _];unfold Builtin.«set.__new__» Builtin.Frozenset.newClass;have sub:=sub_set_self;obtain ⟨B,g,d,D,os⟩:=s;dsimp only;wp_walk
 refine Z7 (Um ?_);dsimp only;simp only [newObj];exact Ua (wpAny_alloc (Um (Um h)))
theorem PY {h:Heap}{a:Addr}(e:h.get? a=some { cls:=.type "set",dict:=none,data:=.set #[] 0 (.fresh 0 0 (!CP w)) }):Dt w h a [] :=
 ⟨_,#[],0,_,e,⟨rfl,rfl,rfl⟩,rfl,rfl,λe m=>by simp at m,Wo,by decide,rfl,rfl,λz=>(z rfl).elim⟩
theorem Adu {l:Addr}{items:Array Value}{zs:List Str}{Q:Value->T2->Prop}(hh:A.handled=none)(hl:s.heap.IsList l items)(Y:Xu items.toList zs)(aE:items.size+1<3000)(q:∀ (h':Heap) (tk:Nat) (B:List Str),Dt w h' s.heap.objs.size B->(∀ z,z∈B↔z∈zs)->(∀ b o,b<s.heap.objs.size->s.heap.get? b=some o->h'.get? b=some o)->Q (.ref s.heap.objs.size) { s with heap:=h',toks:=tk }) :
  T5 (T8 prog w) A (call (.type "set") [.ref l]) Q E s:=by
 obtain ⟨c,tl,aeC⟩:=W8.mro;have made:=W8.made;have sub:=W8.sub;refine YA (Z6 ?_);show T5 _ _ (callAny (.type "set") _) _ _ _;refine Um ⟨wX _ (by decide +kernel),Xs F.entry_type_call ?_⟩;rw [Around.under_plain (weight_type_call_type "set" [.ref l] []) rfl];have c1:=W8.notType;have c2:=W8.canCreate;have c3:=F.typeCall_set_1 (.ref l);repeat (any_goals (first | assumption | wp_step))
 refine Xm (Adt (.ref l) (E:=E) (Q₁:=λobj s₁=>obj=.ref s.heap.objs.size/\s₁={ s with heap:=s.heap.push { cls:=.type "set",dict:=none,data:=.set #[] 0 (.fresh 0 0 (!CP w)) } }) ⟨rfl,rfl⟩) λr s₁ H=>?_;cases r with
 | error e=>exact H
 | ok fl =>
  cases fl with
  | ret obj =>
   obtain ⟨rfl,rfl⟩:=H;have atS:(s.heap.push { cls:=.type "set",dict:=none,data:=.set #[] 0 (.fresh 0 0 (!CP w)) }).get? s.heap.objs.size=some { cls:=.type "set",dict:=none,data:=.set #[] 0 (.fresh 0 0 (!CP w)) }:=Va _ rfl;have ty:Shared.TypeIs { s with heap:=s.heap.push { cls:=.type "set",dict:=none,data:=.set #[] 0 (.fresh 0 0 (!CP w)) } } (.ref s.heap.objs.size) "set":=⟨_,atS,rfl⟩;have i1:=W8.init.lookup;have i2:=W8.init.bind (.ref s.heap.objs.size);repeat (any_goals (first | assumption | wp_step))
   refine Xm (ZH (R:=wants (λr s₂=>r=.none/\∃ h' tk B,s₂={ s with heap:=h',toks:=tk }/\Dt w h' s.heap.objs.size B/\(∀ z,z∈B↔z∈zs) /\
     (∀ b o,b<s.heap.objs.size->s.heap.get? b=some o->h'.get? b=some o)) E) W8.init.plain F.entry_set_init (check_set_init_1 ty ?_)) λr₂ s₂ I=>?_
   .obtain ⟨⟨aeD,J,aeE,L⟩,e1,e2,nl,e3⟩:=Av hl;simp only at e2 e3;subst e2 e3;have bZ:(s.heap.push { cls:=.type "set",dict:=none,data:=.set #[] 0 (.fresh 0 0 (!CP w)) }).get? l=some { cls:=.type "list",dict:=J,data:=.seq items nl,slots:=L }:=UA _ e1;have s1:=F.sub_list_set;have s2:=F.sub_list_frozenset;have s3:(XQ "list" == XQ "dict")=false:=by decide
    have l1:(s.heap.push { cls:=.type "set",dict:=none,data:=.set #[] 0 (.fresh 0 0 (!CP w)) }).IsList l items:=⟨_,bZ,rfl,nl,rfl⟩;unfold Builtin.«set.__init__» noKeywords Builtin.Frozenset.updateFrom;generalize O:XZ=PI;wp_walk
    subst O;refine Zf l1 (Ua (xR ?_));have lt:l<s.heap.objs.size:=Ut e1;have ns:l≠(s.heap.push { cls:=.type "set",dict:=none,data:=.set #[] 0 (.fresh 0 0 (!CP w)) }).objs.size:=by rw [V0];exact UB (Ym lt)
    have nf:s.heap.objs.size ∉ [(s.heap.push { cls:=.type "set",dict:=none,data:=.set #[] 0 (.fresh 0 0 (!CP w)) }).objs.size,l]:=by rw [V0];simp only [Uo,UZ,or_false,not_or];exact ⟨UB (Xz _),Wf lt⟩
    have ze:zs.length=items.size:=by have:=(FR Y).length;rw [T7] at this;simpa using this
    have val:∀(i:Nat)(v:Value),items[i]?=some v->∃ t,v=Vc (zs.getD i UJ) t:=λi v hv=>by
     have gZ:items.toList[i]?=some v:=by rw [YJ];exact hv
     have il:i<zs.length:=by rw [ze];exact (Array.getElem?_eq_some_iff.mp hv).1
     obtain ⟨u,g1,g2⟩:=(FR Y).get (i:=i) (x:=.str zs[i]) (by rw [Uj,Uu il];rfl);rw [gZ] at g1;cases g1;obtain ⟨t,rfl⟩:=g2;exact ⟨t,by rw [UM,Uu il];rfl⟩
    have nh:A.in1.in1.in1.handled=none:=by simp [hh]
    refine Ads ((Walks.list nh _ l ns items).toS) s.heap.objs.size nf (λi=>zs.getD i UJ) val aE (items.size - 0) 0 _ [] (by omega) (U1 _) ⟨⟨_,Va _ rfl,rfl,rfl⟩,l1.push _⟩ (PY (UA _ atS)) (λz=>⟨λh=>absurd h UZ,λzz=>CL zz λj h _=>absurd h (Nat.not_lt_zero _)⟩) (Uq _) ?_;intro s' B m x mem;obtain ⟨h',g',d',bP,mJ⟩:=s';have eg:g'=s.gens:=m.gens;have ed:d'=s.drawn:=m.drawn;have eo:mJ=s.os:=m.os;subst eg ed eo;show T5 _ _ _ _ _ _;refine Um ?_;show T5 _ _ (ret U8) _ _ _;refine Um ⟨rfl,h',bP,B,rfl,x,λz=>?_,λb o hb e=>?_⟩
    .rw [mem];constructor
     .rintro ⟨j,h1,rfl⟩;have D:j<zs.length:=by omega
      rw [UM,Uu D];exact Wz D
     .intro h;obtain ⟨j,D,rfl⟩:=Wc h;exact ⟨j,by omega,by rw [UM,Uu D];rfl⟩
    .have b2:b≠(s.heap.push { cls:=.type "set",dict:=none,data:=.set #[] 0 (.fresh 0 0 (!CP w)) }).objs.size:=by rw [V0];exact UB (Ym hb)
     exact m.heap b o (by simp only [Uo,UZ,or_false,not_or];exact ⟨UB hb,b2⟩) (UA _ (UA _ e))
   .cases r₂ with
    | error e=>exact I
    | ok V =>
     cases V with
     | ret r =>
      obtain ⟨rfl,h',tk,B,rfl,x,mem,hk⟩:=I;repeat (any_goals (first | assumption | wp_step))
      exact q _ _ _ x mem hk
     | _=>exact I.elim
  | _=>exact H.elim
end
noncomputable def Cb (w:T6)(a:Addr)(zs:List Str):HO:=.ext λh=>∃ aj,Dt w h a aj/\∀ z,z∈aj↔z∈zs
theorem LO {P:Ub}{w:T6}{H:Hp}{h:Heap}{a:Addr}{zs B:List Str}(x:Dt w h a B)(m:∀ z,z∈B↔z∈zs):Bl P w H h a (Cb w a zs):=by refine ⟨⟨B,x,m⟩,?_,λJ L ⟨y,D,I⟩ k=>⟨y,D.at k,I⟩⟩;obtain ⟨o,_,_,_,e,_⟩:=Cj x;exact ⟨o,e⟩
theorem LP:∀{a b:List Str},a.Nodup->(∀ z∈a,z∈b)->a.length<=b.length
 | [],b,_,_=>U1 _
 | x :: a,b,nd,h=>by
  have B:=UH.mp nd;have hx:=h x UY;have ih:=LP (b:=b.erase x) B.2 λz D=>(Z8 (λe:z=x=>B.1 (e▸D))).mpr (h z (UO _ D));rw [xS hx] at ih;have:0<b.length:=Z9 hx;rw [Vf];omega
theorem Adv {a b:List Str}(I:a.Nodup)(m:∀ z,z∈a↔z∈b):a.length=b.length↔b.Nodup:=by
 constructor
 .intro e;refine Yk λh=>?_;have B:∀ b:List Str,¬ b.Nodup->∃ c:List Str,c.length<b.length/\∀ z,z∈c↔z∈b:=λb=>by
   induction b with
   | nil=>exact λh=>(h Wo).elim
   | cons x b ih =>
    intro h;by_cases hx:x∈b
    .exact ⟨b,by simp,λz=>⟨UO _,λD=>(Uo.mp D).elim (λe=>e▸hx) id⟩⟩
    .obtain ⟨c,J,H⟩:=ih λq=>h (UH.mpr ⟨hx,q⟩);refine ⟨x :: c,by simpa using J,λz=>?_⟩;rw [Uo,Uo,H]
  obtain ⟨c,J,H⟩:=Ag (B b h);have:=LP I λz D=>(H z).mpr ((m z).mp D);omega
 .intro hb;exact ((List.perm_ext_iff_of_nodup I hb).mpr m).length_eq
section
variable {X:Cx}
theorem Adw {w:T6}(hw:X.w=w)(hc:X.calm=true):BJ X (.type "set") (λxs H Q=>∃(p:Addr)(zs:List Str),xs=[.ref p]/\Bg X.K H p (zs.map V.str)/\zs.length<2000/\∀ l,H l=none->Q (.ref l) (upd H l (Cb w l zs))):=by
 subst hw;intro pins s σ H xs L Q I r h;replace h:=AY h;obtain ⟨p,zs,rfl,hq,O,q⟩:=h
 obtain ⟨u,rfl,D⟩:=Ag (CZ r);cases D;obtain ⟨its,B,pl,Y⟩:=Av (I.list hq);have e:=B.length;rw [T7] at e;refine Adu (items:=its.toArray) (zs:=zs) (I.ok.hd hc) pl.isList (by simpa using HW B) (by rw [UG];omega) λh' J aj x m k=>?_;exact ⟨.ref s.heap.objs.size,_,I.laid (t':=J) (λb o e=>k b o (Ut e) e) (Uq _) (LO x m),rfl,q _ I.fresh⟩
theorem PZ {w:T6}(hw:X.w=w):BJ X (.builtin "len") (λxs H Q=>∃(p:Addr)(zs:List Str),xs=[.ref p]/\H p=some (Cb w p zs)/\∀ n:Nat,(n=zs.length↔zs.Nodup)->Q (.int n) H):=by
 subst hw;intro pins s σ H xs us Q I r h;replace h:=AY h;obtain ⟨p,zs,rfl,B,q⟩:=h
 obtain ⟨u,rfl,D⟩:=Ag (CZ r);cases D;obtain ⟨⟨J,⟨o,es,ep,t,L,O,V,Y,e5,nd,aE,hf,_⟩,m⟩,_⟩:=(show Bl X.prog X.w H s.heap p (Cb X.w p zs) from I.af p _ B);have sz:J.length=es.size:=by rw [Y,T7,Vt]
 refine call_len_set L O V hf (by omega) ⟨.int es.size,H,I.tok _,⟨_,rfl⟩,q _ ?_⟩;rw [<- sz];exact Adv nd m
end
section
variable {prog:Ub}{w:T6}{A:Us}{R:Xj->T2->Prop}{E:Value->T2->Prop}{s:T2}
theorem Adx {Q:Value->T2->Prop}(h:Q (.ref s.heap.objs.size) { s with heap:=s.heap.push { cls:=.type "set",dict:=none,data:=.set #[] 0 (.fresh 0 0 (!CP w)) } }):T5 (T8 prog w) A (newSet (.type "set")) Q E s:=by unfold newSet setsByText;refine Ua (Ua (Z7 (Um ?_)));dsimp only;simp only [newObj];exact Ua (wpAny_alloc (Um h))
theorem Ady (B I iter:T9)(D:List T9)(sc:Scope)(pos:Pos)(it H:Value)(env:Env):YQ (.SetComp B [⟨I,iter,D,0⟩] sc pos) 0 it H env=(do
  VC iter.pos
  match <- VZ it with
  | none=>pure (.done .next)
  | some v =>
   Xg I it v
   V6 I env v
   let ok <- HK D env
   if ok then (do let v <- Ui B env;VC B.pos;let _ <- call (.builtin "set.add") [H,v])
   again (.compLoop (.SetComp B [⟨I,iter,D,0⟩] sc pos) 0 it H env)):=by rfl
theorem Adz {B O iter:T9}{D:List T9}{sc:Scope}{pos:Pos}{it H:Value}{env:Env}(I:Nat->T2->Prop)(turn:∀ n s,I n s->T5 (T8 prog w) A (VZ it) (λr V=>match r with
   | none=>R (.ok .next) V
   | some v=>T5 (T8 prog w) A (Xg O it v) (λ_ s₂=>T5 (T8 prog w) A (V6 O env v) (λ_ s₃=>T5 (T8 prog w) A (HK D env) (λok Y =>
     if ok=true then T5 (T8 prog w) A (Ui B env) (λx s₅=>T5 (T8 prog w) A (call (.builtin "set.add") [H,x]) (λ_ s₆=>∃ m,m<n/\I m s₆) (λ_ _=>False) s₅) (λ_ _=>False) Y
     else ∃ m,m<n/\I m Y) (λ_ _=>False) s₃) (λ_ _=>False) s₂) (λ_ _=>False) V) (λ_ _=>False) s)(n:Nat)(h:I n s):Vk (T8 prog w) A (.compLoop (.SetComp B [⟨O,iter,D,0⟩] sc pos) 0 it H env) R s:=by
 refine ZN rfl I (λn s hI=>?_) n h;show T5 _ A ((YQ (.SetComp B [⟨O,iter,D,0⟩] sc pos) 0 it H env).onRaise _) _ _ s;refine ZO ?_;rw [Ady];refine Ua (Wt (Ua (CI (turn n s hI) λr V J=>?_)));match r,J with
 | none,J=>exact Um J
 | some v,J =>
  refine Ua (CI J λ_ s₂ h₂=>Ua (CI h₂ λ_ s₃ h₃=>Ua (CI h₃ λok Y L=>?_)));match ok,L with
  | false,L=>exact Um ⟨rfl,L⟩
  | true,L=>exact Ua (Ua (CI L λx s₅ h₅=>Ua (Wt (Ua (CI h₅ λ_ s₆ h₆=>Um (Um ⟨rfl,h₆⟩))))))
theorem AdA {B J iter:T9}{D:List T9}{sc:Scope}{pos:Pos}{it H:Value}{env:Env}(V:Vk (T8 prog w) A (.compLoop (.SetComp B [⟨J,iter,D,0⟩] sc pos) 0 it H env) R s)(h:T5 (T8 prog w) A (XZ it) (λL I=>Vk (T8 prog w) A (.compLoop (.SetComp B [⟨J,iter,D,0⟩] sc pos) 0 L H env) R I) (notedBy (T8 prog w) A env λx I=>R (.error x) I) s) :
  Vk (T8 prog w) A (.compStart (.SetComp B [⟨J,iter,D,0⟩] sc pos) 0 it H env) R s:=by
 refine Z6 ?_;show T5 _ _ ((compStart (.SetComp B [⟨J,iter,D,0⟩] sc pos) 0 it H env).onRaise (λx=>do ZG x env;VC theWindowsPlace)) _ _ s;refine wpAny_notedAt ?_;unfold compStart;show T5 _ _ (ask >>= _) _ _ s;refine Ua (Z7 (wpAny_ite ?_));split
 .first | exact Ua (Um (Um ⟨rfl,V⟩)) | exact Um ⟨rfl,V⟩
 .first | exact Ua (XH (Ua (Wt (Ua (VB h (λL I O=>Um ⟨rfl,O⟩) λ_ _ x=>x))))) | exact XH (Ua (Wt (Ua (VB h (λL I O=>Um ⟨rfl,O⟩) λ_ _ x=>x))))
theorem AdB {a:Addr}{zs:List Str}{z:Str}{tk:Tok}{Q:Value->T2->Prop}(ty:s.TypeIs (.ref a) "set")(hS:Dt w s.heap a zs)(room:zs.length+1<3000)(q:∀ h' B D,U4 a s.heap h'->Dt w h' a B->(if z∈zs then B=zs else B.Perm (zs++[z]))->Q .none { s with heap:=h',toks:=D }):T5 (T8 prog w) A (call (.builtin "set.add") [.ref a,.str z tk]) Q E s:=by
 refine Xv F.slot_set_add ty F.entry_set_add ?_ (F.args_set_add_2 _ _);unfold Builtin.«set.add» Builtin.Frozenset.oneOther;simp only [List.isEmpty_nil,bind_assoc];unfold Builtin.Frozenset.addrOf setAdd;refine Ua (Um ?_);try dsimp only
 refine Ua (Um ?_);try dsimp only
 refine Ua (VY (Ua ((Bv prog w).pyHash (k:=UR z) (Gi _ _ _ _) ?_)));refine add_str (s:={ s with toks:=s.toks+1 }) hS room λh' B b H x I=>?_;show T5 _ _ (ret U8) _ _ _;exact Um ⟨_,rfl,q h' B _ H x I⟩
end
section
variable {X:Cx}{N':List Str}{sc:Scope}{ax:List (Option Nat)}{cl:List (Str×Addr)}{C:Addr}{fp:List Addr}{pins:List (Addr×Obj)}{s₂:T2}{H₂:Hp}{σ:St}
theorem AdC {s:T2}{H:Hp}{D:Addr}{zs:List Str}{z:Str}{tk:Tok}{Q:Value->T2->Prop}{E:Value->T2->Prop}(I:Ad X pins σ H s)(O:H D=some (Cb X.w D zs))(aE:zs.length<2000)(q:∀ h' J,Ad X pins σ (upd H D (Cb X.w D (zs++[z]))) { s with heap:=h',toks:=J }->Q .none { s with heap:=h',toks:=J }):T5 (T8 X.prog X.w) X.A (call (.builtin "set.add") [.ref D,.str z tk]) Q E s:=by
 obtain ⟨⟨V,x,m⟩,_⟩:=(show Bl X.prog X.w H s.heap D (Cb X.w D zs) from I.af D _ O);obtain ⟨o,es,ep,t,Y,e2,r⟩:=Cj (id x);have ty:s.TypeIs (.ref D) "set":=⟨o,Y,e2.1⟩;have le:V.length<=zs.length:=by obtain ⟨_,_,_,_,_,_,_,_,_,nd,_⟩:=Dd (id x);exact LP nd λz B=>(m z).mp B
 refine AdB ty x (by omega) λh' cq J sb x2 B=>?_;have m2:∀ y,y∈cq↔y∈zs++[z]:=λy=>by
  rw [UU,UL,<- m];by_cases L:z∈V
  .rw [if_pos L] at B;rw [B];exact ⟨.inl,λh=>h.elim id λe=>e▸L⟩
  .rw [if_neg L] at B;rw [B.mem_iff,UU,UL]
 refine q h' J (I.write (t':=J) (x:=D) (e:=D) (by rw [O];trivial) (.inl rfl) (λb u hb e=>(sb.2 b hb).trans e) ?_ (LO x2 m2));obtain ⟨o2,_,_,_,g,_⟩:=Cj x2;exact ⟨o2,g⟩
theorem AdD {D:Addr}{h₁:Heap}{tk:Nat}{m:Str->Option Value}(S:BE sc X.env.scope N' X.N ax)(I:Ad X pins σ H₂ s₂)(L:∀ x c,cl.lookup x=some c->X.env.cells.lookup x=some c)(bC:∀ y∈sc.names,y.2=.free->∃ c,cl.lookup y.1=some c)(cm:∀ b∈fp,De X pins H₂ b)(bD:∀ b∈fp,∃ o,s₂.heap.get? b=some o)(hD:D=s₂.heap.objs.size)(hC:C=s₂.heap.objs.size+1)(hk:∀ b o,(s₂.heap.push { cls:=.type "set",dict:=none,data:=.set #[] 0 (.fresh 0 0 (!CP X.w)) }).get? b=some o->h₁.get? b=some o)(bG:h₁.Ns C m) :
  Ad (A4 X N' sc cl C fp pins s₂ H₂) [] (EF ax σ) (upd H₂ D (Cb X.w D [])) { s₂ with heap:=h₁,toks:=tk }:=by
 subst hD;have Y:s₂.heap.objs.size<=C:=by rw [hC];exact Vl _
 have ok:=EG S I L bC Y cm bD;have I3:Ad X pins σ (upd H₂ s₂.heap.objs.size (Cb X.w s₂.heap.objs.size [])) { s₂ with heap:=s₂.heap.push { cls:=.type "set",dict:=none,data:=.set #[] 0 (.fresh 0 0 (!CP X.w)) },toks:=tk }:=I.laid (t':=tk) (λb o q=>UA _ q) (Uq _) (LO (PY (Va _ rfl)) λz=>Iff.rfl);have I4:Ad X pins σ (upd H₂ s₂.heap.objs.size (Cb X.w s₂.heap.objs.size [])) { s₂ with heap:=h₁,toks:=tk }:=I3.kept (t':=tk) hk;have B:∀ b o,s₂.heap.get? b=some o->h₁.get? b=some o:=λb o e=>hk b o (UA _ e);have i6:∀ b o,s₂.heap.get? b=some o->b≠s₂.heap.objs.size:=λb o e=>UB (Ut e);have fL:∀ x c,cl.lookup x=some c->∃ v o,s₂.heap.get? c=some o/\o.data=.cell v:=λx c e=>by
  obtain ⟨v,o,H,hd⟩:=AQ (I.cell x c (L x c e));exact ⟨v,o,H,hd⟩
 refine ⟨ok,rfl,I.bare,Un.laid B (Uq _) I.fresh,⟨m,bG,λi x v e1 e2 e3=>?_⟩,λx c e=>?_,?_,λx c e=>?_,λp hp=>?_,I4.af,?_⟩
 .have J:(ax[i]?).map (λo=>o.bind λj=>(σ[j]?).join)=some (some v):=by
   have:=e2;unfold EF at this;rwa [Uj] at this
  cases q:ax[i]? with
  | none=>rw [q] at J;cases J
  | some oj =>
   rw [q,Vw] at J;cases oj with
   | none=>cases J
   | some j =>
    have O:(σ[j]?).join=some v:=by simpa using J
    have e5:σ[j]?=some (some v):=by
     cases z:σ[j]? with
     | none=>rw [z] at O;cases O
     | some w=>rw [z] at O;rw [<- O];rfl
    obtain ⟨x',n1,n2,n3,V⟩:=Av (S.out i j q);have bZ:N'[i]?=some x:=e1;rw [n1] at bZ;cases bZ;obtain ⟨m2,gu,hl⟩:=Ag I.loc;have hv:Gj X.env.scope x:=V.elim (λz=>.inr (.inl z)) λz=>.inr (.inr z);obtain ⟨u,r,l⟩:=Ag (hl j x v n2 e5 hv);refine ⟨u,r,.inr ⟨Jy n3,?_⟩⟩;rcases l with ⟨k,_⟩ | ⟨_,c,ec,z⟩
    .have k':X.env.scope.names.lookup x=some .local:=k;rcases V with z | z<;>rw [k'] at z<;>cases z
    .obtain ⟨c',fM⟩:=bC _ (Wi n3) rfl;have:=L x c' fM;rw [ec] at this;cases this;obtain ⟨o,H,hd⟩:=Ag z;exact ⟨c,fM,o,B c o H,hd⟩
 .obtain ⟨v,o,H,hd⟩:=AQ (fL x c e);exact ⟨v,o,B c o H,hd⟩
 .show upd H₂ s₂.heap.objs.size (Cb X.w s₂.heap.objs.size []) C=none;rw [Au (by rw [hC];exact Yh _)];exact I.af.fresh Y
 .obtain ⟨v,o,H,hd⟩:=AQ (fL x c e);show upd H₂ s₂.heap.objs.size (Cb X.w s₂.heap.objs.size []) c=none;rw [Au (i6 c o H)];exact I.bL x c (L x c e)
 .have bN:p∈X.pn++pins:=by simpa [A4] using hp
  obtain ⟨e,n,ne,nf,d⟩:=AD (I.pin p bN);obtain ⟨_,V,_⟩:=AD (I4.pin p bN);exact ⟨B _ _ e,V,UB (UN (Ut e) Y),λz=>(Uo.mp (I.cZ _ z)).elim ne nf,d⟩
 .show (ax.map _).length=N'.length;rw [T7];exact S.len
def P0 (w:T6)(ax:List (Option Nat))(wi:TI)(g:TG)(tt:TT)(te:TE):TE:=λσ H Q=>wi σ H λJ H1=>∀ D,H1 D=none->∃ W:Nat->Nat->St->Hp->Prop,(∃ m,W 0 m (EF ax σ) (upd H1 D (Cb w D [])))/\∀ i m σ' H',W i m σ' H' ->
 (J.stop i H'/\Q (.ref D) H')\/(J.go i H'/\∃ N:St->Hp->Prop,(∀ σ2 H2,N σ2 H2->∃ m',m'<m/\W (i+1) m' σ2 H2)/\∀ x H2,J.bY i H' x H2->g x σ' H2 λσ3 H3=>tt σ3 H3 λb H4 =>
  if b=true then te σ3 H4 λv H5=>∃ zs z,v=.str z/\H5 D=some (Cb w D zs)/\zs.length<2000/\N σ3 (upd H5 D (Cb w D (zs++[z]))) else N σ3 H4)
theorem AdE {elt tg iter:T9}{O:List T9}{sc:Scope}{ax:List (Option Nat)}{N':List Str}{pos:Pos}{wi:TI}{g:TG}{tt:TT}{te:TE}{s:T2}{H:Hp}{use:Option (Value->Sem Unit)}{Qv:Value->T2->Prop}{Q:VK}(hc:X.calm=true)(S:BE sc X.env.scope N' X.N ax)(hi:PI X tg iter wi)(hg:∀ cl C fp pins s₂ H₂,PG (A4 X N' sc cl C fp pins s₂ H₂) tg g)(ht:∀ cl C fp pins s₂ H₂,EH (A4 X N' sc cl C fp pins s₂ H₂) O tt)(he:∀ cl C fp pins s₂ H₂,PE (A4 X N' sc cl C fp pins s₂ H₂) elt te)(hs:∀ x,WE iter X.env x=pure x)(I:Ad X pins σ H s)(h:P0 X.w ax wi g tt te σ H Q)(post:∀ D C B s' m,(∀ h',U4 C s'.heap h'->Ad X pins σ B { s' with heap:=h' })->Ad X pins σ B s'->s'.heap.Ns C m->(∀ x c,X.env.cells.lookup x=some c->c≠C)->X.env.locals≠C->B C=none ->
   (∀ σ' V h',Ad X pins σ' B V->U4 C V.heap h'->Ad X pins σ' B { V with heap:=h' })->Q (.ref D) B->XF (T8 X.prog X.w) X.A X.xe use Qv (.ref D) C (.ok .next) s') :
  T5 (T8 X.prog X.w) X.A (YS (.SetComp elt [⟨tg,iter,O,0⟩] sc pos) sc X.env (ZP [⟨tg,iter,O,0⟩] pos) (newSet (.type "set")) false (Ui iter X.env) use) Qv X.xe s:=by
 obtain ⟨cl,i7,aY,bC⟩:=Lj (env:=X.env) (sc:=sc) λy hy hf=>I.ok.has y.1 (S.frees y hy hf);refine ZQ rfl hs i7 S.kind S.one (Ap (hi pins s σ H _ I h) λxv s₁ h₁=>Ap h₁ λiT s₂ h₂=>?_);obtain ⟨it,fp,tn,J,H₂,e,L,T,fN,f₂,rd⟩:=Dm h₂;subst e;refine Adx (ZR S.kE (by intro y hy;simp at hy) (λh₁ bG cI=>?_) S.kind);dsimp only at bG cI ⊢;have bD:∀ b∈fp,∃ o,s₂.heap.get? b=some o:=λb hb=>let ⟨o,e,_⟩:=T.obj _ _ fN b hb;⟨o,e⟩;have cx:(s₂.heap.push { cls:=.type "set",dict:=none,data:=.set #[] 0 (.fresh 0 0 (!CP X.w)) }).objs.size=s₂.heap.objs.size+1:=V0 ..;have hk:∀ b o,(s₂.heap.push { cls:=.type "set",dict:=none,data:=.set #[] 0 (.fresh 0 0 (!CP X.w)) }).get? b=some o->h₁.get? b=some o:=λb o e=>cI.extBut b o (UB (Ut e)) (UA _ e);have IB:=AdD (tk:=s₂.toks+([]:List (Str×Value)).length) S L aY bC f₂ bD rfl cx hk bG;generalize (s₂.heap.push { cls:=.type "set",dict:=none,data:=.set #[] 0 (.fresh 0 0 (!CP X.w)) }).objs.size=C at cx bG cI IB ⊢;generalize hD:s₂.heap.objs.size=D at IB cx ⊢;have aQ:s₂.heap.objs.size<=C:=by rw [hD,cx];exact Vl _
 obtain ⟨W,⟨m0,w0⟩,turn⟩:=Ag (rd D (by rw [<- hD];exact L.fresh));have dm:∀{B:Hp},(∀ b∈fp,B b=none)->∀ b∈fp,De (A4 X N' sc cl C fp pins s₂ H₂) [] B b:=λhn b hb=>by
  obtain ⟨z1,z2⟩:=(EG S L aY bC aQ f₂ bD).dH b hb;exact ⟨hn b hb,z1,(EG S L aY bC aQ f₂ bD).cS b hb,.inl hb,z2,λp hp=>(f₂ b hb).2.2.2.2.2 p (by simpa [A4] using hp)⟩
 have i8:∀ b∈fp,(upd H₂ D (Cb X.w D [])) b=none:=λb hb=>by
  obtain ⟨o,ho⟩:=bD b hb;rw [Au (by rw [<- hD];exact UB (Ut ho))];exact (f₂ b hb).1
 have aS:tn 0 h₁:=T.keep _ _ _ fN λb hb o e=>hk b o (UA _ e);have loop:Vk (T8 X.prog X.w) X.A (.compLoop (.SetComp elt [⟨tg,iter,O,0⟩] sc pos) 0 (.ref it) (.ref D) (YR sc cl C X.env)) (XF (T8 X.prog X.w) X.A X.xe use Qv (.ref D) C) { s₂ with heap:=h₁,toks:=s₂.toks+([]:List (Str×Value)).length }:=by
  refine Adz (λn s'=>∃ i σ' B,Ad (A4 X N' sc cl C fp pins s₂ H₂) [] σ' B s'/\tn i s'.heap/\(∀ b∈fp,B b=none)/\W i n σ' B) ?_ m0 ⟨0,_,_,IB,aS,i8,w0⟩;rintro n s3 ⟨i,σ3,H3,I3,dg,dh,w3⟩;rcases turn i n σ3 H3 w3 with ⟨stop,qn⟩ | ⟨go,N,hN,VD⟩
  .refine Ap (T.done (A4 X N' sc cl C fp pins s₂ H₂) rfl rfl rfl hc i [] s3 σ3 H3 _ I3 (dm dh) dg stop) λr s4 ⟨hr,I4⟩=>?_;subst hr;have JX:=Ll L f₂ I4;obtain ⟨m,hn,_⟩:=Ag I4.loc;have cn:∀ x c,X.env.cells.lookup x=some c->c≠C:=λx c e z=>by
    obtain ⟨v,q⟩:=L.cell x c e;exact absurd (UN q.lt (by rw [z];exact aQ)) (VA _)
   have gone:∀ σ' V h',Ad X pins σ' H3 V->U4 C V.heap h'->Ad X pins σ' H3 { V with heap:=h' }:=λσ' V h' K3 i9 =>
    K3.turned (t':=V.toks) (it:=C) (λb o hb e=>(i9.2 b hb).trans e) I4.free (Wf (UN L.lt aQ)) (.inr (U7 L.sz aQ)) cn λp hp z=>by
     exact absurd (UN (Ut (L.pin p hp).1) (by rw [z];exact aQ)) (VA _)
   exact post D C H3 s4 m (λh' hs'=>gone σ s4 h' JX hs') JX hn cn (UB (UN L.lt aQ)) I4.free gone qn
  .refine Ap (T.item (A4 X N' sc cl C fp pins s₂ H₂) rfl rfl rfl hc i [] s3 σ3 H3 _ I3 (dm dh) dg go) λr s4 Y=>CL Y λu hr h4=>?_;subst hr;refine Ap h4 λ_ s5 Y=>AG Y λx H5 I5 r5 ⟨y5,cg,gm⟩=>?_;have gp:=I5.pinned (dm gm) (T.obj _ _ cg);refine Ap (hg cl C fp pins s₂ H₂ _ s5 σ3 H5 x u _ gp r5 (VD x H5 y5)) λ_ s6 Y=>Hf Y λσ6 H6 I6 q6=>?_;refine Ap (ht cl C fp pins s₂ H₂ _ s6 σ6 H6 _ I6 q6) λok s7 Y=>CL Y λH7 I7 q7=>?_;have again:∀{H8:Hp}{s8:T2},Ad (A4 X N' sc cl C fp pins s₂ H₂) ([]++FF fp s5.heap) σ6 H8 s8->N σ6 H8->∃ m,m<n/\∃ i σ' B,Ad (A4 X N' sc cl C fp pins s₂ H₂) [] σ' B s8/\tn i s8.heap/\(∀ b∈fp,B b=none)/\W i m σ' B:=λ{H8 s8} I8 n8=>by
    obtain ⟨m',hm,w8⟩:=Ag (hN σ6 H8 n8);refine ⟨m',hm,i+1,σ6,H8,I8.gj,T.keep _ _ _ cg λb hb o e=>(I8.pin (b,o) (U0 _ (U0 _ (Fd hb e)))).1,λb hb=>?_,w8⟩;obtain ⟨o,e,d⟩:=Ag (T.obj _ _ cg b hb);exact (I8.pin (b,o) (U0 _ (U0 _ (Fd hb e)))).2.1
   cases ok with
   | false=>exact again I7 q7
   | true =>
    refine Ap (he cl C fp pins s₂ H₂ _ s7 σ6 H7 _ I7 q7) λy s8 Y=>AG Y λv H8 I8 r8 q8=>?_;replace q8:=AY q8;obtain ⟨zs,z,rfl,hy,aE,n8⟩:=q8
    obtain ⟨tk,rfl⟩:=r8;exact AdC (X:=A4 X N' sc cl C fp pins s₂ H₂) I8 hy aE λh9 tk9 I9=>again I9 n8
 exact AdA loop (T.self _ 0 _ _ _ aS loop)
theorem AdF {B O iter:T9}{L:List T9}{sc:Scope}{ax:List (Option Nat)}{N':List Str}{pos:Pos}{Y:TI}{g:TG}{tt:TT}{te:TE}{w:T6}(hw:X.w=w)(hc:X.calm=true)(S:BE sc X.env.scope N' X.N ax)(hi:PI X O iter Y)(hg:∀ cl C fp pins s₂ H₂,PG (A4 X N' sc cl C fp pins s₂ H₂) O g)(ht:∀ cl C fp pins s₂ H₂,EH (A4 X N' sc cl C fp pins s₂ H₂) L tt)(he:∀ cl C fp pins s₂ H₂,PE (A4 X N' sc cl C fp pins s₂ H₂) B te)(hs:∀ x,WE iter X.env x=pure x:=by intro _;rfl):PE X (.SetComp B [⟨O,iter,L,0⟩] sc pos) (P0 w ax Y g tt te):=by subst hw;intro pins s σ H Q I h;rw [arm_eval_SetComp];refine AdE (use:=none) (Q:=Q) hc S hi hg ht he hs I h λD C H' s' m g1 J hn cn ln fr g2 q=>?_;exact ⟨m,hn,λh' V=>⟨.ref D,H',g1 h' V,rfl,q⟩⟩
end
section
variable {prog:Ub}{w:T6}{A:Us}{E:Value->T2->Prop}{s:T2}
structure Sti (h:Heap)(I a:Addr)(o:Obj)(first:Value)(i n ep:Nat):Prop where
 it:h.get? I=some { cls:=.type "set_iterator",data:=.fields #[first,.int i 0,.ref a,.int n 0,.int ep 0] }
 st:h.get? a=some o
end
section
variable {prog:Ub}{w:T6}{A:Us}{E:Value->T2->Prop}{s:T2}
end
theorem AdG {ts:List Str}{i:Nat}{z:Str}(h:ts[i]?=some z):ts.getD i UJ=z:=by rw [UM,h];rfl
section
variable {prog:Ub}{w:T6}{A:Us}{E:Value->T2->Prop}{s:T2}
end
section
variable {prog:Ub}{w:T6}{A:Us}{E:Value->T2->Prop}{s:T2}
end
section
variable {X:Cx}
theorem LQ {vs:List Value}{ts:List Str}(r:Xu vs ts){i:Nat}(B:i<ts.length):∃ tk,vs.getD i U8=Vc ts[i] tk:=by obtain ⟨u,e,tk,rfl⟩:=(FR r).get (i:=i) (x:=.str ts[i]) (by rw [Uj,Uu B];rfl);exact ⟨tk,by rw [UM,e];rfl⟩
theorem AdH {prog:Ub}{w:T6}{A:Us}{vs:List Value}{ts:List Str}{s:T2}(r:Xu vs ts)(H:ts.Nodup)(two:2<=vs.length):HY prog w A (λi=>(ts.getD i UJ).cps.toList) vs s:=by
 have Y:ts.length=vs.length:=by have:=(FR r).length;rwa [T7] at this
 have I:keyKind' vs.toArray=pure oneType':=by
  match vs,two,r with
  | v1 :: v2 :: rest,_,r=>exact keyKind_strs r
 unfold HY;rw [I];refine Um ⟨rfl,⟨λi j J L ne e=>?_,λi j C J L hq=>?_⟩⟩
 .have B:i<ts.length:=by omega
  have D:j<ts.length:=by omega
  rw [UM,UM,Uu B,Uu D] at e;exact ne ((XT H).mp (PQ e))
 .have B:i<ts.length:=by omega
  have D:j<ts.length:=by omega
  obtain ⟨t1,O⟩:=LQ r B;obtain ⟨t2,V⟩:=LQ r D;show T5 _ A (keyLt' oneType' (vs.getD i U8) (vs.getD j U8)) C _ _;rw [O,V];rw [UM,UM,Uu B,Uu D] at hq;exact PySem.W.kas_lt_str hq
end
section
variable {K:T3}{D:Addr}{z:Str}{g:TG}{tt:TT}{te:TE}{σ0:St}{H:Hp}{Q:Hp->Prop}
theorem AdI (Pv:Nat->St->Hp->Prop)(V:Pv 0 σ0 (upd H D (.lst [])))(hs:∀ i c σ B,z.cps.toList[i]?=some c->Pv i σ B->g (.str ⟨#[c]⟩) σ B (JB D tt te (Pv (i+1))))(hd:∀ σ B,Pv z.cps.toList.length σ B->Q B) :
  ∃ W:Nat->Nat->St->Hp->Prop,(∃ m,W 0 m σ0 (upd H D (.lst [])))/\∀ i m σ' B,W i m σ' B ->
   ((Gz z).stop i B/\Q B)\/((Gz z).go i B/\∃ N:St->Hp->Prop,(∀ σ2 I,N σ2 I->∃ m',m'<m/\W (i+1) m' σ2 I)/\∀ x I,(Gz z).bY i B x I->g x σ' I λσ3 Y=>tt σ3 Y λb J =>
    if b=true then te σ3 J λv L=>∃ ys,L D=some (.lst ys)/\ys.length<sizeLine/\N σ3 (upd L D (.lst (ys++[v]))) else N σ3 J):=by
 have hl:z.cps.toList.length=z.cps.size:=by simp
 rw [hl] at hd;refine ⟨λi m σ H=>m=z.cps.size - i/\i<=z.cps.size/\Pv i σ H,⟨_,rfl,U1 _,V⟩,?_⟩;rintro i m σ H1 ⟨rfl,hi,p⟩;by_cases O:i<z.cps.size
 .refine .inr ⟨O,Pv (i+1),λσ' B p'=>⟨z.cps.size - (i+1),by omega,rfl,O,p'⟩,λx B y=>?_⟩;obtain ⟨e,c,hc,e2⟩:=y;subst e e2;exact hs i c σ _ hc p
 .have e:i=z.cps.size:=by omega
  subst e;exact .inl ⟨Uq _,hd σ H1 p⟩
theorem AdJ {w:T6}{a:Addr}{xs:List V}(Pv:Nat->St->Hp->Prop)(h0:Pv 0 σ0 (upd H D (Cb w D [])))(hl:∀ i σ H,i<=xs.length->Pv i σ H->Bg K H a xs)(hs:∀ i x σ B,xs[i]?=some x->Pv i σ B->g x σ B λσ3 O=>tt σ3 O λb I=>if b=true then te σ3 I λv J=>∃ zs z,v=.str z/\J D=some (Cb w D zs)/\zs.length<2000/\Pv (i+1) σ3 (upd J D (Cb w D (zs++[z]))) else Pv (i+1) σ3 I)(hd:∀ σ B,Pv xs.length σ B->Q B) :
  ∃ W:Nat->Nat->St->Hp->Prop,(∃ m,W 0 m σ0 (upd H D (Cb w D [])))/\∀ i m σ' B,W i m σ' B ->
   ((DV K a).stop i B/\Q B)\/((DV K a).go i B/\∃ N:St->Hp->Prop,(∀ σ2 L,N σ2 L->∃ m',m'<m/\W (i+1) m' σ2 L)/\∀ x L,(DV K a).bY i B x L->g x σ' L λσ3 O=>tt σ3 O λb I =>
    if b=true then te σ3 I λv J=>∃ zs z,v=.str z/\J D=some (Cb w D zs)/\zs.length<2000/\N σ3 (upd J D (Cb w D (zs++[z]))) else N σ3 I):=by
 refine ⟨λi m σ H=>m=xs.length - i/\i<=xs.length/\Pv i σ H,⟨xs.length,by simp,U1 _,h0⟩,?_⟩;rintro i m σ Y ⟨rfl,hi,p⟩;have q:=hl i σ Y hi p;by_cases ak:i<xs.length
 .refine .inr ⟨⟨xs,xs[i],q,by simp [ak]⟩,Pv (i+1),λσ' B p'=>⟨xs.length - (i+1),by omega,rfl,ak,p'⟩,λx B y=>?_⟩;obtain ⟨rfl,hy⟩:=y;exact hs i x σ _ (hy xs q) p
 .have e:i=xs.length:=by omega
  subst e;exact .inl ⟨⟨xs,q,Uq _⟩,hd σ Y p⟩
end
section
variable {X:Cx}{CX:B0}{k:Nat}{f C:Addr}{fd:Uk}{ps:List Str}{sp:Sp}{x:Str}{p pos:Pos}{e:T9}{es:List T9}{t:TA}{W:St->XK}
theorem AdK {D a b:T9}{B:TA}(g:Gm X.env.scope "range")(H:X.mg "range"=none)(I:PA X [a,b] B)(hs:Ul [a,b] X.env=[(false,Ui a X.env),(false,Ui b X.env)]:=by rfl)(J:Ul [b] X.env=[(false,Ui b X.env)]:=by rfl):PI X D (.Call (.Name "range" p) [a,b] [] pos) (Oj B):=AaH g.gl H I hs J
theorem GF {i:Int}(g:Gm X.env.scope x)(B:∃ t,X.mg x=some (Vg i t)):PE X (.Name x pos) (tC (.int i)):=by obtain ⟨t,h⟩:=B;exact Jv g h ⟨t,rfl⟩
theorem GG {z:Str}(g:Gm X.env.scope x)(B:∃ t,X.mg x=some (Vc z t)):PE X (.Name x pos) (tC (.str z)):=by obtain ⟨t,h⟩:=B;exact Jv g h ⟨t,rfl⟩
end
section
variable {X:Cx}
end
section
variable {prog:Ub}{w:T6}{A:Us}{R:Xj->T2->Prop}{E:Value->T2->Prop}{s:T2}
theorem AdL {O V L iter:T9}{B:List T9}{sc:Scope}{pos:Pos}{it:Value}{D:Addr}{env:Env}(I:Nat->T2->Prop)(turn:∀ n s,I n s->T5 (T8 prog w) A (VZ it) (λr Y=>match r with
   | none=>R (.ok .next) Y
   | some v=>T5 (T8 prog w) A (Xg L it v) (λ_ s₂=>T5 (T8 prog w) A (V6 L env v) (λ_ s₃=>T5 (T8 prog w) A (HK B env) (λok s₄ =>
     if ok=true then T5 (T8 prog w) A (Ui O env) (λx s₅=>T5 (T8 prog w) A (Ui V env) (λy s₆=>T5 (T8 prog w) A (dictSet D x y) (λ_ s₇=>∃ m,m<n/\I m s₇) (λ_ _=>False) s₆) (λ_ _=>False) s₅) (λ_ _=>False) s₄
     else ∃ m,m<n/\I m s₄) (λ_ _=>False) s₃) (λ_ _=>False) s₂) (λ_ _=>False) Y) (λ_ _=>False) s)(n:Nat)(h:I n s):Vk (T8 prog w) A (.compLoop (.DictComp O V [⟨L,iter,B,0⟩] sc pos) 0 it (.ref D) env) R s:=by
 refine ZN rfl I (λn s hI=>?_) n h;show T5 _ A ((YQ (.DictComp O V [⟨L,iter,B,0⟩] sc pos) 0 it (.ref D) env).onRaise _) _ _ s;refine ZO ?_;rw [compTurn_dict];refine Ua (Wt (Ua (CI (turn n s hI) λr Y H=>?_)));match r,H with
 | none,H=>exact Um H
 | some v,H =>
  refine Ua (CI H λ_ s₂ h₂=>Ua (CI h₂ λ_ s₃ h₃=>Ua (CI h₃ λok s₄ J=>?_)));match ok,J with
  | false,J=>exact Um ⟨rfl,J⟩
  | true,J=>exact Ua (Ua (CI J λx s₅ h₅=>Ua (VY (CI h₅ λy s₆ h₆=>Ua (Wt (VY (CI h₆ λ_ s₇ h₇=>Um ⟨rfl,h₇⟩)))))))
end
section
variable {X:Cx}{N':List Str}{sc:Scope}{ax:List (Option Nat)}{cl:List (Str×Addr)}{C:Addr}{fp:List Addr}{pins:List (Addr×Obj)}{s₂:T2}{H₂:Hp}{σ:St}
theorem AdM {s:T2}{H:Hp}{D:Addr}{kvs:List (Ar×V)}{k:Ar}{v:V}{x y:Value}{Q:Unit->T2->Prop}{E:Value->T2->Prop}(I:Ad X pins σ H s)(e:H D=some (.dK kvs))(aE:kvs.length<sizeLine)(rk:AE (kV k) x)(O:AE v y)(q:∀ J,Ad X pins σ (upd H D (.dK (AX kvs k v))) J->Q () J):T5 (T8 X.prog X.w) X.A (dictSet D x y) Q E s:=by
 obtain ⟨z,hd,vs,B,Y⟩:=AD (LD I.af e);have hz:vs.length<=sizeLine:=by rw [<- B.length];exact z
 have hl:(AX kvs k v).length<=sizeLine:=by have:=JE kvs k v;omega
 refine wpAny_dictSet_pairs (hsz:=hz) (Fo rk) Y λh' L hs=>q _ ?_;have he:∃ q,h'.get? D=some q:=let ⟨q,_,_,hq,_⟩:=L;⟨q,hq⟩;exact JH I (by rw [e];exact VE) hs he (LF hl hd (B.put k O) L)
theorem AdN {D:Addr}{h₁:Heap}{tk:Nat}{m:Str->Option Value}(S:BE sc X.env.scope N' X.N ax)(I:Ad X pins σ H₂ s₂)(L:∀ x c,cl.lookup x=some c->X.env.cells.lookup x=some c)(bC:∀ y∈sc.names,y.2=.free->∃ c,cl.lookup y.1=some c)(cm:∀ b∈fp,De X pins H₂ b)(bD:∀ b∈fp,∃ o,s₂.heap.get? b=some o)(hD:D=s₂.heap.objs.size)(hC:C=s₂.heap.objs.size+1)(hk:∀ b o,(s₂.heap.push { cls:=.type "dict",dict:=none,data:=.dict #[] }).get? b=some o->h₁.get? b=some o)(bG:h₁.Ns C m) :
  Ad (A4 X N' sc cl C fp pins s₂ H₂) [] (EF ax σ) (upd H₂ D (.dK [])) { s₂ with heap:=h₁,toks:=tk }:=by
 subst hD;have Y:s₂.heap.objs.size<=C:=by rw [hC];exact Vl _
 have ok:=EG S I L bC Y cm bD;have I3:Ad X pins σ (upd H₂ s₂.heap.objs.size (.dK [])) { s₂ with heap:=s₂.heap.push { cls:=.type "dict",dict:=none,data:=.dict #[] },toks:=tk }:=I.laid (t':=tk) (λb o q=>UA _ q) (Uq _) (LH s₂.heap I.big);have I4:Ad X pins σ (upd H₂ s₂.heap.objs.size (.dK [])) { s₂ with heap:=h₁,toks:=tk }:=I3.kept (t':=tk) hk;have B:∀ b o,s₂.heap.get? b=some o->h₁.get? b=some o:=λb o e=>hk b o (UA _ e);have i6:∀ b o,s₂.heap.get? b=some o->b≠s₂.heap.objs.size:=λb o e=>UB (Ut e);have fL:∀ x c,cl.lookup x=some c->∃ v o,s₂.heap.get? c=some o/\o.data=.cell v:=λx c e=>by
  obtain ⟨v,o,H,hd⟩:=AQ (I.cell x c (L x c e));exact ⟨v,o,H,hd⟩
 refine ⟨ok,rfl,I.bare,Un.laid B (Uq _) I.fresh,⟨m,bG,λi x v e1 e2 e3=>?_⟩,λx c e=>?_,?_,λx c e=>?_,λp hp=>?_,I4.af,?_⟩
 .have J:(ax[i]?).map (λo=>o.bind λj=>(σ[j]?).join)=some (some v):=by
   have:=e2;unfold EF at this;rwa [Uj] at this
  cases q:ax[i]? with
  | none=>rw [q] at J;cases J
  | some oj =>
   rw [q,Vw] at J;cases oj with
   | none=>cases J
   | some j =>
    have O:(σ[j]?).join=some v:=by simpa using J
    have e5:σ[j]?=some (some v):=by
     cases z:σ[j]? with
     | none=>rw [z] at O;cases O
     | some w=>rw [z] at O;rw [<- O];rfl
    obtain ⟨x',n1,n2,n3,V⟩:=Av (S.out i j q);have bZ:N'[i]?=some x:=e1;rw [n1] at bZ;cases bZ;obtain ⟨m2,gu,hl⟩:=Ag I.loc;have hv:Gj X.env.scope x:=V.elim (λz=>.inr (.inl z)) λz=>.inr (.inr z);obtain ⟨u,r,l⟩:=Ag (hl j x v n2 e5 hv);refine ⟨u,r,.inr ⟨Jy n3,?_⟩⟩;rcases l with ⟨k,_⟩ | ⟨_,c,ec,z⟩
    .have k':X.env.scope.names.lookup x=some .local:=k;rcases V with z | z<;>rw [k'] at z<;>cases z
    .obtain ⟨c',fM⟩:=bC _ (Wi n3) rfl;have:=L x c' fM;rw [ec] at this;cases this;obtain ⟨o,H,hd⟩:=Ag z;exact ⟨c,fM,o,B c o H,hd⟩
 .obtain ⟨v,o,H,hd⟩:=AQ (fL x c e);exact ⟨v,o,B c o H,hd⟩
 .show upd H₂ s₂.heap.objs.size (.dK []) C=none;rw [Au (by rw [hC];exact Yh _)];exact I.af.fresh Y
 .obtain ⟨v,o,H,hd⟩:=AQ (fL x c e);show upd H₂ s₂.heap.objs.size (.dK []) c=none;rw [Au (i6 c o H)];exact I.bL x c (L x c e)
 .have bN:p∈X.pn++pins:=by simpa [A4] using hp
  obtain ⟨e,n,ne,nf,d⟩:=AD (I.pin p bN);obtain ⟨_,V,_⟩:=AD (I4.pin p bN);exact ⟨B _ _ e,V,UB (UN (Ut e) Y),λz=>(Uo.mp (I.cZ _ z)).elim ne nf,d⟩
 .show (ax.map _).length=N'.length;rw [T7];exact S.len
def P6 (ax:List (Option Nat))(wi:TI)(g:TG)(tt:TT)(tk tv:TE):TE:=λσ H Q=>wi σ H λJ H1=>∀ D,H1 D=none->∃ W:Nat->Nat->St->Hp->Prop,(∃ m,W 0 m (EF ax σ) (upd H1 D (.dK [])))/\∀ i m σ' H',W i m σ' H' ->
 (J.stop i H'/\Q (.ref D) H')\/(J.go i H'/\∃ N:St->Hp->Prop,(∀ σ2 H2,N σ2 H2->∃ m',m'<m/\W (i+1) m' σ2 H2)/\∀ x H2,J.bY i H' x H2->g x σ' H2 λσ3 H3=>tt σ3 H3 λb H4 =>
  if b=true then tk σ3 H4 λk H5=>tv σ3 H5 λv H6=>∃ kvs kk,k=kV kk/\H6 D=some (.dK kvs)/\kvs.length<sizeLine/\N σ3 (upd H6 D (.dK (AX kvs kk v))) else N σ3 H4)
theorem AdO {kx vx tg iter:T9}{V:List T9}{sc:Scope}{ax:List (Option Nat)}{N':List Str}{pos:Pos}{wi:TI}{g:TG}{tt:TT}{te tv:TE}{s:T2}{H:Hp}{use:Option (Value->Sem Unit)}{Qv:Value->T2->Prop}{Q:VK}(hc:X.calm=true)(S:BE sc X.env.scope N' X.N ax)(hi:PI X tg iter wi)(hg:∀ cl C fp pins s₂ H₂,PG (A4 X N' sc cl C fp pins s₂ H₂) tg g)(ht:∀ cl C fp pins s₂ H₂,EH (A4 X N' sc cl C fp pins s₂ H₂) V tt)(he:∀ cl C fp pins s₂ H₂,PE (A4 X N' sc cl C fp pins s₂ H₂) kx te)(hv:∀ cl C fp pins s₂ H₂,PE (A4 X N' sc cl C fp pins s₂ H₂) vx tv)(hs:∀ x,WE iter X.env x=pure x)(I:Ad X pins σ H s)(h:P6 ax wi g tt te tv σ H Q)(post:∀ D C B s' m,(∀ h',U4 C s'.heap h'->Ad X pins σ B { s' with heap:=h' })->Ad X pins σ B s'->s'.heap.Ns C m->(∀ x c,X.env.cells.lookup x=some c->c≠C)->X.env.locals≠C->B C=none ->
   (∀ σ' Y h',Ad X pins σ' B Y->U4 C Y.heap h'->Ad X pins σ' B { Y with heap:=h' })->Q (.ref D) B->XF (T8 X.prog X.w) X.A X.xe use Qv (.ref D) C (.ok .next) s') :
  T5 (T8 X.prog X.w) X.A (YS (.DictComp kx vx [⟨tg,iter,V,0⟩] sc pos) sc X.env (ZP [⟨tg,iter,V,0⟩] pos) newDict false (Ui iter X.env) use) Qv X.xe s:=by
 obtain ⟨cl,i7,aY,bC⟩:=Lj (env:=X.env) (sc:=sc) λy hy hf=>I.ok.has y.1 (S.frees y hy hf);refine ZQ rfl hs i7 S.kind S.one (Ap (hi pins s σ H _ I h) λxv s₁ h₁=>Ap h₁ λiT s₂ h₂=>?_);obtain ⟨it,fp,tn,J,H₂,e,O,T,fN,f₂,rd⟩:=Dm h₂;subst e;refine Yi (ZR S.kE (by intro y hy;simp at hy) (λh₁ bG cI=>?_) S.kind);dsimp only at bG cI ⊢;have bD:∀ b∈fp,∃ o,s₂.heap.get? b=some o:=λb hb=>let ⟨o,e,_⟩:=T.obj _ _ fN b hb;⟨o,e⟩;have cx:(s₂.heap.push { cls:=.type "dict",dict:=none,data:=.dict #[] }).objs.size=s₂.heap.objs.size+1:=V0 ..;have hk:∀ b o,(s₂.heap.push { cls:=.type "dict",dict:=none,data:=.dict #[] }).get? b=some o->h₁.get? b=some o:=λb o e=>cI.extBut b o (UB (Ut e)) (UA _ e);have IB:=AdN (tk:=s₂.toks+([]:List (Str×Value)).length) S O aY bC f₂ bD rfl cx hk bG;generalize (s₂.heap.push { cls:=.type "dict",dict:=none,data:=.dict #[] }).objs.size=C at cx bG cI IB ⊢;generalize hD:s₂.heap.objs.size=D at IB cx ⊢;have aQ:s₂.heap.objs.size<=C:=by rw [hD,cx];exact Vl _
 obtain ⟨W,⟨m0,w0⟩,turn⟩:=Ag (rd D (by rw [<- hD];exact O.fresh));have dm:∀{B:Hp},(∀ b∈fp,B b=none)->∀ b∈fp,De (A4 X N' sc cl C fp pins s₂ H₂) [] B b:=λhn b hb=>by
  obtain ⟨z1,z2⟩:=(EG S O aY bC aQ f₂ bD).dH b hb;exact ⟨hn b hb,z1,(EG S O aY bC aQ f₂ bD).cS b hb,.inl hb,z2,λp hp=>(f₂ b hb).2.2.2.2.2 p (by simpa [A4] using hp)⟩
 have i8:∀ b∈fp,(upd H₂ D (.dK [])) b=none:=λb hb=>by
  obtain ⟨o,ho⟩:=bD b hb;rw [Au (by rw [<- hD];exact UB (Ut ho))];exact (f₂ b hb).1
 have aS:tn 0 h₁:=T.keep _ _ _ fN λb hb o e=>hk b o (UA _ e);have loop:Vk (T8 X.prog X.w) X.A (.compLoop (.DictComp kx vx [⟨tg,iter,V,0⟩] sc pos) 0 (.ref it) (.ref D) (YR sc cl C X.env)) (XF (T8 X.prog X.w) X.A X.xe use Qv (.ref D) C) { s₂ with heap:=h₁,toks:=s₂.toks+([]:List (Str×Value)).length }:=by
  refine AdL (λn s'=>∃ i σ' B,Ad (A4 X N' sc cl C fp pins s₂ H₂) [] σ' B s'/\tn i s'.heap/\(∀ b∈fp,B b=none)/\W i n σ' B) ?_ m0 ⟨0,_,_,IB,aS,i8,w0⟩;rintro n s3 ⟨i,σ3,H3,I3,dg,dh,w3⟩;rcases turn i n σ3 H3 w3 with ⟨stop,qn⟩ | ⟨go,N,hN,VD⟩
  .refine Ap (T.done (A4 X N' sc cl C fp pins s₂ H₂) rfl rfl rfl hc i [] s3 σ3 H3 _ I3 (dm dh) dg stop) λr s4 ⟨hr,I4⟩=>?_;subst hr;have JX:=Ll O f₂ I4;obtain ⟨m,hn,_⟩:=Ag I4.loc;have cn:∀ x c,X.env.cells.lookup x=some c->c≠C:=λx c e z=>by
    obtain ⟨v,q⟩:=O.cell x c e;exact absurd (UN q.lt (by rw [z];exact aQ)) (VA _)
   have gone:∀ σ' Y h',Ad X pins σ' H3 Y->U4 C Y.heap h'->Ad X pins σ' H3 { Y with heap:=h' }:=λσ' Y h' K3 i9 =>
    K3.turned (t':=Y.toks) (it:=C) (λb o hb e=>(i9.2 b hb).trans e) I4.free (Wf (UN O.lt aQ)) (.inr (U7 O.sz aQ)) cn λp hp z=>by
     exact absurd (UN (Ut (O.pin p hp).1) (by rw [z];exact aQ)) (VA _)
   exact post D C H3 s4 m (λh' hs'=>gone σ s4 h' JX hs') JX hn cn (UB (UN O.lt aQ)) I4.free gone qn
  .refine Ap (T.item (A4 X N' sc cl C fp pins s₂ H₂) rfl rfl rfl hc i [] s3 σ3 H3 _ I3 (dm dh) dg go) λr s4 L=>CL L λu hr h4=>?_;subst hr;refine Ap h4 λ_ s5 L=>AG L λx H5 I5 r5 ⟨y5,cg,gm⟩=>?_;have gp:=I5.pinned (dm gm) (T.obj _ _ cg);refine Ap (hg cl C fp pins s₂ H₂ _ s5 σ3 H5 x u _ gp r5 (VD x H5 y5)) λ_ s6 L=>Hf L λσ6 H6 I6 q6=>?_;refine Ap (ht cl C fp pins s₂ H₂ _ s6 σ6 H6 _ I6 q6) λok s7 L=>CL L λH7 I7 q7=>?_;have again:∀{H8:Hp}{s8:T2},Ad (A4 X N' sc cl C fp pins s₂ H₂) ([]++FF fp s5.heap) σ6 H8 s8->N σ6 H8->∃ m,m<n/\∃ i σ' B,Ad (A4 X N' sc cl C fp pins s₂ H₂) [] σ' B s8/\tn i s8.heap/\(∀ b∈fp,B b=none)/\W i m σ' B:=λ{H8 s8} I8 n8=>by
    obtain ⟨m',hm,w8⟩:=Ag (hN σ6 H8 n8);refine ⟨m',hm,i+1,σ6,H8,I8.gj,T.keep _ _ _ cg λb hb o e=>(I8.pin (b,o) (U0 _ (U0 _ (Fd hb e)))).1,λb hb=>?_,w8⟩;obtain ⟨o,e,d⟩:=Ag (T.obj _ _ cg b hb);exact (I8.pin (b,o) (U0 _ (U0 _ (Fd hb e)))).2.1
   cases ok with
   | false=>exact again I7 q7
   | true =>
    refine Ap (he cl C fp pins s₂ H₂ _ s7 σ6 H7 _ I7 q7) λy s8 L=>AG L λv H8 I8 r8 q8=>?_;refine Ap (hv cl C fp pins s₂ H₂ _ s8 σ6 H8 _ I8 q8) λy' s9 L=>AG L λv' H9 I9 r9 q9=>?_;replace q9:=AY q9;obtain ⟨kvs,kk,rfl,hy,aE,n9⟩:=q9
    exact AdM (X:=A4 X N' sc cl C fp pins s₂ H₂) I9 hy aE r8 r9 λeR I10=>again I10 n9
 exact codeAny_compStart_dict loop (T.self _ 0 _ _ _ aS loop)
theorem P7 {V Y L iter:T9}{B:List T9}{sc:Scope}{ax:List (Option Nat)}{N':List Str}{pos:Pos}{wi:TI}{g:TG}{tt:TT}{te tv:TE}(hc:X.calm=true)(S:BE sc X.env.scope N' X.N ax)(hi:PI X L iter wi)(hg:∀ cl C fp pins s₂ H₂,PG (A4 X N' sc cl C fp pins s₂ H₂) L g)(ht:∀ cl C fp pins s₂ H₂,EH (A4 X N' sc cl C fp pins s₂ H₂) B tt)(he:∀ cl C fp pins s₂ H₂,PE (A4 X N' sc cl C fp pins s₂ H₂) V te)(hv:∀ cl C fp pins s₂ H₂,PE (A4 X N' sc cl C fp pins s₂ H₂) Y tv)(hs:∀ x,WE iter X.env x=pure x:=by intro _;rfl):PE X (.DictComp V Y [⟨L,iter,B,0⟩] sc pos) (P6 ax wi g tt te tv):=by intro pins s σ H Q I h;rw [arm_eval_DictComp];refine AdO (use:=none) (Q:=Q) hc S hi hg ht he hv hs I h λD C H' s' m g1 J hn cn ln fr g2 q=>?_;exact ⟨m,hn,λh' O=>⟨.ref D,H',g1 h' O,rfl,q⟩⟩
end
structure LR (P:Ub)(w:T6)(K:T3)(a:Addr)(kvs:List (Ar×V)):Prop where
 lo:(a == Vq)=false
 sz:kvs.length<=sizeLine
 rM:∃ o vs ep,K.lookup a=some o/\KV kvs vs/\∀ h:Heap,h.get? a=some o->h.DictAt (Bv P w) a vs ep
def FT (P:Ub)(w:T6)(K:T3)(H:Hp)(a:Addr)(kvs:List (Ar×V)):Prop:=Rd H a (.dK kvs)\/LR P w K a kvs
theorem FT.of {P:Ub}{w:T6}{K:T3}{H:Hp}{a:Addr}{kvs:List (Ar×V)}(h:H a=some (.dK kvs)):FT P w K H a kvs:=.inl (.inl h)
theorem P8 {P:Ub}{w:T6}{k:Ar}{u:Value}(h:(Bv P w).is k u=true):AE (kV k) u:=by
 rw [Aag] at h;cases k with
 | inl i =>
  show ∃ t,u=Vg i t;cases u<;>simp [Ea,Y7] at h;rename_i j t
  exact ⟨t,by rw [h]⟩
 | inr x =>
  show ∃ t,u=Vc x t;cases u<;>simp [Ea,Yt] at h;rename_i j t
  exact ⟨t,by rw [h]⟩
section
variable {X:Cx}{pins:List (Addr×Obj)}{σ:St}{H:Hp}{s:T2}{a:Addr}{kvs:List (Ar×V)}{P:Ub}{w:T6}{K:T3}
theorem JL (I:Ad X pins σ H s)(e:FT X.prog X.w X.K H a kvs):kvs.length<=sizeLine/\(a == Vq)=false/\∃ vs,KV kvs vs/\s.heap.DictOf (Bv X.prog X.w) a vs:=by
 rcases e with e | e
 .exact HR I.af e
 .obtain ⟨o,vs,B,l,r,d⟩:=BI e.rM;exact ⟨e.sz,e.lo,vs,r,(d _ (I.bk _ _ (I.mod.eJ _ _ l))).dictOf⟩
def AdP (P:Ub)(w:T6)(K:T3)(neg:Bool):R2:=λx y H Q=>∃ a kvs k,y=.ref a/\x=kV k/\FT P w K H a kvs/\Q (.bl (if neg then !(AS kvs k).isSome else (AS kvs k).isSome)) H
theorem LS (D:X.prog=P:=by rfl)(hw:X.w=w:=by rfl)(J:X.K=K:=by rfl):Bf X (UW .NotIn) (AdP P w K true):=by
 subst D hw J;intro pins s σ H x y v u Q I L O h;replace h:=BI h;obtain ⟨a,kvs,k,rfl,rfl,e,q⟩:=h
 cases (show u=UI a from O);obtain ⟨z,hd,vs,B,Y⟩:=AD (JL I e);refine wpAny_notIn_of (Fo L) hd Y.mapOf ?_;rw [<- (B.val k).rG];exact ⟨.bl (!(AS kvs k).isSome),H,I.tok _,rfl,q⟩
def P9 (P:Ub)(w:T6)(K:T3)(td ty:TE):TE:=λσ H Q=>td σ H λx H1=>ty σ H1 λy H2=>∃ a kvs k v,x=.ref a/\y=kV k/\FT P w K H2 a kvs/\AS kvs k=some v/\Q v H2
theorem AdQ {o i:T9}{pos:Pos}{J ty:TE}(Y:PE X o J)(hi:PE X i ty)(hs:LG i)(hP:X.prog=P:=by rfl)(hw:X.w=w:=by rfl)(hK:X.K=K:=by rfl):PE X (.Subscript o i pos) (P9 P w K J ty):=by subst hP hw hK;intro pins s σ H Q I h;refine AcU PySem.F.slot_dict_getitem.lookup hs (Ap (Y pins s σ H _ I h) λu s1 B=>AG B λx H1 I1 rx q1=>Ap (hi pins s1 σ H1 _ I1 q1) λiv s2 B=>AG B λy H2 L ry ⟨a,kvs,k,v,ex,ey,g,l,q2⟩=>?_);subst ex ey;obtain rfl:u=UI a:=rx;obtain ⟨z,hd,vs,D,O⟩:=AD (JL L g);obtain ⟨w',hw,bp⟩:=Ag (CH.some_of (v:=v) (o:=WZ vs k) (by rw [<- l];exact D.val k));exact ⟨O.typeIs,xo (Fo ry) O.mapOf hw ⟨v,H2,L.tok _,bp,q2⟩⟩
theorem Az (P:Ub)(w:T6)(K:T3){X:Cx}{o i:T9}{pos:Pos}{B ty:TE}(D:PE X o B)(I:PE X i ty)(hs:LG i:=by exact λ_ _=>rfl)(J:X.prog=P:=by rfl)(hw:X.w=w:=by rfl)(L:X.K=K:=by rfl):PE X (.Subscript o i pos) (P9 P w K B ty):=AdQ D I hs J hw L
end
section
variable {K:T3}{D:Addr}{kvs:List (Ar×V)}{g:TG}{tt:TT}{tk tv:TE}{σ0:St}{H:Hp}{Q:Hp->Prop}{a:Addr}{xs:List V}
abbrev Qa (D:Addr)(tt:TT)(tk tv:TE)(N:St->Hp->Prop):St->Hp->Prop:=λσ3 H3=>tt σ3 H3 λb H4 =>
 if b=true then tk σ3 H4 λk H5=>tv σ3 H5 λv H6=>∃ kvs kk,k=kV kk/\H6 D=some (.dK kvs)/\kvs.length<sizeLine/\N σ3 (upd H6 D (.dK (AX kvs kk v))) else N σ3 H4
end
end L2
set_option maxHeartbeats 4000000
namespace L2
open PySem PySem.Spec PyProof.Rows Builtin Builtin.Str
theorem Qb:∀{vs:List Value}{zs:List Str},Xu vs zs->∃ l:List (Str×Tok),strValues l=vs/\l.map (·.1)=zs
 | _,_,.nil=>⟨[],rfl,rfl⟩
 | _,_,.cons x t h=>by
  obtain ⟨l,B,D⟩:=Ag (Qb h);exact ⟨(x,t) :: l,by rw [<- B];rfl,by rw [<- D];rfl⟩
section
variable {X:Cx}
theorem AdR:OP X "str.join" (λx vs H Q=>∃(B:Str)(p:Addr)(zs:List Str),x=.str B/\vs=[.ref p]/\Bg X.K H p (zs.map V.str)/\(zs.map (·.length)).sum+zs.length<=1000000/\B.length<=16/\Q (.str (Str.join B zs)) H):=by
 intro pins s σ H x xs v us Q I D r h;replace h:=BZ h;obtain ⟨B,p,zs,rfl,rfl,J,hz,hs,q⟩:=h
 obtain ⟨t,rfl⟩:=D;obtain ⟨u,rfl,L⟩:=Ag (Ay.one r);cases (show u=UI p from L);obtain ⟨its,O,pl,_⟩:=Av (I.list J);have Y:=HW O;obtain ⟨l,hl,ht⟩:=Ag (Qb Y);refine SC.join (l:=l) (texts:=zs) (by rw [hl];exact pl.isList) ht (joinOk_of_weight (by omega) hs) λt' k=>?_;refine ⟨.str (Str.join B zs),H,I.tok _,⟨t',?_⟩,q⟩;rw [<- StrLaws.glued_eq_join];rfl
end
end L2
namespace L2
open PySem PySem.Spec PyProof.Rows
section
variable {K:T3}{a D:Addr}{xs:List V}{g:TG}{tt:TT}{te:TE}{σ0:St}{H:Hp}{Q:Hp->Prop}
end
section
variable {prog:Ub}{w:T6}{A:Us}{E:Value->T2->Prop}{s:T2}
theorem AdS {j t:Addr}{i:Nat}{its:Array Value}{x:Value}{Q:Value->T2->Prop}(H:s.heap.IsTupleIter j t i)(I:s.heap.IsTuple t its)(hx:its[i]?=some x)(q:∀ g,g.IsTupleIter j t (i+1)->U4 j s.heap g->Q x { s with heap:=g }):T5 (T8 prog w) A (YY (.ref j)) Q E s:=by obtain ⟨o,D,J,B⟩:=Av (id H);obtain ⟨u,f1,_,n,L⟩:=Av I;unfold YY;refine Ua (YZ (name:=Ud "__next__") H.typeIs Y0 (Xv Y0 H.typeIs xT ?_ (xU _)));show T5 _ _ (Xa (.ref j) 0 >>= _) _ _ s;refine Ua (Wq D B (x:=.ref t) rfl ?_);show T5 _ _ (if (UI t == U8)=true then _ else _) _ _ s;rw [if_neg (show ¬ ((UI t == U8)=true) from UT)];show T5 _ _ (Xa (.ref j) 1 >>= _) _ _ s;refine Ua (Wq D B (x:=.int i 0) rfl ?_);show T5 _ _ (seqItems? (.ref t) >>= _) _ _ s;refine Ua (xV f1 L ?_);simp only [Xo,hx];refine Ua (xW D B (by simp) (Um ⟨x,rfl,Um (q _ ⟨_,Zv _ D (Obj.isFreed_of_fields (xX B _)),(Obj.cls_mapFields ..).trans J,?_⟩ (YX ..))⟩));rw [xX B];simp [Xh]
theorem AdT {j t:Addr}{i:Nat}{its:Array Value}{Q:Value->T2->Prop}(I:A.handled=none)(B:s.heap.IsTupleIter j t i)(J:s.heap.IsTuple t its)(hx:its[i]?=none)(q:∀ g e,Heap.ExtBut j s.heap g->(∃ o,g.get? e=some o/\o.cls=.type "StopIteration")->E (.ref e) { s with heap:=g }):T5 (T8 prog w) A (YY (.ref j)) Q E s:=by
 obtain ⟨o,D,O,H⟩:=Av (id B);obtain ⟨u,f1,_,n,L⟩:=Av J;unfold YY;refine Ua (YZ (name:=Ud "__next__") B.typeIs Y0 (Xv Y0 B.typeIs xT ?_ (xU _)));show T5 _ _ (Xa (.ref j) 0 >>= _) _ _ s;refine Ua (Wq D H (x:=.ref t) rfl ?_);show T5 _ _ (if (UI t == U8)=true then _ else _) _ _ s;rw [if_neg (show ¬ ((UI t == U8)=true) from UT)];show T5 _ _ (Xa (.ref j) 1 >>= _) _ _ s;refine Ua (Wq D H (x:=.int i 0) rfl ?_);show T5 _ _ (seqItems? (.ref t) >>= _) _ _ s;refine Ua (xV f1 L ?_);simp only [Xo,hx];refine Ua (XH (Ua (xW D H (by simp) ?_)));show T5 _ _ (newExc (.type "StopIteration") [] >>= _) _ _ _;refine Ua ?_;simp only [newExc,newTuple];refine Ua (Yi ?_ (by size_fits));refine Ua (m:=xY _ _) (wpAny_of_eq (a:=U8) (by first | rfl | (simp only [xY];rfl)) ?_);refine Yi ?_ (by size_fits);simp only [raiseNew];refine Ua (wpAny_handled ?_);first | rw [show A.in1.handled=none from I] | rw [I]
 refine Ua (Um (wpAny_throw ?_));exact q _ _ (((YX ..).extBut.push _).push _) ⟨_,Va _ rfl,rfl⟩
theorem AdU {e j t:Addr}{i:Nat}{its:Array Value}{x B:Value}{Q:Value->T2->Prop}(he:V2 s.heap e j i B)(hj:s.heap.IsTupleIter j t i)(ht:s.heap.IsTuple t its)(hx:its[i]?=some x)(ne:e≠j)(q:∀ g,Y1 g e j ((i:Int)+1) x s.heap.objs.size->g.IsTupleIter j t (i+1)->g.get? s.heap.objs.size=some { cls:=.type "tuple",data:=.seq #[.int i s.toks,x] }->g.objs.size=s.heap.objs.size+1 ->
   (∀ b o,b≠e->b≠j->s.heap.get? b=some o->g.get? b=some o)->Q (.ref s.heap.objs.size) { s with heap:=g,toks:=s.toks+1 }) :
  T5 (T8 prog w) A (Builtin.«enumerate.__next__» ⟨[.ref e],[]⟩) (λfin s'=>∃ v,fin=.done (.ret v)/\Q v s') E s:=by
 obtain ⟨H,I,J,D,os⟩:=s;show T5 _ _ (Xa (.ref e) 2 >>= _) _ _ _;refine Ua (Wq he rfl (x:=.ref j) rfl (Ua (AdS hj ht hx λL j1 Y=>?_)));replace Y:U4 j H L:=Y
 have E1:V2 L e j i B:=(Y.2 e ne).trans he;show T5 _ _ (Xa (.ref e) 3 >>= _) _ _ ⟨L,I,J,D,os⟩;refine Ua (Wq E1 rfl (x:=Xh i) rfl ?_);show T5 _ _ (Xa (.ref e) 4 >>= _) _ _ ⟨L,I,J,D,os⟩;refine Ua (Wq E1 rfl (x:=.none) rfl ?_);show T5 _ _ (mkInt i >>= _) _ _ ⟨L,I,J,D,os⟩;refine Ua (wpAny_mkInt ?_);show T5 _ _ (setField (.ref e) 3 (Xh ((i:Int)+1)) >>= _) _ _ ⟨L,I,J,D+1,os⟩;refine Ua (Yo E1 (by simp) λa2 E2 s2=>?_);replace s2:U4 e L a2:=s2
 replace E2:V2 a2 e j ((i:Int)+1) B:=E2
 show T5 _ _ (setField (.ref e) 4 .none >>= _) _ _ ⟨a2,I,J,D+1,os⟩;refine Ua (Yo E2 (by simp) λO E3 s3=>?_);replace s3:U4 e a2 O:=s3
 replace E3:V2 O e j ((i:Int)+1) B:=E3
 show T5 _ _ (newTuple [.int i D,x] >>= _) _ _ ⟨O,I,J,D+1,os⟩;refine Ua (xy ?_);have E4:V2 (O.push { cls:=.type "tuple",data:=.seq #[.int i D,x] }) e j ((i:Int)+1) B:=UA _ E3;generalize e4:O.push { cls:=.type "tuple",data:=.seq #[.int i D,x] }=a4 at E4;have z3:O.objs.size=H.objs.size:=by rw [s3.1,s2.1,Y.1]
 have le:e<H.objs.size:=Ut he;have T4:a4.get? H.objs.size=some { cls:=.type "tuple",data:=.seq #[.int i D,x] }:=by rw [<- e4,<- z3];exact Va _ rfl
 have z4:a4.objs.size=H.objs.size+1:=by rw [<- e4,V0,z3]
 have k4:∀ b o,b≠e->b≠j->H.get? b=some o->a4.get? b=some o:=λb o V n2 hb=>by
  rw [<- e4];exact UA _ (s3.extBut b o V (s2.extBut b o V (Y.extBut b o n2 hb)))
 have j4:a4.IsTupleIter j t (i+1):=by rw [<- e4];obtain ⟨o,ho,r⟩:=Ag ((j1.extBut s2.extBut (UQ ne)).extBut s3.extBut (UQ ne));exact ⟨o,UA _ ho,r⟩
 show T5 _ _ (xZ (.ref e) >>= _) _ _ ⟨a4,I,J,D+1,os⟩;rw [z3];clear e4 E3 s3 E2 s2 E1 Y j1 z3 O a2 L
 refine Ua ?_;unfold xZ;refine Ua (Wq E4 rfl (x:=.none) rfl (Um ?_));simp only [if_true];refine Ua (XH (Ua (Wq E4 rfl (x:=B) rfl (Ua (Yo E4 (by simp) λa5 E5 s5=>?_)))));replace s5:U4 e a4 a5:=s5
 replace E5:V2 a5 e j ((i:Int)+1) x:=E5
 show T5 _ _ (ya (.ref e) (.ref H.objs.size) >>= _) _ _ ⟨a5,I,J,D+1,os⟩;refine Ua ?_;unfold ya;refine Ua (Yo E5 (by simp) λa6 E6 s6=>?_);replace s6:U4 e a5 a6:=s6
 replace E6:Y1 a6 e j ((i:Int)+1) x H.objs.size:=E6
 refine Yo E6 (by simp) λa7 E7 s7=>?_;replace s7:U4 e a6 a7:=s7
 replace E7:Y1 a7 e j ((i:Int)+1) x H.objs.size:=E7
 refine Ua (wpAny_letGo (Um ⟨_,rfl,q a7 E7 ?_ ?_ ?_ ?_⟩))
 .exact ((j4.extBut s5.extBut (UQ ne)).extBut s6.extBut (UQ ne)).extBut s7.extBut (UQ ne)
 .exact s7.extBut _ _ (Wf le) (s6.extBut _ _ (Wf le) (s5.extBut _ _ (Wf le) T4))
 .rw [s7.1,s6.1,s5.1,z4]
 .exact λb o V n2 hb=>s7.extBut b o V (s6.extBut b o V (s5.extBut b o V (k4 b o V n2 hb)))
theorem AdV {e j t:Addr}{i:Nat}{its:Array Value}{x B:Value}{Q:Option Value->T2->Prop}(D:V2 s.heap e j i B)(H:s.heap.IsTupleIter j t i)(I:s.heap.IsTuple t its)(hx:its[i]?=some x)(ne:e≠j)(q:∀ g,Y1 g e j ((i:Int)+1) x s.heap.objs.size->g.IsTupleIter j t (i+1)->g.get? s.heap.objs.size=some { cls:=.type "tuple",data:=.seq #[.int i s.toks,x] }->g.objs.size=s.heap.objs.size+1 ->
   (∀ b o,b≠e->b≠j->s.heap.get? b=some o->g.get? b=some o)->Q (some (.ref s.heap.objs.size)) { s with heap:=g,toks:=s.toks+1 }):T5 (T8 prog w) A (VZ (.ref e)) Q E s:=by
 have ty:s.TypeIs (.ref e) "enumerate":=⟨_,D,rfl⟩;unfold VZ;exact Ua (wpAny_attempt (YZ (name:=Ud "__next__") ty Y2 (Xv Y2 ty yb (AdU D H I hx ne λg a b c d k=>Um (q g a b c d k)) (yc _))))
theorem AdW {e j t:Addr}{i:Nat}{its:Array Value}{B:Value}{Q:Option Value->T2->Prop}(H:A.handled=none)(D:V2 s.heap e j i B)(I:s.heap.IsTupleIter j t i)(J:s.heap.IsTuple t its)(hx:its[i]?=none)(q:∀ g,Heap.ExtBut j s.heap g->Q none { s with heap:=g }):T5 (T8 prog w) A (VZ (.ref e)) Q E s:=by have ty:s.TypeIs (.ref e) "enumerate":=⟨_,D,rfl⟩;unfold VZ;refine Ua (wpAny_attempt (YZ (name:=Ud "__next__") ty Y2 (Xv Y2 ty yb ?_ (yc _))));show T5 _ _ (Xa (.ref e) 2 >>= _) _ _ _;refine Ua (Wq D rfl (x:=.ref j) rfl (Ua (AdT H I J hx λg y L O=>CL O λo V hc=>?_)));exact Ua (wpAny_isInstance (T:="StopIteration") (b:=true) ⟨o,V,hc⟩ isSubtype_stop (Um (q _ L)))
end
theorem AdX (t:Addr)(its:Array Value)(o:Obj)(hc:o.cls=.type "tuple")(n:Nat)(hd:o.data=.seq its n) :
  Meets (Builtin.«enumerate.__new__» ⟨[.type "enumerate",.ref t],[]⟩) (λ_ R s=>s.heap.get? t=some o /\
   R (.ok (.ret (.ref (s.heap.push { cls:=.type "tuple_iterator",data:=.fields #[.ref t,.int 0 0] }).objs.size)))
    { s with heap:=(s.heap.push { cls:=.type "tuple_iterator",data:=.fields #[.ref t,.int 0 0] }).push { cls:=.type "enumerate",data:=.fields #[.none,.bool false,.ref s.heap.objs.size,Xh 0,.none,.none] } }) :=
 .of_wp λprog w A R s h=>by
  obtain ⟨c,Y,H,sl⟩:=o;replace hc:c=.type "tuple":=hc
  replace hd:H=.seq its n:=hd
  subst hc hd;obtain ⟨I,J,L,O,os⟩:=s;obtain ⟨B,h⟩:=h;have V:=sub_enumerate;have D:Heap.IsTuple (Shared.heap ⟨I,J,L,O,os⟩) t its:=⟨_,B,rfl,n,rfl⟩;wp_walk using vO B
  refine wpAny_stack_any λst=>Um ?_;split
  .rename_i c _ _ _ _ _
   cases (c == XQ "enumerate")<;>(wp_walk using vO B,Zg D;exact ⟨_,rfl,h⟩)
  .wp_walk using vO B,Zg D
   exact ⟨_,rfl,h⟩
section
variable {prog:Ub}{w:T6}{A:Us}{E:Value->T2->Prop}{s:T2}
theorem AdY {t:Addr}{its:Array Value}{Q:Value->T2->Prop}(H:s.heap.IsTuple t its)(h:∀ g,V2 g (s.heap.objs.size+1) s.heap.objs.size 0 .none->g.IsTupleIter s.heap.objs.size t 0->g.objs.size=s.heap.objs.size+2->(∀ b o,s.heap.get? b=some o->g.get? b=some o)->Q (.ref (s.heap.objs.size+1)) { s with heap:=g }) :
  T5 (T8 prog w) A (call (.type "enumerate") [.ref t]) Q E s:=by
 obtain ⟨o,I,hc,n,hd⟩:=Av H;refine callType_new F.called_enumerate (by decide) (F.typeCall_enumerate_1 _) (F.newCall_enumerate_1 _) (λobj=>F.args_object_init_2 obj _) F.entry_enumerate_new (AdX t its o hc n hd) ⟨I,?_⟩;have B:(s.heap.push { cls:=.type "tuple_iterator",data:=.fields #[.ref t,.int 0 0] }).objs.size=s.heap.objs.size+1:=V0 ..;show _/\_;rw [B];have D:V2 ((s.heap.push { cls:=.type "tuple_iterator",data:=.fields #[.ref t,.int 0 0] }).push { cls:=.type "enumerate",data:=.fields #[.none,.bool false,.ref s.heap.objs.size,Xh 0,.none,.none] }) (s.heap.objs.size+1) s.heap.objs.size 0 .none:=by have:=Va (s.heap.push { cls:=.type "tuple_iterator",data:=.fields #[.ref t,.int 0 0] }) (o:={ cls:=.type "enumerate",data:=.fields #[.none,.bool false,.ref s.heap.objs.size,Xh 0,.none,.none] }) rfl;rw [B] at this;exact this
 exact ⟨⟨_,D,rfl⟩,h _ D ⟨_,UA _ (Va _ rfl),rfl,rfl⟩ (by rw [V0,B]) λb o x=>UA _ (UA _ x)⟩
end
section
variable {X:Cx}{pins:List (Addr×Obj)}{σ:St}{H:Hp}{s:T2}{h':Heap}
noncomputable def Ia (K:T3)(a:Addr):It :=
 ⟨λi H=>∃ xs x,Bt K H a xs/\xs[i]?=some x,λi H x H'=>∃ t y,x=.ref t/\H t=none/\H'=upd H t (.tup [.int i,y])/\∀ xs,Bt K H a xs->xs[i]?=some y,λi H=>∃ xs,Bt K H a xs/\xs.length<=i⟩
theorem AdZ {P:Ub}{w:T6}{K:T3}{L:List T9}{kk:Nat}{pos:Pos}(a e it:Addr)(jc:e≠it):FE P w K (.Tuple L kk pos) (Ia K a) [e,it] e (λi h=>(∃ B,V2 h e it i B)/\h.IsTupleIter it a i) where
 mem:=by simp
 obj:=λi h st b hb=>by
  obtain ⟨⟨B,D⟩,⟨o,V,c,d⟩⟩:=st;rcases Uo.mp hb with z | z
  .subst z;exact ⟨_,D,λv z=>by cases z⟩
  .have z:b=it:=by simpa using z
   subst z;exact ⟨o,V,λv z=>by rw [d] at z;cases z⟩
 keep:=λi h h' st k=>by
  obtain ⟨⟨B,D⟩,hi⟩:=st;exact ⟨⟨B,k e (by simp) _ D⟩,hi.at λo q=>k it (by simp) o q⟩
 item:=by
  intro X Y hw hK hc i pins s σ H E I O st hg;subst Y hw hK;obtain ⟨xs,x,hq,hx⟩:=AQ hg;obtain ⟨its,rv,p,hz⟩:=Av (I.tuple hq);obtain ⟨u,hu,ru⟩:=Ag (rv.get hx);obtain ⟨⟨B,D⟩,J⟩:=st;refine AdV D J p (x:=u) (by simpa using hu) jc λh' V mX hT hsz hk=>⟨_,rfl,?_⟩;have I1:Ad X pins σ (upd H s.heap.objs.size (.tup [.int i,x])) { s with heap:=h',toks:=s.toks+1 } :=
   I.rF (ch:=[e,it]) (us:=[.int i s.toks,u]) O (λb o hb q=>hk b o (λz=>hb (by simp [z])) (λz=>hb (by simp [z])) q) (Uq _)
    (λb hb=>by
     rcases Uo.mp hb with z | z
     .subst z;exact ⟨_,D⟩
     .have z:b=it:=by simpa using z
      subst z;obtain ⟨o,q,_⟩:=Ag J;exact ⟨o,q⟩) hT (.cons ⟨_,rfl⟩ (.cons ru .nil)) Ax
  have fr:∀ b∈[e,it],(upd H s.heap.objs.size (.tup [.int i,x])) b=none:=λb hb=>by
   have ak:b<s.heap.objs.size:=by
    rcases Uo.mp hb with z | z
    .subst z;exact Ut D
    .have z:b=it:=by simpa using z
     subst z;obtain ⟨o,q,_⟩:=Ag J;exact Ut q
   rw [Au (UB ak)];exact (O b hb).1
  refine xi V λh2 mY cH=>?_;obtain ⟨f0,f1,f2,f3,f4,f5⟩:=AD (O e (by simp));have I2:Ad X pins σ (upd H s.heap.objs.size (.tup [.int i,x])) { s with heap:=h2,toks:=s.toks+1 }:=I1.turned (t':=s.toks+1) (λb o hb q=>(cH.2 b hb).trans q) (fr e (by simp)) f1 f3 f4 f5;refine ⟨.ref s.heap.objs.size,_,I2,rfl,⟨_,x,rfl,I.fresh,rfl,λys hy=>by rw [I.qT hy hq];exact hx⟩,⟨⟨u,mY⟩,?_⟩,fr⟩;exact mX.at λo q=>(cH.2 it jc.symm).trans q
 done:=by intro X Y hw hK hc i pins s σ H E I O st hg;subst Y hw hK;obtain ⟨xs,hq,hx⟩:=Ag hg;obtain ⟨its,rv,p,hz⟩:=Av (I.tuple hq);obtain ⟨⟨B,D⟩,J⟩:=st;obtain ⟨f0,f1,f2,f3,f4,f5⟩:=AD (O it (by simp));have hl:=rv.length;exact AdW (I.ok.hd hc) D J p (by simp;omega) λh' eb=>⟨rfl,I.turned (t':=s.toks) (λb o hb q=>eb b o hb q) f0 f1 f3 f4 f5⟩
 self:=λ_ _ _ _ _ st h=>by
  obtain ⟨⟨B,D⟩,_⟩:=st;exact YT D h
def Ad0 (K:T3)(ta:TA):TI:=λσ H R=>ta σ H λvs H1=>∃ a xs,vs=[.ref a]/\Bt K H1 a xs/\R (Ia K a) H1
theorem Ad1 {x:T9}{O:TA}{p pos tp:Pos}{J:List T9}{kk:Nat}(g:Gm X.env.scope "enumerate")(hm:X.mg "enumerate"=none)(ha:PA X [x] O)(hs:Ul [x] X.env=[(false,Ui x X.env)]:=by rfl) :
  PI X (.Tuple J kk tp) (.Call (.Name "enumerate" p) [x] [] pos) (Ad0 X.K O):=by
 intro pins s σ H R I h;refine Call_ (FC I g.gl hm Pg (X5 (Ap (ha pos pins s σ H _ I h) λus B zz=>AG zz λvs V D r1 q1=>?_) hs rfl));obtain ⟨a,xs,e,hq,q⟩:=AY q1;subst e;cases r1 with
 | cons r rr =>
  cases rr;cases r;obtain ⟨its,rv,pl,hz⟩:=Av (D.tuple hq);refine AdY pl λh' Y L hsz hk=>?_;refine YT Y ?_;have mZ:V (B.heap.objs.size+1)=none:=D.af.fresh (Vl _);refine ⟨B.heap.objs.size+1,[B.heap.objs.size+1,B.heap.objs.size],_,_,V,rfl,D.kept (t':=B.toks) hk,AdZ a _ _ (Yh _),⟨⟨_,Y⟩,L⟩,λb hb=>?_,q⟩;rcases Uo.mp hb with z | z
  .subst z;exact D.fJ (Vl _) mZ
  .have z:b=B.heap.objs.size:=by simpa using z
   subst z;exact D.fJ (Uq _) D.fresh
end
section
variable {K:T3}{a D:Addr}{xs:List V}{g:TG}{tt:TT}{tk tv:TE}{σ0:St}{H:Hp}{Q:Hp->Prop}
theorem Ad2 (Pv:Nat->St->Hp->Prop)(h0:Pv 0 σ0 (upd H D (.dK [])))(hl:∀ i σ H,i<=xs.length->Pv i σ H->Bt K H a xs)(hs:∀ i x t σ B,xs[i]?=some x->Pv i σ B->B t=none->g (.ref t) σ (upd B t (.tup [.int i,x])) (Qa D tt tk tv (Pv (i+1))))(hd:∀ σ B,Pv xs.length σ B->Q B) :
  ∃ W:Nat->Nat->St->Hp->Prop,(∃ m,W 0 m σ0 (upd H D (.dK [])))/\∀ i m σ' B,W i m σ' B ->
   ((Ia K a).stop i B/\Q B)\/((Ia K a).go i B/\∃ N:St->Hp->Prop,(∀ σ2 I,N σ2 I->∃ m',m'<m/\W (i+1) m' σ2 I)/\∀ x I,(Ia K a).bY i B x I->g x σ' I λσ3 H3=>tt σ3 H3 λb L =>
    if b=true then tk σ3 L λk H5=>tv σ3 H5 λv O=>∃ kvs Y,k=kV Y/\O D=some (.dK kvs)/\kvs.length<sizeLine/\N σ3 (upd O D (.dK (AX kvs Y v))) else N σ3 L):=by
 refine ⟨λi m σ H=>m=xs.length - i/\i<=xs.length/\Pv i σ H,⟨xs.length,by simp,U1 _,h0⟩,?_⟩;rintro i m σ J ⟨rfl,hi,p⟩;have q:=hl i σ J hi p;by_cases ak:i<xs.length
 .refine .inr ⟨⟨xs,xs[i],q,by simp [ak]⟩,Pv (i+1),λσ' B p'=>⟨xs.length - (i+1),by omega,rfl,ak,p'⟩,λx B y=>?_⟩;replace y:=AY y;obtain ⟨t,y,rfl,ht,rfl,hy⟩:=y
  exact hs i y t σ J (hy xs q) p ht
 .have e:i=xs.length:=by omega
  subst e;exact .inl ⟨⟨xs,q,Uq _⟩,hd σ J p⟩
theorem Ad3 (Pv:Nat->St->Hp->Prop)(h0:Pv 0 σ0 (upd H D (.dK [])))(hl:∀ i σ H,i<=xs.length->Pv i σ H->Bt K H a xs)(hs:∀ i x σ B,xs[i]?=some x->Pv i σ B->g x σ B (Qa D tt tk tv (Pv (i+1))))(hd:∀ σ B,Pv xs.length σ B->Q B) :
  ∃ W:Nat->Nat->St->Hp->Prop,(∃ m,W 0 m σ0 (upd H D (.dK [])))/\∀ i m σ' B,W i m σ' B ->
   ((Fc K a).stop i B/\Q B)\/((Fc K a).go i B/\∃ N:St->Hp->Prop,(∀ σ2 I,N σ2 I->∃ m',m'<m/\W (i+1) m' σ2 I)/\∀ x I,(Fc K a).bY i B x I->g x σ' I λσ3 H3=>tt σ3 H3 λb J =>
    if b=true then tk σ3 J λk H5=>tv σ3 H5 λv L=>∃ kvs O,k=kV O/\L D=some (.dK kvs)/\kvs.length<sizeLine/\N σ3 (upd L D (.dK (AX kvs O v))) else N σ3 J):=by
 refine ⟨λi m σ H=>m=xs.length - i/\i<=xs.length/\Pv i σ H,⟨xs.length,by simp,U1 _,h0⟩,?_⟩;rintro i m σ Y ⟨rfl,hi,p⟩;have q:=hl i σ Y hi p;by_cases ak:i<xs.length
 .refine .inr ⟨⟨xs,xs[i],q,by simp [ak]⟩,Pv (i+1),λσ' B p'=>⟨xs.length - (i+1),by omega,rfl,ak,p'⟩,λx B y=>?_⟩;obtain ⟨rfl,hy⟩:=y;exact hs i x σ _ (hy xs q) p
 .have e:i=xs.length:=by omega
  subst e;exact .inl ⟨⟨xs,q,Uq _⟩,hd σ Y p⟩
end
def Qc (cs:List Addr)(m:Str)(sp:Sp)(E:XK)(ta:TE)(t:TA):TE:=λσ H Q=>ta σ H λx H1=>∃ a C dx fs,x=.ref a/\C∈cs/\H1 a=some (.ins C dx fs)/\fs.lookup m=none/\t σ H1 λvs H2=>sp (x :: vs) H2 Q E
section
variable {X:Cx}{CX:B0}{k:Nat}{cs:List Addr}{ps:List Str}{sp:Sp}{E:XK}{m:Str}{pos apos:Pos}{e o:T9}{es:List T9}{ta:TE}{t:TA}
theorem LU {pl:Sem Bool}(D:∀ C∈cs,A2 X.prog X.w X.K X.mg X.base CX k C m ps sp)(c:∀ C∈cs,CB X.K C)(he:PE X o ta)(hr:Bu k X.A)(hx:CT CX X E)(ha:PA X (e :: es) t)(aL:Ul (e :: es) X.env=(false,Ui e X.env) :: Ul es X.env:=by rfl)(aT:(UP pos (Ul es X.env)).any (·.1)=false:=by rfl)(ht:Ui (.Call (.Attribute o m apos) (e :: es) [] pos) X.env=(Ui o X.env >>= λJ=>VC apos.atName >>= λ_=>Vs [J] (Wg J m pl) >>= λL=>WL pos L.1 L.2 (UP pos (Ul (e :: es) X.env)) (V7 pos (V8 [] X.env))):=by rfl) :
  PE X (.Call (.Attribute o m apos) (e :: es) [] pos) (Qc cs m sp E ta t):=by
 intro pins s σ H Q I h;refine XB (pl:=pl) (Ap (he pins s σ H _ I h) λu s1 B=>AG B λx H1 O rx ⟨a,C,dx,fs,ex,mc,ea,l,q⟩=>?_) ht;subst ex;cases rx;obtain ⟨f,fd,V,hb,F⟩:=AY (D C mc);refine Ht O ea (c C mc) V l (XA (first:=[.ref a]) (h₀:=X.base) I.ok.mod.eJ V.kp (Ap (ha pos pins s1 σ H1 _ O q) λY s2 B=>AG B λvs H2 I2 r q2=>⟨I2.aJ,?_⟩) aL aT);exact Gq (us:=.ref a :: Y) (vs:=.ref a :: vs) (dvs:=[]) F hr hb .nil hx I2 (.cons rfl r) (by simpa using q2)
theorem LV {pl:Sem Bool}(D:∀ C∈cs,A2 X.prog X.w X.K X.mg X.base CX k C m ps sp)(c:∀ C∈cs,CB X.K C)(V:PE X o ta)(Y:Bu k X.A)(hx:CT CX X E)(ht:Ui (.Call (.Attribute o m apos) [] [] pos) X.env=(Ui o X.env >>= λJ=>VC apos.atName >>= λ_=>Vs [J] (Wg J m pl) >>= λL=>WL pos L.1 L.2 (UP pos (Ul [] X.env)) (V7 pos (V8 [] X.env))):=by rfl) :
  PE X (.Call (.Attribute o m apos) [] [] pos) (Qc cs m sp E ta Cd):=by
 intro pins s σ H Q I h;refine XB (pl:=pl) (Ap (V pins s σ H _ I h) λu s1 zz=>AG zz λx H1 B rx ⟨a,C,dx,fs,ex,mc,ea,l,q⟩=>?_) ht;subst ex;cases rx;obtain ⟨f,fd,O,hb,F⟩:=AY (D C mc);exact Ht B ea (c C mc) O l (wG (first:=[.ref a]) B.aJ O.kp (Gq (us:=[.ref a]) (vs:=[.ref a]) (dvs:=[]) F Y hb .nil hx B (.cons rfl .nil) q))
end
def JM (P:Yc):List Ye->List (Str×V)->Prop
 | [],[]=>True
 | e :: r,p :: kvs=>(∃ t,e.key=.str p.1 t)/\e.hash=PyData.keyHash P p.1/\AE p.2 e.val/\JM P r kvs
 | _,_=>False
theorem Qd {P:Ub}{w:T6}:∀{es:List Ye}{kvs:List (Str×V)},JM w.params es kvs->∃ vs:List (Ar×Value),KV (kvs.map λp=>(UR p.1,p.2)) vs/\Pairs (Bv P w) es vs/\∀ e∈es,∃ k,(Bv P w).is k e.key=true/\e.hash=(Bv P w).hash k
 | [],[],_=>⟨[],.nil,.nil,λe m=>absurd m (by simp)⟩
 | [],_ :: _,h=>h.elim
 | _ :: _,[],h=>h.elim
 | e :: es,p :: kvs,h=>by
  obtain ⟨⟨t,D⟩,H,I,J⟩:=AD h;obtain ⟨vs,r,q,m⟩:=Av (Qd (P:=P) J);have B:(Bv P w).is (.inr p.1) e.key=true:=by rw [D];exact Gi P w p.1 t
  refine ⟨(.inr p.1,e.val) :: vs,.cons ⟨rfl,I⟩ r,.cons B rfl q,λx hx=>?_⟩;rcases Uo.mp hx with z | z
  .exact ⟨.inr p.1,by rw [z];exact B,by rw [z];exact H⟩
  .exact m x z
theorem Ad4 {P:Ub}{w:T6}{K:T3}{a:Addr}{es:Array Ye}{n:Nat}{kvs:List (Str×V)}(lo:(a == Vq)=false)(l:K.lookup a=some ⟨.type "dict",none,.dict es n,#[]⟩)(h:JM w.params es.toList kvs)(B:(kvs.map (·.1)).Nodup)(sz:kvs.length<=1000) :
  LR P w K a (kvs.map λp=>(UR p.1,p.2)):=by
 obtain ⟨vs,r,q,m⟩:=Av (Qd (P:=P) h);refine ⟨lo,by rw [T7,Uc];omega,_,vs,n,l,r,λI D=>⟨_,es,D,⟨rfl,rfl,rfl⟩,rfl,λe H=>m e (wz.mpr H),q,?_⟩⟩;rw [<- r.keys,UD];have:(kvs.map ((·.1)∘λp:Str×V=>((UR p.1:Ar),p.2)))=(kvs.map (·.1)).map (UR:Str->Ar):=by rw [UD];rfl
 rw [this];exact YV.mpr (B.imp λh z=>h (VX z))
theorem LY:∀{xs:List V}{us:List Value},us.length=xs.length->(∀(j:Nat)(v:Value)(x:V),us[j]?=some v->xs[j]?=some x->AE x v)->Ay xs us
 | [],[],_,_=>.nil
 | [],_ :: _,h,_=>by simp at h
 | _ :: _,[],h,_=>by simp at h
 | x :: xs,u :: us,h,f=>.cons (f 0 u x rfl rfl) (LY (by simpa using h) λj v y hv hy=>f (j+1) v y (by simpa using hv) (by simpa using hy))
section
variable {X:Cx}
theorem Ad5 (hc:X.calm=true):BJ X (.type "list") (λxs H Q=>∃ p kvs,xs=[.ref p]/\FT X.prog X.w X.K H p kvs/\∀ l,H l=none->Q (.ref l) (upd H l (.lst (kvs.map λkv=>kV kv.1)))):=by
 intro pins s σ H xs us Q I r h;replace h:=AY h;obtain ⟨p,kvs,rfl,O,q⟩:=h
 obtain ⟨u,rfl,V⟩:=Ag (CZ r);cases V;obtain ⟨Y,lo,vs,B,dd⟩:=AD (JL I O);obtain ⟨o,es,D,r⟩:=dd;have da:s.heap.DictAt (Bv X.prog X.w) p vs D:=⟨o,es,r⟩;have hl:=B.length;refine PySem.W.kdl_call (yd (kvs:=vs) (ep:=D) lo) (I.ok.hd hc) da (by omega) λh' tk J c hk hs ha=>?_;refine ⟨.ref s.heap.objs.size,_,I.laid (t':=tk) hk (Uq _) (show Bl X.prog X.w _ h' _ (.lst (kvs.map λkv=>kV kv.1)) from ⟨?_,J.toList,c,?_,by simpa using hs⟩),rfl,q _ I.fresh⟩
 .rw [T7];exact Y
 .obtain ⟨a1,a2⟩:=ha;refine LY (by rw [Vt,T7,a1,hl]) λj v x hv hx=>?_;obtain ⟨k,y,e,hk⟩:=AQ (a2 j v (by simpa using hv));rw [Uj] at hx;obtain ⟨kv,e2,rfl⟩:=Ag (UX.mp hx);have ke:=B.keys;have L:(kvs.map (·.1))[j]?=(vs.map (·.1))[j]?:=by rw [ke]
  rw [Uj,Uj,e,e2] at L;have e4:kv.1=k:=UK L;show AE (kV kv.1) v;rw [e4];exact P8 hk
end
section
variable {X:Cx}
def Ad6:V->List V->Hp->VK->Prop:=λx vs H Q=>∃ p xs y j,x=.ref p/\vs=[y]/\H p=some (.lst xs)/\C5 y=true/\xs.all C5=true /\
 (∃ z,xs[j]?=some z/\CU z y=true)/\(∀ m z,m<j->xs[m]?=some z->CU z y=false)/\Q (.int (j:Nat)) H
theorem Ad7:Hy X "list.index" Ad6:=by
 intro pins s σ H x vs v us Q I rx rv h;replace h:=Dd h;obtain ⟨p,V,y,j,rfl,rfl,hq,fy,fs,⟨z,Y,ez⟩,mQ,q⟩:=h
 cases rx;obtain ⟨u,rfl,ru⟩:=Ag rv.one;obtain ⟨hsz,its,n,r,hl,e⟩:=I.dO hq;obtain ⟨w,hw,bp⟩:=Ag (r.get Y);obtain ⟨ak,B⟩:=US.mp hw;have hs:sizeLine=16777216:=Uc;refine WR F.slot_list_index ⟨_,e,rfl⟩ F.entry_list_index (F.args_list_index_2 _ _) (SeqAt.list_indexAt p its.toArray n none #[] u (C6 y) j (by simpa using ak) (by omega) ?_ ?_) ⟨e,λa D=>Gu ru fy r fs a (by simpa using D),?_⟩
 .have fz:C5 z=true:=V3.mp fs z (Uw Y);rw [show its.toArray[j]'(by simpa using ak)=w by simpa using B,Jj bp fz];exact ez
 .intro m hm J;have jg:m<its.length:=by simpa using hm
  have L:m<V.length:=by rw [r.length];exact jg
  obtain ⟨a,D,ra⟩:=r.get (Uu L);have fa:C5 V[m]=true:=V3.mp fs _ (Wz L);obtain ⟨_,O⟩:=US.mp D;rw [show its.toArray[m]'hm=a by simpa using O,Jj ra fa];exact mQ m _ J (Uu L)
 .exact ⟨.int _,H,I.tok _,⟨_,rfl⟩,q⟩
def Ad8 (K:T3)(ta tb:TE):TE:=λσ H Q=>ta σ H λx H1=>∃ c,K8 K x H1 c/\if c=true then Q x H1 else tb σ H1 Q
theorem Ad9 {a b:T9}{rest:List T9}{pos:Pos}{J L:TE}(ha:PE X a J)(hb:PE X (.BoolOp .Or (b :: rest) pos) L):PE X (.BoolOp .Or (a :: b :: rest) pos) (Ad8 X.K J L):=by
 intro pins s σ H Q I h;refine BoolOp_or (Ap (ha pins s σ H _ I h) λv s1 zz=>AG zz λx O I1 V B=>?_);replace B:=Ag B;obtain ⟨c,hc,B⟩:=B
 refine Ap (OC pins s1 σ O x v (λk D=>k=c/\D=O) I1 V ⟨c,hc,rfl,rfl⟩) λk s2 e=>?_;replace e:=Av e;obtain ⟨D,Y,rfl,rfl⟩:=e
 cases k with
 | false=>exact hb pins s2 σ D Q Y B
 | true=>exact ⟨x,D,Y,V,B⟩
end
def tNo:TS:=λ_ _ _=>False
theorem LZ {X:Cx}{st:Stmt}:PS X st tNo:=λ_ _ _ _ _ _ h=>h.elim
section
variable {prog:Ub}{w:T6}{A:Us}{E:Value->T2->Prop}{s:T2}
theorem Aea {a:Addr}{kvs:List (Ar×Value)}{ep:Nat}{Q:List Value->T2->Prop}(H:A.handled=none)(lo:(a == Vq)=false)(x:s.heap.DictAt (Bv prog w) a kvs ep)(I:kvs.length<=sizeLine)(q:∀ h' tk vs,(∀ b o,s.heap.get? b=some o->h'.get? b=some o)->s.heap.objs.size<h'.objs.size->vs.length=kvs.length->(∀ (j:Nat) (v:Value),vs[j]?=some v->∃ k x,kvs[j]?=some (k,x)/\(Bv prog w).is k v=true)->Q vs { s with heap:=h',toks:=tk }):T5 (T8 prog w) A (collect (.ref a)) Q E s:=by have lt:a<s.heap.objs.size:=x.lt_size;unfold collect;refine Ua (xR (Xs F.entry_proto_collect ?_));rw [Yn F.plain_proto_collect _];show T5 _ A.in1 (newList [] >>= λl=>again (.builtin "list.__iadd__" ⟨[l,.ref a],[]⟩)) _ _ s;refine Ua (Yi (Um ⟨Z5 ye _,Xs F.entry_list_iadd ?_⟩));rw [Yn ye _];show T5 _ A.in1 (Builtin.List.listExtendWith (.ref s.heap.objs.size) (.ref a) (.ref s.heap.objs.size)) _ _ _;have atS:(s.heap.push { cls:=.type "list",data:=.seq ([]:List Value).toArray }).get? s.heap.objs.size=some { cls:=.type "list",data:=.seq #[] }:=Va _ rfl;refine PySem.W.kdl_extend (R:=λr D=>match r with | .ok (.ret v)=>T5 (T8 prog w) A (match v with | .ref a=>(do let o <- load a;(match o.data with | .seq J _=>pure J.toList | _=>unsupported "internal:collect")) | _=>unsupported "internal:collect") Q E D | .ok _=>False | .error e=>E e D) (A:=A) (s:={ s with heap:=s.heap.push { cls:=.type "list",data:=.seq ([]:List Value).toArray } }) (yd (kvs:=kvs) (ep:=ep) lo) H (x.push _) s.heap.objs.size (Wf lt) (Wf lt) _ _ atS (λh' tk B c hk hS L=>?_) I;show T5 _ A (load s.heap.objs.size >>= _) _ _ _;refine Ua (wpAny_load hS (Um ?_));obtain ⟨O,V⟩:=L;exact q h' tk B.toList (λb o e=>hk b o (UB (Ut e)) (UA _ e)) (Ut hS) (by rw [Vt];exact O) λj v e=>V j v (by rw [<- YJ];exact e)
end
section
variable {X:Cx}
theorem Aeb (hc:X.calm=true):BJ X (.builtin "sorted") (λxs H Q=>∃(p:Addr)(kvs:List (Ar×V))(zs:List Str),xs=[.ref p]/\FT X.prog X.w X.K H p kvs/\kvs.map (·.1)=zs.map UR/\zs.Nodup/\zs.length<64/\∀(l:Addr)(ts:List Str),H l=none->ts.Perm zs->ts.Pairwise CJ->Q (.ref l) (upd H l (.lst (ts.map V.str)))):=by
 intro pins s σ H xs us Q I r h;replace h:=BZ h;obtain ⟨p,kvs,zs,rfl,hp,ek,nd,aE,q⟩:=h
 obtain ⟨u,rfl,rx⟩:=Ag (CZ r);cases rx;obtain ⟨hz,lo,kv,J,o,es,ep,dd⟩:=AD (JL I hp);have Y:=J.length;have el0:kvs.length=zs.length:=by have:=congrArg V9 ek;rwa [T7,T7] at this
 refine xF kind_sorted plain_sorted entry_sorted (args_sorted1 _) ?_;unfold Builtin.«sorted»;refine Ua (m:=checkCount "sorted" 1 1 _) (Um (Ua (Aea (kvs:=kv) (ep:=ep) (by simpa using I.ok.hd hc) lo ⟨o,es,dd⟩ (by omega) λD tk vs k hsz lv iv=>?_)));have rv:Ay (zs.map V.str) vs:=by
  refine LY (by rw [T7,lv];omega) λj v y hv hy=>?_;obtain ⟨kk,x,e,hk⟩:=AQ (iv j v hv);rw [Uj] at hy;obtain ⟨z,e2,rfl⟩:=Ag (UX.mp hy);have e3:(kvs.map (·.1))[j]?=(kv.map (·.1))[j]?:=by rw [J.keys]
  rw [ek,Uj,Uj,e,e2] at e3;have e4:(UR z:Ar)=kk:=UK e3;have:=P8 hk;rw [<- e4] at this;exact this
 have r:=HW rv;have el:zs.length=vs.length:=by omega
 refine Ua (Z1 ?_ (by rw [Uc];omega));have hJ:(D.push (U3 "list" vs.toArray 0)).get? D.objs.size=some (U3 "list" vs.toArray 0):=Va _ rfl;refine Ua (VY (Xv xG ⟨_,hJ,rfl⟩ xH (PN (key:=λi=>(zs.getD i UJ).cps.toList) hJ (by omega) (λtwo h' L=>AdH r nd two) λB O up=>⟨_,rfl,?_⟩) (xI _)));refine Um ⟨_,rfl,?_⟩;have I1:Ad X pins σ H { s with heap:=D,toks:=tk }:=I.kept (t':=tk) k;obtain ⟨c,ho⟩:=sortedHeap_at (out:=DM B vs) hJ;have fr:H D.objs.size=none:=I1.fresh;have sz:B.size=zs.length:=by rw [O.size,el]
 have m5:∀ i∈B.toList,i<zs.length:=λi hm=>by have:=Vr.mp (O.pm.mem_iff.mp hm);omega
 have sa:∀ l:List Nat,(∀ i∈l,i<zs.length)->Xu (l.map λi=>vs.getD i U8) (l.map λi=>zs.getD i UJ):=λl Y=>by
  induction l with
  | nil=>exact .nil
  | cons i l ih =>
   have hi:=Y i UY;obtain ⟨t1,e1⟩:=LQ r hi;have e2:zs.getD i UJ=zs[i]:=AdG (Uu hi);rw [Vd,Vd,e1,e2];exact .cons _ _ (ih λj hm=>Y j (UO _ hm))
 have perm:(B.toList.map λi=>zs.getD i UJ).Perm zs:=by have bN:=O.pm;rw [<- el] at bN;refine (bN.map λi=>zs.getD i UJ).trans (xJ ?_);refine ZY (by simp) λi g1 g2=>?_;simp [UM,Uu g2]
 have L:∀ b o,D.get? b=some o->(sortedHeap (D.push (U3 "list" vs.toArray 0)) D.objs.size vs (DM B vs)).get? b=some o:=λb o e=>by
  have bl:=Ut e;rw [sortedHeap_old (UB bl) (by rw [V0];exact Ym bl)];exact UA _ e
 refine ⟨.ref D.objs.size,_,I1.laid (t':=tk) L (Uq _) (show Bl X.prog X.w _ _ _ (.lst ((B.toList.map λi=>zs.getD i UJ).map V.str)) from ⟨?_,(B.toList.map λi=>vs.getD i U8),c,FR (sa _ m5),ho⟩),rfl,q _ _ fr perm ?_⟩
 .rw [T7,T7,Vt,sz,Uc];omega
 .rw [YV,xK];intro i j g1 g2 m6;have k1:i<B.size:=by simpa using g1
  have k2:j<B.size:=by simpa using g2
  have u:=up i j m6 (by rw [<- O.size];exact k2);rw [Ds,Ds,WU k1,WU k2] at u;have u':(zs.getD B.toList[i] UJ).cps.toList<(zs.getD B.toList[j] UJ).cps.toList:=by simpa using u
  exact List.le_of_lt u'
end
end L2
set_option maxHeartbeats 4000000
namespace Lw
open PySem L2
local macro_rules | `(tactic| walk_at"")=>`(tactic| repeat (first
 | with_reducible refine AbX λ_ _=>?_
 | with_reducible refine Lk.asg (by assumption) ?_
 | refine Lk.use (by assumption) ?_
 | refine w1 rfl ?_
 | refine w2 rfl rfl ?_
 | refine w3 rfl ?_
 | refine Uh (w2 rfl rfl ?_)
 | refine Uh ⟨rfl,?_⟩
 | refine ⟨rfl,?_⟩
 | refine Uh ⟨_,_,_,_,rfl,rfl,.of (by assumption),rfl,?_⟩
 | (refine vP (show Hs _ _ from ?_) ?_;(first | exact Ue ⟨by omega,by omega⟩ | exact Uh ⟨by omega,by omega⟩))
 | (refine vP (show Om _ _ from ?_) ?_;exact ⟨by omega,by omega⟩)
 | (refine vP (show (0:Int)<_ from ?_) ?_;first | decide | omega)))
local macro_rules | `(tactic| walk_at "m")=>`(tactic| exact ⟨rfl,rfl,rfl,by decide +kernel,rfl,by decide +kernel,by decide +kernel⟩)
local macro_rules | `(tactic| walk_at "k")=>`(tactic| exact ⟨by decide +kernel,by decide +kernel,by decide +kernel⟩)
def top (i:Nat):Stmt:=PySem.Challenge.pw_stephall_k08_tone_in_order.main.body.getD i (.Pass ⟨0,0,0,0⟩)
structure Aq where
 (rN fQ cu eT hV kJ aaO aaP Plan aF gA aR Line ae gB kK:Addr)
noncomputable def Aq.bR (a:Aq):List Addr:=[a.aF,a.aR]
structure Txt (K:T3)(mg:Str->Option Value)(a:Aq):Prop where
 n_len:mg "len"=none
 ni:mg "isinstance"=none
 rO:mg "bool"=none
 kL:mg "int"=none
 dW:mg "range"=none
noncomputable def D1 (ns:List Int)(k:Int):Int :=
 if k<ns.length then ns.getD k.toNat 0 else if ns.length=0 then 7919 * k+101 else ns.getD (k % ns.length).toNat 0 % 1000003+7919 * k
def Qe (K:T3):Sp:=λvs H Q _=>∃(p:Addr)(ns:List Int)(k:Int),vs=[.ref p,.int k]/\Bg K H p (ns.map V.int)/\0<=k/\k<1000/\ns.length<=63/\Q (.int (D1 ns k)) H
section
variable {P:Ub}{w:T6}{K:T3}{mg:Str->Option Value}{base:Heap}{a:Aq}{f:Addr}{fd:Uk}
theorem Qf:AR ["script","k"] ["script","k"] (Ab (top 41)):=.of
theorem Ib:Nm (Ab (top 41)) "script":=.of
theorem Ic:Nm (Ab (top 41)) "k":=.of
theorem L4:Gm (Ab (top 41)) "len":=.of
theorem Aec (F:AM K "_law_cell" "_law_cell" (top 41) f fd)(T:Txt K mg a):AF P w K mg base AB 1 f fd ["script","k"] (Qe K):=by
 refine F.ok Qf λV A outer s H vs Q E I h=>?_
 .replace h:=BZ h;obtain ⟨p,B,k,rfl,hS,J,hk,Y,q⟩:=h
  have hu:=I.units;have nd:=Qf.nd;refine ⟨_,(@Aj _ _ _ _ _ (Ba (A5 K6 (Aa 1 Ic) (BG Cp L4 T.n_len Ca (Ac (Aa 0 Ib) Ae)) (Bb _)) (An (AO (AK AL (Aa 0 Ib) (Aa 1 Ic) (λ_ _=>rfl)))) Be)
    (Aj (Ba (A5 (B7 hu) (BG Cp L4 T.n_len Ca (Ac (Aa 0 Ib) Ae)) Am (Bb _)) (An (AO (As BL (As B2 Am (Aa 1 Ic)) Am))) Be)
    (An (AO (As BL (As Bz (AK AL (Aa 0 Ib) (As Bz (Aa 1 Ic) (BG Cp L4 T.n_len Ca (Ac (Aa 0 Ib) Ae))) (λ_ _=>rfl)) Am) (As B2 Am (Aa 1 Ic))))))),?_⟩
  try dsimp only [av,aw]
  walk_at"";refine Ue (AU _ _ rfl (.inl hS) ?_);walk_at"";rw [T7];refine Jl (λh=>?_) (λh=>?_)
  .have h:=of_decide_eq_true h;walk_at"";refine Uh (Bw hS (Fj J h) ?_);have e:D1 B k=B.getD k.toNat 0:=by unfold D1;rw [if_pos h]
   rw [e] at q;exact q
  .have h:¬ k<B.length:=by simpa using h
   walk_at"";refine Ue (AU _ _ rfl (.inl hS) ?_);walk_at"";rw [T7];refine Jl (λD=>?_) (λD=>?_)
   .have D:B.length=0:=by simpa using D
    walk_at"";have e:D1 B k=7919 * k+101:=by unfold D1;rw [if_neg h,if_pos D]
    rw [e] at q;exact q
   .have D:¬ B.length=0:=by simpa using D
    walk_at"";refine Ue (AU _ _ rfl (.inl hS) ?_);rw [T7];have hp:0<(B.length:Int):=by omega
    walk_at"";have L:0<=k % (B.length:Int):=VI _ (by omega);have O:k % (B.length:Int)<B.length:=VJ _ (by omega);refine Uh (Bw hS (Fj L O) ?_);walk_at"";have e:D1 B k=B.getD (k % B.length).toNat 0 % 1000003+7919 * k:=by unfold D1;rw [if_neg h,if_neg D]
    rw [e] at q;exact q
def L5 (K:T3):Sp:=λvs H Q _=>∃(p:Addr)(ns:List Int)(k many base:Int),vs=[.ref p,.int k,.int many,.int base]/\Bg K H p (ns.map V.int)/\0<=k/\k<1000/\ns.length<=63/\0<=many/\many<=100/\0<base/\base<1000000000 /\
 ∀(r:Addr)(row:List Int)(H':Hp),Ai H H'->H r=none->H' r=some (.lst (row.map V.int))->row.length=many.toNat->(∀ v∈row,0<=v/\v<base)->Q (.ref r) H'
theorem Aed {H:Hp}{r:Addr}{B:List Int}{v:Int}:upd H r (.lst (B.map V.int++[.int v])) r=some (.lst ((B++[v]).map V.int)):=by rw [Al,Uy];rfl
theorem Aee {B:List Int}{v b:Int}(h:∀ u∈B,0<=u/\u<b)(hv:0<=v/\v<b):∀ u∈B++[v],0<=u/\u<b:=by
 intro u hu;rcases UU.mp hu with z | z
 .exact h u z
 .rw [UL.mp z];exact hv
noncomputable def Ie:List Int:=[2147483647,2147483629,2147483587,2147483579,2147483563,2147483549,2147483543,2147483497]
theorem L6 {i:Int}(D:0<=i)(H:i<8):∃ p:Int,Cu (Ie.map V.int) i=some (.int p)/\0<p/\p<2147483648:=by
 refine ⟨_,Fj D H,?_⟩;have B:∀ m:Nat,m<8->0<Ie.getD m 0/\Ie.getD m 0<2147483648:=by decide
 exact B _ (by omega)
theorem Qg:AR ["script","k","many","base","primes","cell","rest","row","j","mash"] ["script","k","many","base"] (Ab (top 42)):=.of
theorem Aef:Nm (Ab (top 42)) "script":=.of
theorem L7:Nm (Ab (top 42)) "k":=.of
theorem Aeg:Nm (Ab (top 42)) "many":=.of
theorem Qh:Nm (Ab (top 42)) "base":=.of
theorem JN:Nm (Ab (top 42)) "primes":=.of
theorem JO:Nm (Ab (top 42)) "cell":=.of
theorem GH:Nm (Ab (top 42)) "rest":=.of
theorem L8:Nm (Ab (top 42)) "row":=.of
theorem Fp:Nm (Ab (top 42)) "j":=.of
theorem D3:Nm (Ab (top 42)) "mash":=.of
theorem Aeh:Gm (Ab (top 42)) "range":=.of
theorem Aei:Gm (Ab (top 42)) "_law_cell":=.of
theorem Aej (F:AM K "_law_draws" "_law_draws" (top 42) f fd)(T:Txt K mg a)(nk:BB P w K mg base AB 1 "_law_cell" ["script","k"] (Qe K)) :
  AF P w K mg base AB 2 f fd ["script","k","many","base"] (L5 K):=by
 refine F.ok Qg λah A outer s H vs Q E J h=>?_
 .replace h:=Dm h;obtain ⟨p,ns,k,L,bs,rfl,hS,k0,k1,hl,m0,m1,b0,b1,q⟩:=h
  have hu:=J.units;have I:=Qg.nd;refine ⟨_,(@Aj _ _ _ _ _ (A1 4 I JN (BN (Jw rfl)))
    (Aj (A1 5 I JO (Bx nk Aei J.d A3 (Ac (Aa 0 Aef) (Ac (Aa 1 L7) Ae))))
    (Aj (A1 6 I GH Am)
    (Aj (Ba (A5 AaS (Aa 5 JO) (As AaP Am Am) (Bb _)) (An (A1 6 I GH (Aa 5 JO))) Be)
    (Aj (A1 7 I L8 (A0 Ae))
    (Aj (CO Vp rfl (GA Aeh T.dW (Ac (Aa 2 Aeg) Ae)) (Bo 8 I Fp) (Aj (A1 9 I D3 (As B2 (As Bz (Aa 5 JO) (AK AL (Aa 4 JN) (As Bz (Aa 8 Fp) Am) (λ_ _=>rfl))) (As BL Am (As B2 (As B2 Am (Aa 8 Fp)) (Aa 8 Fp)))))
     (Aj (A1 9 I D3 (As BL (As BL (Aa 9 D3) (As B2 (As B2 Am (As BL (Aa 8 Fp) Am)) (As BL (Aa 8 Fp) Am))) (As B2 Am (Aa 1 L7))))
     (Aj (A1 9 I D3 (As Bz (Aa 9 D3) (AK AL (Aa 4 JN) (As Bz (As BL (As B2 Am (Aa 8 Fp)) (Aa 1 L7)) Am) (λ_ _=>rfl))))
     (Aj (A1 9 I D3 (As Bz (As B2 (As B2 (Aa 9 D3) (Aa 9 D3)) (Aa 9 D3)) (AK AL (Aa 4 JN) (As Bz (As BL (Aa 8 Fp) Am) Am) (λ_ _=>rfl))))
     (Aj (Ba (A5 Jc (Aa 6 GH) Am (Bb _)) (An (A1 9 I D3 (Aa 6 GH))) Be)
     (Aj (Bi (Cm Ve Vy Vz C7 (Aa 7 L8) (Ac (As Bz (Aa 9 D3) (Aa 3 Qh)) Ae)))
     (An (A1 6 I GH (As DX (Aa 6 GH) (Aa 3 Qh)))))))))))
    (An (AO (Aa 7 L8))))))))),?_⟩
  try dsimp only [av,aw]
  refine ⟨by decide,λpr hpr=>?_⟩;have s1:Ai H (upd H pr (.tup (Ie.map V.int))):=(Ai.refl H).upd hpr;walk_at"";refine BO p ns k rfl ⟨s1.seq hS,k0,k1,hl,?_⟩;walk_at"";refine ⟨⟨by decide,by decide,by decide⟩,?_⟩;walk_at"";refine Jl (λ_=>?_) (λ_=>?_) <;>
  .walk_at"";refine ⟨by decide,λr J=>?_⟩;have ny:r≠pr:=λe=>by rw [e,Al] at J;cases J
   have rP:H r=none:=by rw [Au ny] at J;exact J
   walk_at"";refine ⟨by omega,by omega,Hr (n:=L.toNat) (λi σ Y=>∃(B:List Int)(z:Int)(x y:Option V),σ=[some (.ref p),some (.int k),some (.int L),some (.int bs),some (.ref pr),some (.int (D1 ns k)),some (.int z),some (.ref r),x,y] /\
    Ai H Y/\Y pr=some (.tup (Ie.map V.int))/\Y r=some (.lst (B.map V.int))/\B.length=i/\∀ v∈B,0<=v/\v<bs) ?_ ?_ ?_⟩
   .exact ⟨[],_,none,none,rfl,s1.upd J,(by rw [Au ny.symm,Al];rfl),Al,rfl,λv hv=>absurd hv (by simp)⟩
   .intro i σ Y hi O;replace O:=Dd O;obtain ⟨B,z,x,y,rfl,sm,hP,hR,D,jh⟩:=O;have eO:(i:Int)<100:=by omega
    simp only [Yp];walk_at"";obtain ⟨p1,e1,a1,ji⟩:=Av (L6 (i:=(i:Int) % 8) (by omega) (by omega));refine Ue (Uh (Bw (.of hP) e1 ?_));walk_at"";have c1:=VI (D1 ns k) (show p1≠0 by omega);have c2:=VJ (D1 ns k) a1;generalize D1 ns k % p1=m1 at c1 c2 ⊢;walk_at"";obtain ⟨p2,e2,a2,b2'⟩:=Av (L6 (i:=(3 * (i:Int)+k) % 8) (by omega) (by omega));refine Ue (Uh (Bw (.of hP) e2 ?_));walk_at"";generalize rQ:(m1 * (48271+2 * (i:Int) * (i:Int))+7919 * ((i:Int)+1) * ((i:Int)+1)+104729 * k) % p2=m2;have c3:0<=m2:=by rw [<- rQ];exact VI _ (by omega)
    have c4:m2<p2:=by rw [<- rQ];exact VJ _ a2
    walk_at"";obtain ⟨p3,e3,a3,b3'⟩:=Av (L6 (i:=((i:Int)+5) % 8) (by omega) (by omega));refine Ue (Uh (Bw (.of hP) e3 ?_));walk_at"";refine Jl (λ_=>?_) (λ_=>?_) <;>
    .walk_at"";refine ⟨.inl ⟨rfl,_,.of hR⟩,?_⟩;walk_at"";refine B1 r _ _ rfl rfl hR ?_ ?_
     .rw [T7,D,Uc];omega
     walk_at"";exact ⟨B++[_],_,_,_,rfl,sm.cj rP,(by rw [Au ny.symm];exact hP),Aed,(by rw [U2,D];rfl),Aee jh ⟨VI _ (by omega),VJ _ b0⟩⟩
   .intro σ Y O;replace O:=Dd O;obtain ⟨B,z,x,y,rfl,sm,hP,hR,D,jh⟩:=O;walk_at"";exact q r B Y sm rP hR D jh
theorem Aek (K:T3):X7 K (.type "int") (.type "bool")=some false:=by rfl
def Cq (z:Str):Prop:=∀ c∈z.cps.toList,c<128
def Cy (z:Str):Prop:=∀ c∈z.cps.toList,48<=c/\c<=57
theorem Cy.asc {z:Str}(h:Cy z):Cq z:=λc hc=>by have:=h c hc;omega
theorem JP (x y:Str):(x++y).cps.toList=x.cps.toList++y.cps.toList:=by show (x.cps++y.cps).toList=_;simp
theorem Fq (x:Str):x.length=x.cps.toList.length:=by simp [Xp]
def Ig:Sp:=λvs H Q _=>∃ n lo hi,vs=[.int n,.int lo,.int hi]/\Q (.bl (decide (lo<=n) && decide (n<=hi))) H
def Qi:Sp:=λvs H Q _=>∃ d l:Int,vs=[.int d,.int l]/\-100<=l/\l<=100/\∀ z:Str,z.length=l.toNat->Cy z->Q (.str z) H
theorem Qj:AR ["number","least","most"] ["number","least","most"] (Ab (top 11)):=.of
theorem Qk:Nm (Ab (top 11)) "number":=.of
theorem Ael:Nm (Ab (top 11)) "least":=.of
theorem Aem:Nm (Ab (top 11)) "most":=.of
theorem Aen:Gm (Ab (top 11)) "isinstance":=.of
theorem Aeo:Gm (Ab (top 11)) "bool":=.of
theorem Aep (F:AM K "within" "within" (top 11) f fd)(T:Txt K mg a):AF P w K mg base AB 1 f fd ["number","least","most"] Ig:=by
 refine F.ok Qj λI A outer s H vs Q E D h=>?_
 .replace h:=BI h;obtain ⟨n,lo,J,rfl,q⟩:=h
  have hu:=D.units;have L:=Qj.nd;refine ⟨_,(@An _ _ _ (AO (N6 (N7 (BG Pb Aen T.ni Pc (Ac (Aa 0 Qk) (Ac (Pd (v:=.ty "bool") Aeo T.rO Acq rfl) Ae)))) (K1 (AaU K7 K7 (Aa 1 Ael) (Aa 0 Qk) (Aa 2 Aem)))))),?_⟩;try dsimp only [av,aw]
  walk_at"";refine Uh (C8 _ _ _ _ _ rfl ⟨.of (.int n),rfl,Aek K,?_⟩);walk_at"";by_cases B:lo<=n
  .refine EC (decide_eq_true B) ?_;walk_at"";rw [decide_eq_true B] at q;exact q
  .refine ED (decide_eq_false B) ?_;rw [decide_eq_false B] at q;exact q
structure EK (K:T3)(a:Aq)(C:Addr):Prop where
 mem:C∈a.bR
 cls:CB K C
 h:BK K C "held_by"
 j:BK K C "jammed"
 t:BK K C "taken"
structure Fs (fs:List (Str×V))(ra rb rc:Addr):Prop where
 h:fs.lookup ("held_by":Str)=some (V.ref ra)
 j:fs.lookup ("jammed":Str)=some (V.ref rb)
 t:fs.lookup ("taken":Str)=some (V.ref rc)
 m:∀ x∈(["first_free","hold","free","stick","mend","check","holders","stuck","shares","take","paper"]:List Str),fs.lookup x=none
structure CQ (K:T3)(a:Aq)(H:Hp)(p C:Addr)(ra rb rc:Addr)(hs:List V)(js:List Bool)(ts:List Int):Prop where
 ins:∃ dx fs,H p=some (.ins C dx fs)/\Fs fs ra rb rc
 c:EK K a C
 ha:H ra=some (.lst hs)
 hb:H rb=some (.lst (js.map V.bl))
 hc:H rc=some (.lst (ts.map V.int))
 ab:ra≠rb
 ac:ra≠rc
 bc:rb≠rc
 lj:js.length=hs.length
 lt:ts.length=hs.length
 z:hs.length<=1000
theorem CQ.same {K:T3}{a:Aq}{H B:Hp}{p C D I J:Addr}{hs:List V}{js:List Bool}{ts:List Int}(r:CQ K a H p C D I J hs js ts)(s:Ai H B):CQ K a B p C D I J hs js ts:=by obtain ⟨dx,fs,e,f⟩:=AQ r.ins;exact ⟨⟨dx,fs,s _ _ e,f⟩,r.c,s _ _ r.ha,s _ _ r.hb,s _ _ r.hc,r.ab,r.ac,r.bc,r.lj,r.lt,r.z⟩
noncomputable def Cz (k:Int)(hs:List V):Bool:=decide (0<=k) && decide (k<=(hs.length:Int) - 1)
theorem Ei {k:Int}{hs:List V}:Cz k hs=true↔0<=k/\k<hs.length:=by unfold Cz;rw [Wj,decide_eq_true_eq,decide_eq_true_eq];omega
theorem FU {n:Nat}{k:Int}(B:0<=k)(h:k<n):DJ n k=some k.toNat:=by unfold DJ;rw [if_pos B,if_pos h]
def Ql (K:T3)(a:Aq):Sp:=λvs H Q _=>∃ p C ra rb rc hs js ts,vs=[.ref p]/\CQ K a H p C ra rb rc hs js ts/\∀ l,H l=none->Q (.ref l) (upd H l (.lst hs))
def Qm (K:T3)(a:Aq):Sp:=λvs H Q _=>∃ p C ra rb rc hs js ts,vs=[.ref p]/\CQ K a H p C ra rb rc hs js ts/\∀ l,H l=none->Q (.ref l) (upd H l (.lst (ts.map V.int)))
def JQ (K:T3)(a:Aq):Sp:=λvs H Q E=>∃ p k C ra rb rc hs js ts,vs=[.ref p,.int k]/\CQ K a H p C ra rb rc hs js ts/\if Cz k hs=true then Q .aa H else E (.ref a.cu) none H
def Qn (K:T3)(a:Aq):Sp:=λvs H Q _=>∃ p k jj C ra rb rc hs js ts,vs=[.ref p,.int k,jj]/\CQ K a H p C ra rb rc hs js ts/\0<=k/\k<hs.length /\
 Q .aa (upd (upd H ra (.lst (hs.set k.toNat jj))) rc (.lst ((ts.set k.toNat (ts.getD k.toNat 0+1)).map V.int)))
def Qo (K:T3)(a:Aq):Sp:=λvs H Q E=>∃ p k C ra rb rc hs js ts,vs=[.ref p,.int k]/\CQ K a H p C ra rb rc hs js ts /\
 if Cz k hs=true/\hs.getD k.toNat .aa≠.aa then Q .aa (upd H ra (.lst (hs.set k.toNat .aa))) else E (.ref a.cu) none H
def JR (K:T3)(a:Aq)(b:Bool):Sp:=λvs H Q E=>∃ p k C ra rb rc hs js ts,vs=[.ref p,.int k]/\CQ K a H p C ra rb rc hs js ts /\
 if Cz k hs=true then Q .aa (upd H rb (.lst ((js.set k.toNat b).map V.bl))) else E (.ref a.cu) none H
structure TxtS (K:T3)(mg:Str->Option Value)(a:Aq):Prop extends Txt K mg a where
 cJ:mg "list"=none
 kM:mg "enumerate"=none
 ia:mg "tuple"=none
 ic:mg "NoSwitch"=some (.ref a.cu)
 kN:VH K a.cu [.type "ValueError",.type "Exception",.type "BaseException",.type "object"] "ValueError.__new__"=true
theorem Aeq:AR ["self"] ["self"] (Ab (Af (top 17) 7)):=.of
theorem Aer:Nm (Ab (Af (top 17) 7)) "self":=.of
theorem Aes:Gm (Ab (Af (top 17) 7)) "list":=.of
theorem Aet (F:AM K "holders" "Switches.holders" (Af (top 17) 7) f fd)(T:TxtS K mg a):AF P w K mg base AB 1 f fd ["self"] (Ql K a):=by
 refine F.ok Aeq λJ A outer s H vs Q E L h=>?_
 .replace h:=Gh h;obtain ⟨p,C,O,V,Y,hs,js,ts,rfl,R,q⟩:=h
  obtain ⟨dx,fs,B,D⟩:=AQ R.ins;refine ⟨_,(@An _ _ _ (AO (Cw (Eg rfl) Aes T.cJ DZ (Ac (AN (Aa 0 Aer) rfl) Ae)))),?_⟩;try dsimp only [av,aw]
  walk_at"";refine Dh B R.c.cls R.c.h D.h ?_;walk_at"";refine Uh (AU _ _ rfl (.inl (.of R.ha)) (λl I=>?_));exact q l I
theorem Aeu:AR ["self"] ["self"] (Ab (Af (top 17) 9)):=.of
theorem Aev:Nm (Ab (Af (top 17) 9)) "self":=.of
theorem Aew:Gm (Ab (Af (top 17) 9)) "list":=.of
theorem Aex (F:AM K "shares" "Switches.shares" (Af (top 17) 9) f fd)(T:TxtS K mg a):AF P w K mg base AB 1 f fd ["self"] (Qm K a):=by
 refine F.ok Aeu λJ A outer s H vs Q E L h=>?_
 .replace h:=Gh h;obtain ⟨p,C,O,V,Y,hs,js,ts,rfl,R,q⟩:=h
  obtain ⟨dx,fs,B,D⟩:=AQ R.ins;refine ⟨_,(@An _ _ _ (AO (Cw (Eg rfl) Aew T.cJ DZ (Ac (AN (Aa 0 Aev) rfl) Ae)))),?_⟩;try dsimp only [av,aw]
  walk_at"";refine Dh B R.c.cls R.c.t D.t ?_;walk_at"";refine Uh (AU _ _ rfl (.inl (.of R.hc)) (λl I=>?_));exact q l I
theorem Aey:AR ["self","k","who"] ["self","k","who"] (Ab (Af (top 17) 2)):=.of
theorem Qp:Nm (Ab (Af (top 17) 2)) "self":=.of
theorem Qq:Nm (Ab (Af (top 17) 2)) "k":=.of
theorem Aez:Nm (Ab (Af (top 17) 2)) "who":=.of
theorem AeA (F:AM K "hold" "Switches.hold" (Af (top 17) 2) f fd)(T:TxtS K mg a):AF P w K mg base AB 1 f fd ["self","k","who"] (Qn K a):=by
 refine F.ok Aey λah A outer s H vs Q E hr h=>?_
 .obtain ⟨p,k,I,C,J,rb,Y,hs,js,ts,rfl,R,B,h1,q⟩:=h;obtain ⟨dx,fs,D,L⟩:=AQ R.ins;have ak:=R.lt;refine ⟨_,(@Aj _ _ _ _ _ (DU (Aa 2 Aez) (EA (AN (Aa 0 Qp) rfl) (Aa 1 Qq) DA))
    (An (IX (AN (Aa 0 Qp) rfl) (Aa 1 Qq) JA Am IY DA))),?_⟩
  try dsimp only [av,aw]
  walk_at"";refine Dh D R.c.cls R.c.h L.h ?_;walk_at"";refine Bw R.ha (FU B h1) ?_;walk_at"";have dQ:(upd H J (.lst (hs.set k.toNat I))) p=some (.ins C dx fs):=by rw [Au (IT D R.ha (by intro z;cases z))];exact D
  have O:(upd H J (.lst (hs.set k.toNat I))) Y=some (.lst (ts.map V.int)):=by rw [Au (UQ R.ac)];exact R.hc
  refine Dh dQ R.c.cls R.c.t L.t ?_;walk_at"";refine Bn _ _ _ _ rfl rfl B (.of O) (Fj B (by omega)) ?_;walk_at"";refine Bw O (FU B (by rw [T7];omega)) ?_;rw [Vn] at q;exact q
theorem Bk (x y:Str):(x++y).length=x.length+y.length:=by rw [Fq,Fq,Fq,JP,U2]
theorem AeB:AR ["self","k"] ["self","k"] (Ab (Af (top 17) 6)):=.of
theorem Qr:Nm (Ab (Af (top 17) 6)) "self":=.of
theorem AeC:Nm (Ab (Af (top 17) 6)) "k":=.of
theorem AeD:Gm (Ab (Af (top 17) 6)) "within":=.of
theorem Qs:Gm (Ab (Af (top 17) 6)) "len":=.of
theorem AeE:Gm (Ab (Af (top 17) 6)) "NoSwitch":=.of
theorem AeF (F:AM K "check" "Switches.check" (Af (top 17) 6) f fd)(T:TxtS K mg a)(L:BB P w K mg base AB 1 "within" ["number","least","most"] Ig):AF P w K mg base (AJ P w) 2 f fd ["self","k"] (JQ K a):=by
 refine F.bw AeB λY A outer s H vs Q E O h=>?_
 .replace h:=Eu h;obtain ⟨p,k,C,ra,rb,rc,hs,js,ts,rfl,R,q⟩:=h
  obtain ⟨dx,fs,D,I⟩:=AQ R.ins;have V:=R.z;refine ⟨_,(@An _ _ _ (Ba (DS (Dy (Bx L AeD O.d A3 (Ac (Aa 1 AeC) (Ac Am (Ac (As Ec (BG Cp Qs T.n_len Ca (Ac (AN (Aa 0 Qr) rfl) Ae)) Am) Ae)))))) (An (Dr Dq AeE rfl T.kN T.ic (Ac (FO (Cv Ak (Cv (HP (BG Cp Qs T.n_len Ca (Ac (AN (Aa 0 Qr) rfl) Ae))) (Cv Ak FN)))) Ae))) Be)),?_⟩;try dsimp only [av,aw]
  walk_at"";refine Dh D R.c.cls R.c.h I.h ?_;walk_at"";refine Ue (AU _ _ rfl (.inl (.of R.ha)) ?_);walk_at"";refine BO k 0 ((hs.length:Int) - 1) rfl ?_;walk_at"";by_cases hk:Cz k hs=true
  .rw [if_pos hk] at q;have e:(decide (0<=k) && decide (k<=(hs.length:Int) - 1))=true:=hk;rw [e];refine Cn ?_;exact q
  .rw [if_neg hk] at q;have e:(decide (0<=k) && decide (k<=(hs.length:Int) - 1))=false:=Xt.mpr hk;rw [e];refine Co ?_;walk_at"";have B:(UJ++Ud "there are ").length=10:=by decide +kernel
   have J:(Ud " switches, numbered from 0").length=26:=by decide +kernel
   refine ⟨(by rw [B,Uc];decide),?_⟩;walk_at"";refine Dh D R.c.cls R.c.h I.h ?_;walk_at"";refine Ue (AU _ _ rfl (.inl (.of R.ha)) ?_);refine Uh (CC _ rfl ⟨by omega,by omega,λz V=>?_⟩);walk_at"";refine ⟨(by rw [Bk,B,Uc];omega),?_⟩;walk_at"";refine ⟨(by rw [Bk,Bk,B,J,Uc];omega),?_⟩;walk_at"";refine ⟨(by rw [Bk,Bk,B,J,Uc];omega),?_⟩;exact ⟨Ax,q⟩
theorem AeG:AR ["self","k"] ["self","k"] (Ab (Af (top 17) 4)):=.of
theorem Qt:Nm (Ab (Af (top 17) 4)) "self":=.of
theorem Qu:Nm (Ab (Af (top 17) 4)) "k":=.of
theorem AeH (F:AM K "stick" "Switches.stick" (Af (top 17) 4) f fd)(T:TxtS K mg a)(I:∀ C∈a.bR,A2 P w K mg base (AJ P w) 2 C "check" ["self","k"] (JQ K a)):AF P w K mg base (AJ P w) 3 f fd ["self","k"] (JR K a true):=by
 refine F.bw AeG λah A outer s H vs Q E J h=>?_
 .replace h:=Eu h;obtain ⟨p,k,C,L,O,V,hs,js,ts,rfl,R,q⟩:=h
  obtain ⟨dx,fs,B,D⟩:=AQ R.ins;have Y:=I C R.c.mem;have cls:=R.c.cls;have hj:=R.lj;refine ⟨_,(@Aj _ _ _ _ _ (Bi (Bs Y cls (Aa 0 Qt) J.d BV (Ac (Aa 1 Qu) Ae)))
    (An (DU DR (EA (AN (Aa 0 Qt) rfl) (Aa 1 Qu) DA)))),?_⟩
  try dsimp only [av,aw]
  walk_at"";refine Gx B (D.m _ (by decide)) ?_;walk_at"";refine Gy p k C L O V hs js ts rfl ⟨R,?_⟩;by_cases hk:Cz k hs=true
  .rw [if_pos hk] at q ⊢;obtain ⟨h0,h1⟩:=Ei.mp hk;walk_at"";refine Dh B R.c.cls R.c.j D.j ?_;walk_at"";refine Bw R.hb (FU h0 (by rw [T7];omega)) ?_;rw [Vn] at q;exact q
  .rw [if_neg hk] at q ⊢;exact q
theorem AeI:AR ["self","k"] ["self","k"] (Ab (Af (top 17) 5)):=.of
theorem Qw:Nm (Ab (Af (top 17) 5)) "self":=.of
theorem Qx:Nm (Ab (Af (top 17) 5)) "k":=.of
theorem AeJ (F:AM K "mend" "Switches.mend" (Af (top 17) 5) f fd)(T:TxtS K mg a)(I:∀ C∈a.bR,A2 P w K mg base (AJ P w) 2 C "check" ["self","k"] (JQ K a)):AF P w K mg base (AJ P w) 3 f fd ["self","k"] (JR K a false):=by
 refine F.bw AeI λah A outer s H vs Q E J h=>?_
 .replace h:=Eu h;obtain ⟨p,k,C,L,O,V,hs,js,ts,rfl,R,q⟩:=h
  obtain ⟨dx,fs,B,D⟩:=AQ R.ins;have Y:=I C R.c.mem;have cls:=R.c.cls;have hj:=R.lj;refine ⟨_,(@Aj _ _ _ _ _ (Bi (Bs Y cls (Aa 0 Qw) J.d BV (Ac (Aa 1 Qx) Ae)))
    (An (DU DR (EA (AN (Aa 0 Qw) rfl) (Aa 1 Qx) DA)))),?_⟩
  try dsimp only [av,aw]
  walk_at"";refine Gx B (D.m _ (by decide)) ?_;walk_at"";refine Gy p k C L O V hs js ts rfl ⟨R,?_⟩;by_cases hk:Cz k hs=true
  .rw [if_pos hk] at q ⊢;obtain ⟨h0,h1⟩:=Ei.mp hk;walk_at"";refine Dh B R.c.cls R.c.j D.j ?_;walk_at"";refine Bw R.hb (FU h0 (by rw [T7];omega)) ?_;rw [Vn] at q;exact q
  .rw [if_neg hk] at q ⊢;exact q
theorem AeK:AR ["self","k"] ["self","k"] (Ab (Af (top 17) 3)):=.of
theorem L9:Nm (Ab (Af (top 17) 3)) "self":=.of
theorem JS:Nm (Ab (Af (top 17) 3)) "k":=.of
theorem AeL:Gm (Ab (Af (top 17) 3)) "NoSwitch":=.of
theorem AeM (F:AM K "free" "Switches.free" (Af (top 17) 3) f fd)(T:TxtS K mg a)(O:∀ C∈a.bR,A2 P w K mg base (AJ P w) 2 C "check" ["self","k"] (JQ K a)):AF P w K mg base (AJ P w) 3 f fd ["self","k"] (Qo K a):=by
 refine F.bw AeK λah A outer s H vs Q E V h=>?_
 .replace h:=Eu h;obtain ⟨p,k,C,Y,rb,rc,hs,js,ts,rfl,R,q⟩:=h
  obtain ⟨dx,fs,D,I⟩:=AQ R.ins;have jk:=O C R.c.mem;have cls:=R.c.cls;have hz:=R.z;refine ⟨_,(@Aj _ _ _ _ _ (Bi (Bs jk cls (Aa 0 L9) V.d BV (Ac (Aa 1 JS) Ae)))
    (Aj (Ba (A5 FG (AK AL (AN (Aa 0 L9) rfl) (Aa 1 JS) (λ_ _=>rfl)) Ck (Bb _)) (An (Dr Dq AeL rfl T.kN T.ic (Ac (FO (Cv Ak (Cv (HP (Aa 1 JS)) FN))) Ae))) Be)
    (An (DU Ck (EA (AN (Aa 0 L9) rfl) (Aa 1 JS) DA))))),?_⟩
  try dsimp only [av,aw]
  walk_at"";refine Gx D (I.m _ (by decide)) ?_;walk_at"";refine Gy p k C Y rb rc hs js ts rfl ⟨R,?_⟩;by_cases hk:Cz k hs=true
  .rw [if_pos hk];obtain ⟨J,L⟩:=Ei.mp hk;walk_at"";refine Dh D R.c.cls R.c.h I.h ?_;walk_at"";obtain ⟨v,B,e2⟩:=Ag (Fi (xs:=hs) J L);have e3:hs.getD k.toNat .aa=v:=by rw [UM,e2];rfl
   rw [e3] at q;refine Uh (Bw (.of R.ha) B ?_);walk_at"";by_cases hv:v=.aa
   .rw [if_neg (λz=>z.2 hv)] at q;refine EC (decide_eq_true hv) ?_;walk_at"";have B:(UJ++Ud "nobody holds switch ").length=20:=by decide +kernel
    refine ⟨(by rw [B,Uc];decide),?_⟩;walk_at"";refine Uh (CC _ rfl ⟨by omega,by omega,λz hz=>?_⟩);walk_at"";refine ⟨(by rw [Bk,B,Uc];omega),?_⟩;refine ⟨(by rw [Bk,B,Uc];omega),?_⟩;exact ⟨Ax,q⟩
   .rw [if_pos ⟨hk,hv⟩] at q;refine ED (decide_eq_false hv) ?_;walk_at"";refine Dh D R.c.cls R.c.h I.h ?_;walk_at"";refine Bw R.ha (FU J L) ?_;exact q
  .rw [if_neg hk];rw [if_neg (λz=>hk z.1)] at q;exact q
def CA (ws:List Addr)(H H':Hp):Prop:=∀ b o,b ∉ ws->H b=some o->H' b=some o
noncomputable def FV (ra rb rc:Addr):List (Str×V):=[("held_by",.ref ra),("jammed",.ref rb),("taken",.ref rc)]
def JT (K:T3)(a:Aq):Sp:=λvs H Q _=>∃(p:Addr)(many:Int)(C dx:Addr),vs=[.ref p,.int many]/\H p=some (.ins C dx [])/\EK K a C/\0<=many/\many<=1000 /\
 ∀ H' ra rb rc,CA [p] H H'->H' p=some (.ins C dx (FV ra rb rc))->H ra=none->H rb=none->H rc=none->H' ra=some (.lst (Ug many.toNat .aa))->H' rb=some (.lst ((Ug many.toNat false).map V.bl))->H' rc=some (.lst ((Ug many.toNat (0:Int)).map V.int)) ->
  ra≠rb->ra≠rc->rb≠rc->Q .aa H'
theorem EL {α:Type}(x:α):∀ n:Nat,(Ug n [x]).flatten=Ug n x
 | 0=>rfl
 | n+1=>by rw [WQ,XC,EL x n];rfl
noncomputable def Cc (hs:List V)(js:List Bool)(k:Int):Bool:=decide (hs.getD k.toNat .aa=.aa) && !(js.getD k.toNat false)
noncomputable def Di (hs:List V)(js:List Bool)(AW:Int):Option Int:=(BM AW hs.length++BM 0 AW).find? (Cc hs js)
noncomputable def Qy:Option Int->V
 | some k=>.int k
 | none=>.aa
def Qz (K:T3)(a:Aq):Sp:=λvs H Q _=>∃(p:Addr)(AW:Int)(C ra rb rc:Addr)(hs:List V)(js:List Bool)(ts:List Int),vs=[.ref p,.int AW]/\CQ K a H p C ra rb rc hs js ts/\0<=AW/\AW<=hs.length/\∀ H',Ai H H'->Q (Qy (Di hs js AW)) H'
theorem AeN:AR ["self","many"] ["self","many"] (Ab (Af (top 17) 0)):=.of
theorem Ma:Nm (Ab (Af (top 17) 0)) "self":=.of
theorem Mb:Nm (Ab (Af (top 17) 0)) "many":=.of
theorem QA (F:AM K "__init__" "Switches.__init__" (Af (top 17) 0) f fd)(T:TxtS K mg a):AF P w K mg base AB 1 f fd ["self","many"] (JT K a):=by
 refine F.ok AeN λah A outer s H vs Q E hr h=>?_
 .replace h:=Dd h;obtain ⟨p,B,C,dx,rfl,hp,c,h0,h1,q⟩:=h
  refine ⟨_,(@Aj _ _ _ _ _ (BR (Aa 0 Ma) (As B2 (A0 (Ac Ck Ae)) (Aa 1 Mb)) rfl)
    (Aj (BR (Aa 0 Ma) (As B2 (A0 (Ac DR Ae)) (Aa 1 Mb)) rfl)
    (An (BR (Aa 0 Ma) (As B2 (A0 (Ac Am Ae)) (Aa 1 Mb)) rfl)))),?_⟩
  try dsimp only [av,aw]
  walk_at"";refine ⟨Ax,λl1 nA=>?_⟩;walk_at"";refine Ue (Ue (BO l1 B [.aa] rfl ⟨rfl,Al,by omega,by omega,(by rw [Vv,Uc];omega),λD eV=>?_⟩));generalize nB:upd H l1 (.lst [.aa])=jm at eV ⊢;have jn:Ai H jm:=nB▸(Ai.refl H).upd nA;generalize jo:upd jm D (.lst (Ug B.toNat [.aa]).flatten)=gC;have jq:Ai H gC:=jo▸jn.upd eV;have e1:gC D=some (.lst (Ug B.toNat [.aa]).flatten):=jo▸Al;have f1:H D=none:=jn.free eV;walk_at"";refine Bn p C dx [] rfl (jq _ _ hp) c.cls c.h (by show 0<1000;decide) ?_;generalize cb:upd gC p (.ins C dx (Aw "held_by" (.ref D) []))=L;have p1:L p=some (.ins C dx [("held_by",.ref D)]):=cb▸Al;have x1:CA [p] H L:=λb o hb e=>by rw [<- cb,Au (by simpa using hb)];exact jq b o e
  have eX:D≠p:=λz=>by rw [z,hp] at f1;cases f1
  have c1:L D=some (.lst (Ug B.toNat [.aa]).flatten):=by rw [<- cb,Au eX];exact e1
  walk_at"";refine ⟨Ax,λl3 jr=>?_⟩;walk_at"";refine Ue (Ue (BO l3 B [.bl false] rfl ⟨rfl,Al,by omega,by omega,(by rw [Vv,Uc];omega),λI gD=>?_⟩));generalize nC:upd L l3 (.lst [.bl false])=ju at gD ⊢;have jv:Ai L ju:=nC▸(Ai.refl L).upd jr;generalize jw:upd ju I (.lst (Ug B.toNat [.bl false]).flatten)=gE;have jx:Ai L gE:=jw▸jv.upd gD;have e2:gE I=some (.lst (Ug B.toNat [.bl false]).flatten):=jw▸Al;have f2:L I=none:=jv.free gD;walk_at"";refine Bn p C dx [("held_by",.ref D)] rfl (jx _ _ p1) c.cls c.j (by show 1<1000;decide) ?_;generalize cK:upd gE p (.ins C dx (Aw "jammed" (.ref I) [("held_by",.ref D)]))=O;have p2:O p=some (.ins C dx [("held_by",.ref D),("jammed",.ref I)]):=cK▸Al;have x2:CA [p] L O:=λb o hb e=>by rw [<- cK,Au (by simpa using hb)];exact jx b o e
  have eY:I≠p:=λz=>by rw [z,p1] at f2;cases f2
  have c2:O I=some (.lst (Ug B.toNat [.bl false]).flatten):=by rw [<- cK,Au eY];exact e2
  walk_at"";refine ⟨Ax,λl5 nl5=>?_⟩;walk_at"";refine Ue (Ue (BO l5 B [.int 0] rfl ⟨rfl,Al,by omega,by omega,(by rw [Vv,Uc];omega),λJ nE=>?_⟩));generalize hA3:upd O l5 (.lst [.int 0])=rS at nE ⊢;have rT:Ai O rS:=hA3▸(Ai.refl O).upd nl5;generalize rU:upd rS J (.lst (Ug B.toNat [.int 0]).flatten)=nF;have rV:Ai O nF:=rU▸rT.upd nE;have e3:nF J=some (.lst (Ug B.toNat [.int 0]).flatten):=rU▸Al;have V:O J=none:=rT.free nE;walk_at"";refine Bn p C dx [("held_by",.ref D),("jammed",.ref I)] rfl (rV _ _ p2) c.cls c.t (by show 2<1000;decide) ?_;generalize nH:upd nF p (.ins C dx (Aw "taken" (.ref J) [("held_by",.ref D),("jammed",.ref I)]))=Y;have p3:Y p=some (.ins C dx (FV D I J)):=nH▸Al;have x3:CA [p] O Y:=λb o hb e=>by rw [<- nH,Au (by simpa using hb)];exact rV b o e
  have nI:J≠p:=λz=>by rw [z,p2] at V;cases V
  have c3:Y J=some (.lst (Ug B.toNat [.int 0]).flatten):=by rw [<- nH,Au nI];exact e3
  have one:∀{b:Addr},b≠p->b ∉ [p]:=λh z=>h (by simpa using z);have gF:=x2 _ _ (one eX) c1;have ie:=x3 _ _ (one eX) gF;have rW:=x3 _ _ (one eY) c2;have g4:H I=none:=by
   cases z:H I with
   | none=>rfl
   | some o=>have:=x1 _ _ (one eY) z;rw [this] at f2;cases f2
  have g6:H J=none:=by
   cases z:H J with
   | none=>rfl
   | some o=>have:=x2 _ _ (one nI) (x1 _ _ (one nI) z);rw [this] at V;cases V
  rw [EL] at ie rW c3;refine q Y D I J (λb o hb e=>x3 _ _ hb (x2 _ _ hb (x1 _ _ hb e))) p3 f1 g4 g6 ie (by rw [Yg];exact rW) (by rw [Yg];exact c3) ?_ ?_ ?_
  .exact λz=>by rw [<- z,c1] at f2;cases f2
  .exact λz=>by rw [<- z,gF] at V;cases V
  .exact λz=>by rw [<- z,c2] at V;cases V
theorem QB:AR ["self","start","k"] ["self","start"] (Ab (Af (top 17) 1)):=.of
theorem Mc:Nm (Ab (Af (top 17) 1)) "self":=.of
theorem QC:Nm (Ab (Af (top 17) 1)) "start":=.of
theorem JU:Nm (Ab (Af (top 17) 1)) "k":=.of
theorem QD:Gm (Ab (Af (top 17) 1)) "list":=.of
theorem QE:Gm (Ab (Af (top 17) 1)) "range":=.of
theorem AeO:Gm (Ab (Af (top 17) 1)) "len":=.of
theorem AeP (F:AM K "first_free" "Switches.first_free" (Af (top 17) 1) f fd)(T:TxtS K mg a):AF P w K mg base AB 1 f fd ["self","start"] (Qz K a):=by
 refine F.ok QB λah A outer s H vs Q E hr h=>?_
 .replace h:=Eu h;obtain ⟨p,AW,C,ra,rb,rc,hs,js,ts,rfl,R,h0,h1,q⟩:=h
  obtain ⟨dx,fs,hp,F3⟩:=AQ R.ins;have nd:=QB.nd;have hz:=R.z;refine ⟨_,(@Aj _ _ _ _ _ (CO Vp rfl (Df (As BL (Cw (Eg rfl) QD T.cJ DZ (Ac (Cw Pk QE T.dW Pl (Ac (Aa 1 QC) (Ac (BG Cp AeO T.n_len Ca (Ac (AN (Aa 0 Mc) rfl) Ae)) Ae))) Ae)) (Cw (Eg rfl) QD T.cJ DZ (Ac (Cw Pk QE T.dW Pl (Ac (Aa 1 QC) Ae)) Ae)))) (Bo 2 nd JU) (An (Ba (PW.pt (FD (A5 FG (AK AL (AN (Aa 0 Mc) rfl) (Aa 2 JU) (λ_ _=>rfl)) Ck (Bb _)) (Gk (DS (Dy (AK AL (AN (Aa 0 Mc) rfl) (Aa 2 JU) (λ_ _=>rfl))))))) (An (AO (Aa 2 JU))) Be)))
    (An (AO Ck))),?_⟩
  try dsimp only [av,aw]
  walk_at"";refine Dh hp R.c.cls R.c.h F3.h ?_;walk_at"";refine Ue (AU _ _ rfl (.inl (.of R.ha)) ?_);walk_at"";have Y:Sm AW:=⟨by omega,by omega⟩;have cL:Sm (hs.length:Int):=⟨by omega,by omega⟩;have sm0:Sm 0:=⟨by decide,by decide⟩;refine Ue (CV AW hs.length rfl Y cL (λr1 n1=>?_));refine Ue (BO r1 AW hs.length rfl ⟨Al,Y,cL,(by rw [Uc];omega),λl1 m1=>?_⟩);have s1:=(Ai.refl H).upd (o:=.cE AW hs.length) n1;have s2:=s1.upd (o:=.lst ((BM AW hs.length).map V.int)) m1;walk_at"";refine Uh (DY AW rfl Y (λr2 n2=>?_));have s3:=s2.upd (o:=.cE 0 AW) n2;have k1:=((Ai.refl _).upd (o:=.cE 0 AW) n2) l1 _ Al;refine Ue (BO r2 0 AW rfl ⟨Al,sm0,Y,(by rw [Uc];omega),λl2 m2=>?_⟩);have s4:=s3.upd (o:=.lst ((BM 0 AW).map V.int)) m2;have k2:=((Ai.refl _).upd (o:=.lst ((BM 0 AW).map V.int)) m2) l1 _ k1;refine Ue (Ue (Bn l1 l2 _ _ rfl rfl k2 Al (by rw [T7,T7,Lr,Lr,Uc];omega) (λl3 n3=>?_)));rw [<- Uy];have s5:=s4.upd (o:=.lst ((BM AW hs.length++BM 0 AW).map V.int)) n3;generalize hU:upd _ l3 (.lst ((BM AW hs.length++BM 0 AW).map V.int))=HU at s5 ⊢;have e3:HU l3=some (.lst ((BM AW hs.length++BM 0 AW).map V.int)):=hU▸Al;have q':∀ r,r=Di hs js AW->Q (Qy r) HU:=λr e=>by rw [e];exact q HU s5
  have RU:=R.same s5;clear hU
  have mem:∀ k∈BM AW hs.length++BM 0 AW,0<=k/\k<hs.length:=λk hk=>by
   rcases UU.mp hk with h | h<;>obtain ⟨n,hn,rfl⟩:=Ag (Ur.mp h)<;>have:=Vr.mp hn<;>constructor<;>omega
  unfold Di at q';generalize BM AW hs.length++BM 0 AW=ord at e3 q' mem ⊢;obtain ⟨dx',qJ,bN,rX⟩:=AQ RU.ins;walk_at"";refine ⟨⟨_,.of e3⟩,DW (K:=K) (a:=l3) (xs:=ord.map V.int) (λi σ H2=>∃ x,σ=[some (.ref p),some (.int AW),x]/\H2=HU/\(ord.take i).find? (Cc hs js)=none) ⟨none,rfl,rfl,rfl⟩ (λi σ H2 _ ⟨_,_,e,_⟩=>e▸.of e3) ?_ ?_⟩
  .intro i y σ H2 J B;replace B:=Av B;obtain ⟨x,rfl,rfl,hf⟩:=B;rw [Uj] at J;cases hk:ord[i]? with
   | none=>rw [hk] at J;cases J
   | some k =>
    rw [hk] at J;cases J;obtain ⟨k0,k1⟩:=mem k (Uw hk);obtain ⟨v,e1,e2⟩:=Ag (Fi (xs:=hs) k0 k1);have lj:=RU.lj;obtain ⟨u,e4,L⟩:=Ag (Fi (xs:=js.map V.bl) k0 (by rw [T7];omega));obtain ⟨D,e6,rfl⟩:∃ D,js[k.toNat]?=some D/\u=.bl D:=by
     rw [Uj] at L;cases z:js[k.toNat]? with
     | none=>rw [z] at L;cases L
     | some D=>rw [z] at L;cases L;exact ⟨D,rfl,rfl⟩
    have O:Cc hs js k=(decide (v=.aa) && !D):=by unfold Cc;rw [UM,e2,UM,e6];rfl
    have tk:(ord.take (i+1)).find? (Cc hs js)=if Cc hs js k=true then some k else none:=by rw [VQ,hk,yf,hf];show none.or (List.find? (Cc hs js) [k])=_;rw [Wd];cases Cc hs js k<;>rfl
    walk_at"";refine Dh bN R.c.cls R.c.h rX.h ?_;walk_at"";refine Uh (Bw (.of RU.ha) e1 ?_);walk_at"";have I:Cc hs js k=true->some k=ord.find? (Cc hs js):=λh=>by
     rw [if_pos h] at tk;conv=>rhs;rw [<- yg (i+1) ord]
     rw [yf,tk];rfl
    have next:Cc hs js k=false->(ord.take (i+1)).find? (Cc hs js)=none:=λh=>by rw [tk,h];rfl
    by_cases hv:v=.aa
    .rw [decide_eq_true hv];rw [decide_eq_true hv] at O;refine Co ?_;walk_at"";refine Dh bN R.c.cls R.c.j rX.j ?_;walk_at"";refine Uh (Bw (.of RU.hb) e4 ?_);walk_at"";cases D with
     | false =>
      refine Co ?_;walk_at"";exact q' (some k) (I O)
     | true =>
      refine Cn ?_;exact ⟨_,rfl,rfl,next O⟩
    .rw [decide_eq_false hv];rw [decide_eq_false hv] at O;refine Cn ?_;refine Cn ?_;exact ⟨_,rfl,rfl,next O⟩
  .intro σ H2 B;replace B:=Av B;obtain ⟨x,rfl,rfl,hf⟩:=B;walk_at"";rw [T7,VL] at hf;exact q' none hf.symm
noncomputable def Ej (js:List Bool)(n:Nat):List Int:=((Vj n).filter λk=>js.getD k false).map λ(k:Nat)=>(k:Int)
theorem QF (js:List Bool)(n:Nat):Ej js (n+1)=Ej js n++if js.getD n false=true then [(n:Int)] else []:=by
 unfold Ej;rw [Y3,vQ,Uy];congr 1
 rw [vR,vS];by_cases h:js.getD n false=true
 .rw [if_pos h,if_pos h];rfl
 .rw [if_neg h,if_neg h];rfl
theorem AeQ (js:List Bool)(n:Nat):(Ej js n).length<=n:=by unfold Ej;rw [T7];have:=vT (λk=>js.getD k false) (Vj n);rwa [WS] at this
def QG (K:T3)(a:Aq):Sp:=λvs H Q _=>∃(p C ra rb rc:Addr)(hs:List V)(js:List Bool)(ts:List Int),vs=[.ref p]/\CQ K a H p C ra rb rc hs js ts /\
 ∀ H' r,Ai H H'->H r=none->H' r=some (.lst ((Ej js js.length).map V.int))->Q (.ref r) H'
noncomputable def CS (hs:List V)(st:Nat->Bool)(n:Nat):List V:=(Vj n).map λk=>if hs.getD k .aa=.aa then (if st k=true then V.str "stuck" else V.str "free") else hs.getD k .aa
theorem AeR (i:Int)(ks:List Int):Ee (.int i) (ks.map V.int)=decide (i∈ks):=by
 unfold Ee;rw [List.any_map,WH,yh,decide_eq_true_eq];constructor
 .intro B;obtain ⟨k,hk,e⟩:=Ag B;have D:(k == i)=true:=e;rw [<- beq_iff_eq.mp D];exact hk
 .exact λh=>⟨i,h,(beq_self_eq_true i:(i == i)=true)⟩
theorem AeS (ks:List Int):(ks.map V.int).all C5=true:=by rw [vU,V3];exact λ_ _=>rfl
theorem Ih (hs:List V)(st:Nat->Bool)(n:Nat):CS hs st (n+1)=CS hs st n++[if hs.getD n .aa=.aa then (if st n=true then V.str "stuck" else V.str "free") else hs.getD n .aa]:=by unfold CS;rw [Y3,Uy];rfl
def Md (K:T3):Sp:=λvs H Q _=>∃(h s:Addr)(hs:List V)(ks:List Int),vs=[.ref h,.ref s]/\H h=some (.lst hs)/\H s=some (.lst (ks.map V.int))/\hs.length<=1000 /\
 ∀ H' t,Ai H H'->H t=none->H' t=some (.tup (CS hs (λk=>decide ((k:Int)∈ks)) hs.length))->Q (.ref t) H'
theorem AeT:AR ["self"] ["self"] (Ab (Af (top 17) 8)):=.of
theorem AeU:Nm (Ab (Af (top 17) 8)) "self":=.of
theorem AeV:Gm (Ab (Af (top 17) 8)) "enumerate":=.of
noncomputable def Me:Scope:={ kind:=.function,names:=[(".0",.local),("k",.local),("jammed",.local)],isGenerator:=false,isCoroutine:=false,more:=[] }
theorem Mf:BE Me (Ab (Af (top 17) 8)) ["k","jammed"] ["self"] [none,none]:=BE.mk' rfl (by decide +kernel) (by decide +kernel) (by decide +kernel) (by decide +kernel) rfl (by decide +kernel)
theorem QH:Nm Me "k":=.of
theorem QI:Nm Me "jammed":=.of
theorem AeW (F:AM K "stuck" "Switches.stuck" (Af (top 17) 8) f fd)(T:TxtS K mg a):AF P w K mg base AB 1 f fd ["self"] (QG K a):=by
 refine F.ok AeT λah A outer s H vs Q E hr h=>?_
 .replace h:=Gh h;obtain ⟨p,C,ra,rb,rc,hs,js,ts,rfl,R,q⟩:=h
  obtain ⟨dx,fs,hp,F3⟩:=AQ R.ins;have hz:=R.z;have hj:=R.lj;refine ⟨_,(@An _ _ _ (AO (Lq rfl Mf (Ph AeV T.kM (Ac (AN (Aa 0 AeU) rfl) Ae)) (λY C fp pins s₂ H₂=>(JC (X:=A4 _ _ _ Y C fp pins s₂ H₂) K rfl 2 rfl (B9 (Bo 0 Mf.nd QH.comp) (B9 (Bo 1 Mf.nd QI.comp) DT)) rfl rfl)) (λY C fp pins s₂ H₂=>(Lm (Dy (Aa 1 QI.comp)))) (λY C fp pins s₂ H₂=>(Aa 0 QH.comp))))),?_⟩;try dsimp only [av,aw]
  walk_at"";refine Dh hp R.c.cls R.c.j F3.j ?_;refine AU _ _ rfl (.of R.hb) (λD hD=>?_);refine AcN (K:=K) (a:=rb) (xs:=js.map V.bl) (λi σ B=>∃ x y,σ=[x,y]/\Ai H B/\B D=some (.lst ((Ej js i).map V.int))) ⟨none,none,rfl,(Ai.refl H).upd hD,Al⟩ (λi σ B _ ⟨_,_,_,I,_⟩=>.of (I _ _ R.hb)) ?_ ?_
  .rintro i x t σ B J ⟨x0,x1,rfl,I,L⟩ ht;rw [Uj] at J;cases hk:js[i]? with
   | none=>rw [hk] at J;cases J
   | some O =>
    rw [hk] at J;cases J;have eg:js.getD i false=O:=by rw [UM,hk];rfl
    have jy:i<js.length:=(US.mp hk).1;refine CV t _ rfl (.of Al) rfl ?_;walk_at"";have bO:=((Ai.refl B).upd (o:=.tup [.int i,.bl O]) ht) D _ L;have cL:=I.upd (o:=.tup [.int i,.bl O]) ht;cases O with
    | true =>
     refine Co ?_;walk_at"";refine ⟨_,bO,?_,_,_,rfl,cL.cj hD,?_⟩
     .rw [T7,Uc];have:=AeQ js i;omega
     .rw [Al,QF,eg,if_pos rfl,Uy];rfl
    | false =>
     refine Cn ?_;refine AU _ _ rfl cL ?_;rw [bO,QF,eg,if_neg (by decide),Vu]
  .intro σ B zq;replace zq:=AY zq;obtain ⟨x0,x1,rfl,I,L⟩:=zq;rw [T7] at L;exact q B D I hD L
theorem AeX {js:List Bool}{n k:Nat}(h:k<n):decide ((k:Int)∈Ej js n)=js.getD k false:=by
 unfold Ej;rw [WH,decide_eq_true_eq,Ur];constructor
 .intro B;obtain ⟨m,D,e⟩:=Ag B;have:m=k:=by omega
  subst this;exact (Xx.mp D).2
 .exact λe=>⟨k,Xx.mpr ⟨Vr.mpr h,e⟩,rfl⟩
theorem QJ {n:Nat}{AW k:Int}(D:0<=AW)(H:AW<=n)(h:k∈BM AW n++BM 0 AW):0<=k/\k<n:=by rcases UU.mp h with h | h<;>obtain ⟨m,B,rfl⟩:=Ag (Ur.mp h)<;>have:=Vr.mp B<;>constructor<;>omega
theorem Ii {hs:List V}{js:List Bool}{AW k:Int}(B:0<=AW)(D:AW<=hs.length)(h:Di hs js AW=some k):(0<=k/\k<hs.length)/\Cc hs js k=true:=⟨QJ B D (yi h),yj h⟩
structure Ft (K:T3)(a:Aq)(C:Addr):Prop where
 c:EK K a C
 p:BK K C "places"
 s:BK K C "stands"
 w:BK K C "went"
 m:BK K C "mark_at"
noncomputable def FW (ra rb rc:Addr)(places:Int)(rs rw:Addr)(mark:Int):List (Str×V):=[("held_by",.ref ra),("jammed",.ref rb),("taken",.ref rc),("places",.int places),("stands",.ref rs),("went",.ref rw),("mark_at",.int mark)]
theorem JV (D H I:Addr)(B:Int)(J rw:Addr)(mark:Int):Fs (FW D H I B J rw mark) D H I:=by refine ⟨rfl,rfl,rfl,λx hx=>?_⟩;simp only [Uo,UZ,or_false] at hx;rcases hx with rfl | rfl | rfl | rfl | rfl | rfl | rfl | rfl | rfl | rfl | rfl<;>rfl
structure D4 (K:T3)(a:Aq)(H:Hp)(p C ra rb rc rs rw:Addr)(hs:List V)(js:List Bool)(ts:List Int)(places mark:Int)(st wt:List Int):Prop where
 ins:∃ dx,H p=some (.ins C dx (FW ra rb rc places rs rw mark))
 cs:Ft K a C
 ha:H ra=some (.lst hs)
 hb:H rb=some (.lst (js.map V.bl))
 hc:H rc=some (.lst (ts.map V.int))
 gG:H rs=some (.lst (st.map V.int))
 hw:H rw=some (.lst (wt.map V.int))
 ap:[ra,rb,rc,rs,rw].Nodup
 lj:js.length=hs.length
 lt:ts.length=hs.length
 ls:st.length=hs.length
 lw:wt.length=hs.length
 z:hs.length<=1000
theorem D4.r {K:T3}{a:Aq}{H:Hp}{p C D I J O rw:Addr}{hs:List V}{js:List Bool}{ts:List Int}{B mark:Int}{st wt:List Int}(k:D4 K a H p C D I J O rw hs js ts B mark st wt):CQ K a H p C D I J hs js ts:=by obtain ⟨dx,e⟩:=k.ins;have L:=k.ap;simp only [UH,Uo,UZ,or_false,not_or,not_false_eq_true,Wo,and_true] at L;obtain ⟨⟨Y,a2,a3,a4⟩,⟨b1,b2,b3⟩,⟨c1,c2⟩,d1⟩:=AD L;exact ⟨⟨dx,_,e,JV ..⟩,k.cs.c,k.ha,k.hb,k.hc,Y,a2,b1,k.lj,k.lt,k.z⟩
theorem D4.same {K:T3}{a:Aq}{H D:Hp}{p C I J L O rw:Addr}{hs:List V}{js:List Bool}{ts:List Int}{B mark:Int}{st wt:List Int}(k:D4 K a H p C I J L O rw hs js ts B mark st wt)(s:Ai H D):D4 K a D p C I J L O rw hs js ts B mark st wt:=by obtain ⟨dx,e⟩:=k.ins;exact ⟨⟨dx,s _ _ e⟩,k.cs,s _ _ k.ha,s _ _ k.hb,s _ _ k.hc,s _ _ k.gG,s _ _ k.hw,k.ap,k.lj,k.lt,k.ls,k.lw,k.z⟩
def QK (K:T3)(a:Aq):Sp:=λvs H Q _=>∃(p:Addr)(many places:Int)(C dx:Addr),vs=[.ref p,.int many,.int places]/\H p=some (.ins C dx [])/\Ft K a C/\0<=many/\many<=1000 /\
 ∀ H' ra rb rc rs rw,CA [p] H H'->D4 K a H' p C ra rb rc rs rw (Ug many.toNat .aa) (Ug many.toNat false) (Ug many.toNat 0) places 0 (Ug many.toNat 0) (Ug many.toNat 0)->H ra=none->H rb=none->H rc=none->H rs=none->H rw=none->Q .aa H'
def QL (K:T3)(a:Aq):Sp:=λvs H Q _=>∃(p C ra rb rc rs rw:Addr)(hs:List V)(js:List Bool)(ts:List Int)(places mark:Int)(st wt:List Int),vs=[.ref p]/\D4 K a H p C ra rb rc rs rw hs js ts places mark st wt/\∀ l,H l=none->Q (.ref l) (upd H l (.lst (wt.map V.int)))
def QM (K:T3)(a:Aq):Sp:=λvs H Q _=>∃(p C ra rb rc rs rw:Addr)(hs:List V)(js:List Bool)(ts:List Int)(places mark:Int)(st wt:List Int)(place:Int),vs=[.ref p,.int place]/\D4 K a H p C ra rb rc rs rw hs js ts places mark st wt/\0<=mark/\mark<=hs.length/\0<places /\
 match Di hs js mark with
 | none=>∀ H',Ai H H'->Q .aa H'
 | some k=>∀ H' t,CA [p,ra,rc,rs,rw] H H'->H t=none->H' t=some (.tup [.int k,.int ((place - st.getD k.toNat 0) % places)]) ->
   D4 K a H' p C ra rb rc rs rw (hs.set k.toNat (.int place)) js (ts.set k.toNat (ts.getD k.toNat 0+1)) places ((k+1) % hs.length) (st.set k.toNat place) (wt.set k.toNat (wt.getD k.toNat 0+(place - st.getD k.toNat 0) % places))->Q (.ref t) H'
structure TxtK (K:T3)(mg:Str->Option Value)(a:Aq):Prop extends TxtS K mg a where
 kQ:mg "Switches"=some (.ref a.gA)
theorem AeY:AR ["self"] ["self"] (Ab (Af (top 24) 3)):=.of
theorem AeZ:Nm (Ab (Af (top 24) 3)) "self":=.of
theorem Ae0:Gm (Ab (Af (top 24) 3)) "list":=.of
theorem Ae1 (F:AM K "steps" "Seekers.steps" (Af (top 24) 3) f fd)(T:TxtK K mg a):AF P w K mg base AB 1 f fd ["self"] (QL K a):=by
 refine F.ok AeY λI A outer s H vs Q E J h=>?_
 .obtain ⟨p,C,L,O,V,Y,rw,hs,js,ts,B,mark,st,wt,rfl,k,q⟩:=h;obtain ⟨dx,e⟩:=k.ins;refine ⟨_,(@An _ _ _ (AO (Cw (Eg rfl) Ae0 T.cJ DZ (Ac (AN (Aa 0 AeZ) rfl) Ae)))),?_⟩;try dsimp only [av,aw]
  walk_at"";refine A7 p C dx _ _ rfl e k.cs.c.cls k.cs.w rfl ?_;walk_at"";exact Uh (AU _ _ rfl (.inl (.of k.hw)) (λl D=>q l D))
theorem Ae2:AR ["self","many","places"] ["self","many","places"] (Ab (Af (top 24) 0)):=.of
theorem Ij:Nm (Ab (Af (top 24) 0)) "self":=.of
theorem Mg:Nm (Ab (Af (top 24) 0)) "many":=.of
theorem Ae3:Nm (Ab (Af (top 24) 0)) "places":=.of
theorem Ae4:Gm (Ab (Af (top 24) 0)) "Switches":=.of
theorem Ae5 (F:AM K "__init__" "Seekers.__init__" (Af (top 24) 0) f fd)(T:TxtK K mg a){fi:Addr}{rY:Uk}(aaQ:PB K a.gA fi "__init__")(aaR:AF P w K mg base AB 1 fi rY ["self","many"] (JT K a))(aaS:Dg K rY ["self","many"] []) :
  AF P w K mg base AB 2 f fd ["self","many","places"] (QK K a):=by
 refine F.ok Ae2 λah A outer s H vs Q E hr h=>?_
 .replace h:=Dm h;obtain ⟨p,D,B,C,dx,rfl,hp,cs,h0,h1,q⟩:=h
  refine ⟨_,(@Aj _ _ _ _ _ (Bi (Ac7 aaQ Ae4 T.kQ aaR aaS hr.d A3 (Ac (Aa 0 Ij) (Ac (Aa 1 Mg) Ae))))
    (Aj (BR (Aa 0 Ij) (Aa 2 Ae3) rfl)
    (Aj (BR (Aa 0 Ij) (As B2 (A0 (Ac Am Ae)) (Aa 1 Mg)) rfl)
    (Aj (BR (Aa 0 Ij) (As B2 (A0 (Ac Am Ae)) (Aa 1 Mg)) rfl)
    (An (BR (Aa 0 Ij) Am rfl)))))),?_⟩
  try dsimp only [av,aw]
  walk_at"";refine Bn p D C dx rfl hp cs.c h0 (by omega) (λH1 J L O x0 ig fa fb fc ha hb hc ab ac bc=>?_);walk_at"";refine Bn p C dx _ rfl ig cs.c.cls cs.p (by show 3<1000;decide) ?_;generalize hP:upd H1 p (.ins C dx (Aw "places" (.int B) (FV J L O)))=Y;have p0:Y p=some (.ins C dx ([("held_by",.ref J),("jammed",.ref L),("taken",.ref O),("places",.int B)])):=hP▸Al;have nJ:CA [p] H1 Y:=λb o hb e=>by rw [<- hP,Au (by simpa using hb)];exact e
  walk_at"";refine ⟨Ax,λl1 nA=>?_⟩;walk_at"";refine Ue (Ue (BO l1 D [.int 0] rfl ⟨rfl,Al,by omega,by omega,(by rw [Vv,Uc];omega),λI eV=>?_⟩));rw [EL];generalize nB:upd Y l1 (.lst [.int 0])=jm at eV ⊢;have jn:Ai Y jm:=nB▸(Ai.refl Y).upd nA;generalize jo:upd jm I (.lst (Ug D.toNat (V.int 0)))=gC;have jq:Ai Y gC:=jo▸jn.upd eV;have e1:gC I=some (.lst (Ug D.toNat (V.int 0))):=jo▸Al;have f1:Y I=none:=jn.free eV;walk_at"";refine Bn p C dx ([("held_by",.ref J),("jammed",.ref L),("taken",.ref O),("places",.int B)]) rfl (jq _ _ p0) cs.c.cls cs.s (by show 4<1000;decide) ?_;generalize cb:upd gC p (.ins C dx (Aw "stands" (.ref I) ([("held_by",.ref J),("jammed",.ref L),("taken",.ref O),("places",.int B)])))=bH;have p1:bH p=some (.ins C dx ([("held_by",.ref J),("jammed",.ref L),("taken",.ref O),("places",.int B),("stands",.ref I)])):=cb▸Al;have x1:CA [p] Y bH:=λb o hb e=>by rw [<- cb,Au (by simpa using hb)];exact jq b o e
  have eX:I≠p:=λz=>by rw [z,p0] at f1;cases f1
  have c1:bH I=some (.lst (Ug D.toNat (V.int 0))):=by rw [<- cb,Au eX];exact e1
  walk_at"";refine ⟨Ax,λl3 jr=>?_⟩;walk_at"";refine Ue (Ue (BO l3 D [.int 0] rfl ⟨rfl,Al,by omega,by omega,(by rw [Vv,Uc];omega),λl4 gD=>?_⟩));rw [EL];generalize nC:upd bH l3 (.lst [.int 0])=ju at gD ⊢;have jv:Ai bH ju:=nC▸(Ai.refl bH).upd jr;generalize jw:upd ju l4 (.lst (Ug D.toNat (V.int 0)))=gE;have jx:Ai bH gE:=jw▸jv.upd gD;have e2:gE l4=some (.lst (Ug D.toNat (V.int 0))):=jw▸Al;have f2:bH l4=none:=jv.free gD;walk_at"";refine Bn p C dx ([("held_by",.ref J),("jammed",.ref L),("taken",.ref O),("places",.int B),("stands",.ref I)]) rfl (jx _ _ p1) cs.c.cls cs.w (by show 5<1000;decide) ?_;generalize cK:upd gE p (.ins C dx (Aw "went" (.ref l4) ([("held_by",.ref J),("jammed",.ref L),("taken",.ref O),("places",.int B),("stands",.ref I)])))=cc;have p2:cc p=some (.ins C dx ([("held_by",.ref J),("jammed",.ref L),("taken",.ref O),("places",.int B),("stands",.ref I),("went",.ref l4)])):=cK▸Al;have x2:CA [p] bH cc:=λb o hb e=>by rw [<- cK,Au (by simpa using hb)];exact jx b o e
  have eY:l4≠p:=λz=>by rw [z,p1] at f2;cases f2
  have c2:cc l4=some (.lst (Ug D.toNat (V.int 0))):=by rw [<- cK,Au eY];exact e2
  walk_at"";refine Bn p C dx _ rfl p2 cs.c.cls cs.m (by show 6<1000;decide) ?_;have one:∀{b:Addr},b≠p->b ∉ [p]:=λh z=>h (by simpa using z);have npa:J≠p:=λz=>by rw [z,hp] at fa;cases fa
  have npb:L≠p:=λz=>by rw [z,hp] at fb;cases fb
  have npc:O≠p:=λz=>by rw [z,hp] at fc;cases fc
  have up:CA [p] cc (upd cc p (.ins C dx (Aw "mark_at" (.int 0) ([("held_by",.ref J),("jammed",.ref L),("taken",.ref O),("places",.int B),("stands",.ref I),("went",.ref l4)])))):=λb o hb e=>by rw [Au (by simpa using hb)];exact e
  have t1:∀ {b o},b≠p->H1 b=some o->(upd cc p (.ins C dx (Aw "mark_at" (.int 0) ([("held_by",.ref J),("jammed",.ref L),("taken",.ref O),("places",.int B),("stands",.ref I),("went",.ref l4)])))) b=some o:=λh e=>up _ _ (one h) (x2 _ _ (one h) (x1 _ _ (one h) (nJ _ _ (one h) e)));have back:∀ {b},b≠p->Y b=none->H1 b=none:=λ{b} h e=>by
   cases z:H1 b with
   | none=>rfl
   | some o=>rw [nJ _ _ (one h) z] at e;cases e
  have rZ:∀ {b},b≠p->H1 b=none->H b=none:=λ{b} h e=>by
   cases z:H b with
   | none=>rfl
   | some o=>rw [x0 _ _ (one h) z] at e;cases e
  have aaT:∀ {b},b≠p->bH b=none->Y b=none:=λ{b} h e=>by
   cases z:Y b with
   | none=>rfl
   | some o=>rw [x1 _ _ (one h) z] at e;cases e
  have g2:=back eX f1;have g4:=back eY (aaT eY f2);have z2:∀ {b o},H1 b=some o->b≠I:=λe=>B6 e g2;have z4:∀ {b o},H1 b=some o->b≠l4:=λe=>B6 e g4;refine q _ J L O I l4 (λb o hb e=>up _ _ hb (x2 _ _ hb (x1 _ _ hb (nJ _ _ hb (x0 _ _ hb e))))) ⟨⟨dx,Al⟩,cs,t1 npa ha,t1 npb hb,t1 npc hc,?_,?_,?_,by rw [Vi,Vi],by rw [Vi,Vi],by rw [Vi,Vi],by rw [Vi,Vi],by rw [Vi];omega⟩ fa fb fc (rZ eX g2) (rZ eY g4)
  .rw [Yg];exact up _ _ (one eX) (x2 _ _ (one eX) c1)
  .rw [Yg];exact up _ _ (one eY) c2
  .simp only [UH,Uo,UZ,or_false,not_or,not_false_eq_true,Wo,and_true];exact ⟨⟨ab,ac,z2 ha,z4 ha⟩,⟨bc,z2 hb,z4 hb⟩,⟨z2 hc,z4 hc⟩,B6 c1 f2⟩
theorem JW {H:Hp}{a b:Addr}{o:HO}(h:H b≠none):upd H a o b≠none:=by
 by_cases e:b=a
 .subst e;rw [Al];simp
 .rw [Au e];exact h
theorem QN:AR ["self","place","k","steps"] ["self","place"] (Ab (Af (top 24) 1)):=.of
theorem EM:Nm (Ab (Af (top 24) 1)) "self":=.of
theorem Mh:Nm (Ab (Af (top 24) 1)) "place":=.of
theorem Fu:Nm (Ab (Af (top 24) 1)) "k":=.of
theorem Mi:Nm (Ab (Af (top 24) 1)) "steps":=.of
theorem Ae6:Gm (Ab (Af (top 24) 1)) "len":=.of
theorem Ae7 (F:AM K "take" "Seekers.take" (Af (top 24) 1) f fd)(T:TxtK K mg a)(aaU:∀ C∈a.bR,A2 P w K mg base AB 1 C "first_free" ["self","start"] (Qz K a))(nK:∀ C∈a.bR,A2 P w K mg base AB 1 C "hold" ["self","k","who"] (Qn K a)) :
  AF P w K mg base AB 2 f fd ["self","place"] (QM K a):=by
 refine F.ok QN λah A outer s H vs Q E hr h=>?_
 .obtain ⟨p,C,I,rb,J,O,rw,hs,js,ts,B,mark,st,wt,place,rfl,k,h0,h1,aT,q⟩:=h;obtain ⟨dx,hp⟩:=k.ins;have nd:=QN.nd;have aaV:=aaU C k.cs.c.mem;have aaW:=nK C k.cs.c.mem;have cls:=k.cs.c.cls;have hz:=k.z;have ls:=k.ls;have lw:=k.lw;have lt:=k.lt;have F3:=JV I rb J B O rw mark;refine ⟨_,(@Aj _ _ _ _ _ (A1 2 nd Fu (Bs aaV cls (Aa 0 EM) hr.d A3 (Ac (AN (Aa 0 EM) rfl) Ae)))
    (Aj (Ba (A5 FG (Aa 2 Fu) Ck (Bb _)) (An (AO Ck)) Be)
    (Aj (A1 3 nd Mi (As Bz (As Ec (Aa 1 Mh) (AK AL (AN (Aa 0 EM) rfl) (Aa 2 Fu) (λ_ _=>rfl))) (AN (Aa 0 EM) rfl)))
    (Aj (DU (Aa 1 Mh) (EA (AN (Aa 0 EM) rfl) (Aa 2 Fu) DA))
    (Aj (IX (AN (Aa 0 EM) rfl) (Aa 2 Fu) JA (Aa 3 Mi) IY DA)
    (Aj (Bi (Bs aaW cls (Aa 0 EM) hr.d A3 (Ac (Aa 2 Fu) (Ac (Aa 1 Mh) Ae))))
    (Aj (BR (Aa 0 EM) (As Bz (As BL (Aa 2 Fu) Am) (BG Cp Ae6 T.n_len Ca (Ac (AN (Aa 0 EM) rfl) Ae))) rfl)
    (An (AO (BN (Ac (Aa 2 Fu) (Ac (Aa 3 Mi) Ae)))))))))))),?_⟩
  try dsimp only [av,aw]
  walk_at"";refine Gx hp (F3.m _ (by decide)) ?_;walk_at"";refine A7 p C dx _ _ rfl hp cls k.cs.m rfl ?_;walk_at"";refine Gy p mark C I rb J hs js ts rfl ⟨k.r,h0,h1,λH1 s1=>?_⟩;cases hf:Di hs js mark with
  | none =>
   rw [hf] at q;walk_at"";exact q H1 s1
  | some D =>
   rw [hf] at q;obtain ⟨⟨k0,k1⟩,_⟩:=Ii h0 h1 hf;have Y:=k.same s1;have ig:=s1 _ _ hp;have ap:=k.ap;simp only [UH,Uo,UZ,or_false,not_or,not_false_eq_true,Wo,and_true] at ap;obtain ⟨⟨a1,a2,a3,a4⟩,⟨b1,b2,b3⟩,⟨c1,c2⟩,d1⟩:=AD ap;have L:∀ {b xs},H b=some (.lst xs)->p≠b:=λh=>IT hp h (by intro z;cases z);walk_at"";refine A7 p C dx _ _ rfl ig cls k.cs.s rfl ?_;walk_at"";refine Uh (Bw (.of Y.gG) (Fj k0 (by omega)) ?_);walk_at"";refine A7 p C dx _ _ rfl ig cls k.cs.p rfl ?_;walk_at"";refine A7 p C dx _ _ rfl ig cls k.cs.s rfl ?_;walk_at"";refine Bw Y.gG (FU k0 (by rw [T7];omega)) ?_;rw [show (st.map V.int).set D.toNat (.int place)=(st.set D.toNat place).map V.int from (Vn ..).symm];generalize nL:upd H1 O (.lst ((st.set D.toNat place).map V.int))=H2;have x2:∀ {b o},b≠O->H1 b=some o->H2 b=some o:=λh e=>by rw [<- nL,Au h];exact e
   have e2:H2 O=some (.lst ((st.set D.toNat place).map V.int)):=nL▸Al;have dQ:=x2 (L k.gG) ig;walk_at"";refine A7 p C dx _ _ rfl dQ cls k.cs.w rfl ?_;walk_at"";refine Bn rw _ D _ rfl rfl k0 (.of (x2 (UQ d1) Y.hw)) (Fj k0 (by omega)) ?_;walk_at"";refine Bw (x2 (UQ d1) Y.hw) (FU k0 (by rw [T7];omega)) ?_;rw [show (wt.map V.int).set D.toNat (.int (wt.getD D.toNat 0+(place - st.getD D.toNat 0) % B))=(wt.set D.toNat (wt.getD D.toNat 0+(place - st.getD D.toNat 0) % B)).map V.int from (Vn ..).symm];generalize nM:upd H2 rw (.lst ((wt.set D.toNat (wt.getD D.toNat 0+(place - st.getD D.toNat 0) % B)).map V.int))=H3;have x3:∀ {b o},b≠rw->H2 b=some o->H3 b=some o:=λh e=>by rw [<- nM,Au h];exact e
   have e3:H3 rw=some (.lst ((wt.set D.toNat (wt.getD D.toNat 0+(place - st.getD D.toNat 0) % B)).map V.int)):=nM▸Al;have nN:=x3 (L k.hw) dQ;have y3:∀ {b o},b≠O->b≠rw->H1 b=some o->H3 b=some o:=λh h' e=>x3 h' (x2 h e);have R3:CQ K a H3 p C I rb J hs js ts:=⟨⟨dx,_,nN,F3⟩,k.cs.c,y3 a3 a4 Y.ha,y3 b2 b3 Y.hb,y3 c1 c2 Y.hc,a1,a2,b1,k.lj,k.lt,k.z⟩;walk_at"";refine Gx nN (F3.m _ (by decide)) ?_;walk_at"";refine ⟨p,D,.int place,C,I,rb,J,hs,js,ts,rfl,R3,k0,k1,?_⟩;generalize kR:upd (upd H3 I (.lst (hs.set D.toNat (.int place)))) J (.lst ((ts.set D.toNat (ts.getD D.toNat 0+1)).map V.int))=H4;have x4:∀ {b o},b≠I->b≠J->H3 b=some o->H4 b=some o:=λh h' e=>by rw [<- kR,Au h',Au h];exact e
   have e4a:H4 I=some (.lst (hs.set D.toNat (.int place))):=by rw [<- kR,Au a2,Al]
   have e4c:H4 J=some (.lst ((ts.set D.toNat (ts.getD D.toNat 0+1)).map V.int)):=kR▸Al;have r6:=x4 (L k.ha) (L k.hc) nN;have sf:=x4 (UQ a3) (UQ c1) (x3 d1 e2);have e4w:=x4 (UQ a4) (UQ c2) e3;walk_at"";refine A7 p C dx _ _ rfl r6 cls k.cs.s rfl ?_;walk_at"";refine Ue (AU _ _ rfl (.inl (.of sf)) ?_);rw [T7,UE,ls];walk_at"";refine Bn p C dx _ rfl r6 cls k.cs.m (by show 7<1000;decide) ?_;walk_at"";refine ⟨Ax,λt nt=>?_⟩;have v5:∀ {b o},b≠p->H4 b=some o->(upd (upd H4 p (.ins C dx (FW I rb J B O rw ((D+1) % hs.length)))) t (.tup [.int D,.int ((place - st.getD D.toNat 0) % B)])) b=some o:=λ{b o} h e=>by
    have e':(upd H4 p (.ins C dx (FW I rb J B O rw ((D+1) % hs.length)))) b=some o:=by rw [Au h];exact e
    rw [Au (B6 e' nt)];exact e'
   have kT:p≠t:=B6 (show (upd H4 p (.ins C dx (FW I rb J B O rw ((D+1) % hs.length)))) p=some _ from Al) nt;refine q _ t (λb o hb e=>?_) ?_ Al ⟨⟨dx,by rw [Au kT];exact Al⟩,k.cs,v5 (L k.ha).symm e4a,v5 (L k.hb).symm (x4 (UQ a1) b1 (y3 b2 b3 Y.hb)),v5 (L k.hc).symm e4c,v5 (L k.gG).symm sf,v5 (L k.hw).symm e4w,k.ap,
    by rw [UE];exact k.lj,by rw [UE,UE];exact k.lt,by rw [UE,UE];exact k.ls,by rw [UE,UE];exact k.lw,by rw [UE];exact k.z⟩
   .simp only [Uo,UZ,or_false,not_or] at hb;obtain ⟨n1,n2,n3,n4,n5⟩:=AD hb;exact v5 n1 (x4 n2 n3 (y3 n4 n5 (s1 _ _ e)))
   .cases z:H t with
    | none=>rfl
    | some o =>
     have e1:=s1 _ _ z;exfalso
     have e4':H4 t≠none:=kR▸JW (JW (nM▸JW (nL▸JW (by rw [e1];simp))));rw [Au kT.symm] at nt;exact e4' nt
abbrev AH:=List (Addr×HO)
structure At (H:Hp)(C:AH):Prop where
 at_:∀ c∈C,H c.1=some c.2
 nd:(C.map (·.1)).Nodup
noncomputable def Ik:HO->Bool
 | .tup _=>true
 | .bX _ _=>true
 | _=>false
structure Ah (H H':Hp):Prop where
 f:∀ b o,Ik o=true->H b=some o->H' b=some o
section
variable {H H' sg:Hp}{C C' P M M' R:AH}{a b:Addr}{o o' u:HO}{ws:List Addr}{α:Type}{l:List α}{f:α->AH}{i:Nat}{x y:α}
theorem Ah.of (s:Ai H H'):Ah H H':=⟨λb o _ e=>s _ _ e⟩
theorem Ah.refl:Ah H H:=⟨λ_ _ _ e=>e⟩
theorem Ah.trans (s:Ah H H')(t:Ah H' sg):Ah H sg:=⟨λb o i e=>t.f _ _ i (s.f _ _ i e)⟩
theorem Ah.t {ys:List V}(s:Ah H H')(e:H b=some (.tup ys)):H' b=some (.tup ys):=s.f _ _ rfl e
theorem Ah.sq {K:T3}{xs:List V}(s:Ah H H')(h:Bt K H a xs):Bt K H' a xs:=by
 rcases h with (h | ⟨o,h⟩) | h
 .exact .inl (.inl (s.f _ _ rfl h))
 .exact .inl (.inr ⟨o,s.f _ _ rfl h⟩)
 .exact .inr h
mutual
noncomputable def Dj:PyData->Bool
 | .list _=>false
 | .dict _=>false
 | .tuple ds=>dX ds
 | _=>true
noncomputable def dX:List PyData->Bool
 | []=>true
 | d :: ds=>Dj d && dX ds
end
mutual
theorem Is.ai {K:T3}:∀(d:PyData){x:V},Dj d=true->Is K H x d->Ah H H'->Is K H' x d
 | .none,_,_,r,_=>by cases r;exact .aa
 | .bool _,_,_,r,_=>by cases r;exact .bl _
 | .int _,_,_,r,_=>by cases r;exact .int _
 | .str _,_,_,r,_=>by cases r;exact .str _
 | .list ds,_,n,r,e=>by cases n
 | .tuple ds,_,n,r,e=>by cases r with | tup B D=>exact .tup (e.sq B) (aX.ai ds n D e)
 | .dict _,_,_,r,_=>nomatch r
theorem aX.ai {K:T3}:∀(ds:List PyData){xs:List V},dX ds=true->aX K H xs ds->Ah H H'->aX K H' xs ds
 | [],_,_,r,_=>by cases r;exact .nil
 | d :: ds,_,n,r,e=>by
  have n:(Dj d && dX ds)=true:=n;rw [Wj] at n;cases r with | cons B D=>exact .cons (Is.ai d n.1 B e) (aX.ai ds n.2 D e)
end
theorem At.same (t:At H C)(s:Ai H H'):At H' C:=⟨λc m=>s _ _ (t.at_ c m),t.nd⟩
theorem At.perm (t:At H C)(p:C'.Perm C):At H C':=⟨λc m=>t.at_ c (p.mem_iff.mp m),(p.map _).nodup_iff.mpr t.nd⟩
theorem At.swap (t:At H (P++(M++R))):At H (M++(P++R)):=t.perm (by rw [<- Uv,<- Uv];exact yk R List.perm_append_comm)
theorem At.get (t:At H C)(m:(a,o)∈C):H a=some o:=t.at_ _ m
theorem At.hd (t:At H ((a,o) :: C)):H a=some o:=t.at_ _ UY
theorem At.tl (t:At H ((a,o) :: C)):At H C:=⟨λc m=>t.at_ c (UO _ m),(UH.mp t.nd).2⟩
theorem At.right (t:At H (P++R)):At H R:=⟨λc m=>t.at_ c (U0 _ m),by have:=t.nd;rw [Uy] at this;exact (Wn.mp this).2.1⟩
theorem At.left (t:At H (P++R)):At H P:=⟨λc m=>t.at_ c (Yv _ m),by have:=t.nd;rw [Uy] at this;exact (Wn.mp this).1⟩
theorem At.free (t:At H C)(n:H b=none):b ∉ C.map (·.1):=λm=>by
 obtain ⟨c,mc,rfl⟩:=Ur.mp m;rw [t.at_ c mc] at n;cases n
theorem At.new (t:At H C)(n:H b=none):At (upd H b u) ((b,u) :: C):=by
 refine ⟨λc m=>?_,UH.mpr ⟨t.free n,t.nd⟩⟩;rcases Uo.mp m with rfl | m
 .exact Al
 .rw [Au (λz=>t.free n (Ur.mpr ⟨c,m,z⟩))];exact t.at_ c m
theorem At.ik (t:At H ((a,o) :: R)):At (upd H a o') ((a,o') :: R):=by
 have B:=UH.mp t.nd;refine ⟨λc m=>?_,t.nd⟩;rcases Uo.mp m with rfl | m
 .exact Al
 .rw [Au (λz=>B.1 (Ur.mpr ⟨c,m,z⟩))];exact t.at_ c (UO _ m)
theorem At.front (t:At H (P++(a,o) :: R)):At H ((a,o) :: (P++R)):=t.perm (yl.symm)
theorem At.back (t:At H ((a,o) :: (P++R))):At H (P++(a,o) :: R):=t.perm yl
theorem At.set (t:At H (P++(a,o) :: R)):At (upd H a o') (P++(a,o') :: R):=t.front.ik.back
theorem At.part (t:At H (M++R))(s:CA ws H H')(sub:∀ w∈ws,w∈M.map (·.1))(e:M'.map (·.1)=M.map (·.1))(h:∀ c∈M',H' c.1=some c.2):At H' (M'++R):=by
 have B:=t.nd;rw [Uy] at B;obtain ⟨I,J,D⟩:=Wn.mp B;refine ⟨λc m=>?_,by rw [Uy,e];exact B⟩;rcases UU.mp m with m | m
 .exact h c m
 .exact s _ _ (λz=>D _ (sub _ z) _ (Ur.mpr ⟨c,m,rfl⟩) rfl) (t.at_ c (U0 _ m))
theorem At.ai (t:At H C)(s:CA ws H H')(sub:∀ w∈ws,w∈C.map (·.1))(k:∀ c∈C,Ik c.2=false):Ah H H':=⟨λb o i e=>s _ _ (λm=>by
 obtain ⟨c,mc,B⟩:=Ur.mp (sub b m);have h:=t.at_ c mc;rw [B,e] at h;have:=k c mc;rw [<- UK h,i] at this;cases this) e⟩
theorem Ah.chg (t:H a=some o)(k:Ik o=false):Ah H (upd H a u):=⟨λb v i e=>by
 rw [Au (λz=>by rw [z,t] at e;rw [<- UK e,k] at i;cases i)];exact e⟩
theorem Ah.new (n:H a=none):Ah H (upd H a u):=.of ((Ai.refl H).upd n)
theorem QO (h:l[i]?=some x):l.flatMap f=(l.take i).flatMap f++(f x++(l.drop (i+1)).flatMap f):=by
 obtain ⟨B,ex⟩:=US.mp h;conv=>lhs;rw [<- yg i l,List.drop_eq_getElem_cons B,ex]
 rw [Yq,List.flatMap_cons]
theorem Ae8 (h:i<l.length):(l.set i y).flatMap f=(l.take i).flatMap f++(f y++(l.drop (i+1)).flatMap f):=by rw [QO (l:=l.set i y) (x:=y) (by rw [Xy h]),List.take_set_of_le (Uq i),List.drop_set_of_lt (Xz i)]
theorem At.pick (t:At H (P++(l.flatMap f++R)))(h:l[i]?=some x):At H (f x++(P++((l.take i).flatMap f++((l.drop (i+1)).flatMap f++R)))):=by rw [QO h,Uv,Uv,<- Uv P] at t;have:=t.swap;rw [Uv] at this;exact this
theorem At.put (t:At H (f y++(P++((l.take i).flatMap f++((l.drop (i+1)).flatMap f++R)))))(h:i<l.length):At H (P++((l.set i y).flatMap f++R)):=by rw [Ae8 h,Uv,Uv,<- Uv P];rw [<- Uv P] at t;exact t.swap
end
structure TxtP (K:T3)(mg:Str->Option Value)(a:Aq):Prop extends Txt K mg a where
 sh:mg "all"=none
 cJ:mg "list"=none
 ia:mg "tuple"=none
 jz:mg "sorted"=none
 sj:mg "set"=none
 sr:mg "min"=none
 sv:∃ t,mg "SIGNS"=some (Vc "0123456789" t)
 sy:∃ t,mg "LEAST_LONG"=some (Vg 2 t)
 sA:∃ t,mg "MOST_LONG"=some (Vg 4 t)
 sD:∃ t,mg "MOST_LINES"=some (Vg 60 t)
 sE:∃ t,mg "MOST_SEEKERS"=some (Vg 60 t)
 sH:∃ t,mg "MOST_GROUPS"=some (Vg 40 t)
 sI:∃ t,mg "MOST_SWITCHES"=some (Vg 10 t)
 cU:mg "BadPlan"=some (.ref a.fQ)
 dY:VH K a.fQ [.type "ValueError",.type "Exception",.type "BaseException",.type "object"] "ValueError.__new__"=true
noncomputable def Il (c:Nat):Bool:=decide (48<=c) && decide (c<=57)
theorem QP {c:Nat}:Il c=true↔48<=c/\c<=57:=by unfold Il;rw [Wj,decide_eq_true_eq,decide_eq_true_eq]
theorem Ae9:∀ c:Nat,c<128->FP ⟨#[c]⟩ "0123456789"=Il c:=by decide +kernel
theorem Afa {z:Str}(h:Cq z):z.cps.all (·<128)=true:=by rw [<- ym,V3];intro c hc;exact decide_eq_true (h c hc)
def Mj:Sp:=λvs H Q _=>∃ z:Str,vs=[.str z]/\Cq z/\z.length<=1000/\∀ b H',(b=true↔Cy z)->Ai H H'->Q (.bl b) H'
def QQ (a:Aq):Sp:=λvs H Q E=>∃ long bq:Int,vs=[.int long,.int bq]/\(2<=long/\long<=4/\1<=bq/\bq<=60->Q .aa H)/\(¬ (2<=long/\long<=4/\1<=bq/\bq<=60)->E (.ref a.fQ) none H)
theorem QR:AR ["text"] ["text"] (Ab (top 12)):=.of
theorem Afb:Nm (Ab (top 12)) "text":=.of
theorem Afc:Gm (Ab (top 12)) "all":=.of
noncomputable def Ml:Scope:={ kind:=.function,names:=[(".0",.local),("sign",.local),("SIGNS",.globalImplicit)],isGenerator:=false,isCoroutine:=false,more:=[] }
theorem QS:BE Ml (Ab (top 12)) ["sign"] ["text"] [none]:=BE.mk' rfl (by decide +kernel) (by decide +kernel) (by decide +kernel) (by decide +kernel) rfl (by decide +kernel)
theorem QT:Nm Ml "sign":=.of
theorem Afd:Gm Ml "SIGNS":=.of
theorem Afe (F:AM K "are_figures" "are_figures" (top 12) f fd)(T:TxtP K mg a):AF P w K mg base AB 1 f fd ["text"] Mj:=by
 refine F.ok QR λah A outer s H vs Q E hr h=>?_
 .replace h:=Av h;obtain ⟨z,rfl,Y,hl,q⟩:=h
  have nd:=QR.nd;refine ⟨_,(@An _ _ _ (AO (BG (Adc rfl) Afc T.sh Acv (Ac (Lq rfl QS (Acj (Aa 0 Afb)) (λJ C fp pins s₂ H₂=>(Bo 0 QS.nd QT.comp)) (λJ C fp pins s₂ H₂=>FQ) (λJ C fp pins s₂ H₂=>(Gp (AcQ K rfl) (Aa 0 QT.comp) (GG Afd.comp T.sv) (by with_unfolding_all rfl)))) Ae)))),?_⟩;try dsimp only [av,aw]
  walk_at"";refine ⟨Afa Y,λD hD=>?_⟩;have ll:z.cps.toList.length<=1000:=by rw [<- Fq];exact hl
  refine AdI (z:=z) (λi σ I=>∃ x,σ=[x]/\Ai H I/\I D=some (.lst (((z.cps.toList.take i).map Il).map V.bl))) ⟨none,rfl,(Ai.refl H).upd hD,Al⟩ ?_ ?_
  .intro i c σ I hc B;replace B:=Av B;obtain ⟨x,rfl,O,L⟩:=B;have J:c<128:=Y c (Uw hc);walk_at"";refine ⟨_,L,?_,_,rfl,O.cj hD,?_⟩
   .rw [T7,T7,VF,Uc];omega
   .have e:V.bl (FP ⟨#[c]⟩ "0123456789")=V.bl (Il c):=by rw [Ae9 c J]
    rw [Al,VQ,hc,Uy,Uy];show some (HO.lst (_++[V.bl (FP ⟨#[c]⟩ "0123456789")]))=_;rw [e];rfl
  .intro σ I B;replace B:=Av B;obtain ⟨x,rfl,O,L⟩:=B;rw [VL] at L;refine DB D _ rfl ⟨.of L,q _ I ?_ O⟩;rw [vU,V3];exact ⟨λh c hc=>QP.mp (h c hc),λh c hc=>QP.mpr (h c hc)⟩
theorem Afg:AR ["long","seekers"] ["long","seekers"] (Ab (top 37)):=.of
theorem Afh:Nm (Ab (top 37)) "long":=.of
theorem Afi:Nm (Ab (top 37)) "seekers":=.of
theorem QU:Gm (Ab (top 37)) "within":=.of
theorem Afj:Gm (Ab (top 37)) "MOST_SEEKERS":=.of
theorem QV:Gm (Ab (top 37)) "BadPlan":=.of
theorem Afk:Gm (Ab (top 37)) "MOST_LONG":=.of
theorem Afl:Gm (Ab (top 37)) "LEAST_LONG":=.of
theorem Afm (F:AM K "check_counts" "check_counts" (top 37) f fd)(T:TxtP K mg a)(I:BB P w K mg base AB 1 "within" ["number","least","most"] Ig):AF P w K mg base (AJ P w) 2 f fd ["long","seekers"] (QQ a):=by
 refine F.bw Afg λV A outer s H vs Q E J h=>?_
 .replace h:=AY h;obtain ⟨l,k,rfl,O,L⟩:=h
  refine ⟨_,(@Aj _ _ _ _ _ (Ba (DS (Dy (Bx I QU J.d A3 (Ac (Aa 0 Afh) (Ac (GF Afl T.sy) (Ac (GF Afk T.sA) Ae)))))) (An (Dr Dq QV rfl T.dY T.cU (Ac Ak Ae))) Be)
    (An (Ba (DS (Dy (Bx I QU J.d A3 (Ac (Aa 1 Afi) (Ac Am (Ac (GF Afj T.sE) Ae)))))) (An (Dr Dq QV rfl T.dY T.cU (Ac Ak Ae))) Be))),?_⟩
  try dsimp only [av,aw]
  walk_at"";refine BO l 2 4 rfl ?_;walk_at"";by_cases B:2<=l/\l<=4
  .rw [decide_eq_true B.1,decide_eq_true B.2];refine Cn ?_;walk_at"";refine BO k 1 60 rfl ?_;walk_at"";by_cases D:1<=k/\k<=60
   .rw [decide_eq_true D.1,decide_eq_true D.2];refine Cn ?_;exact O ⟨B.1,B.2,D.1,D.2⟩
   .have e:(decide (1<=k) && decide (k<=60))=false:=Xt.mpr λz=>D (by simpa using z);rw [e];refine Co ?_;walk_at"";exact ⟨Ax,L λz=>D z.2.2⟩
  .have e:(decide (2<=l) && decide (l<=4))=false:=Xt.mpr λz=>B (by simpa using z);rw [e];refine Co ?_;walk_at"";exact ⟨Ax,L λz=>B ⟨z.1,z.2.1⟩⟩
def Ok (z:Str):Prop:=Cq z/\z.length<=20
def Mm (long:Int)(zs:List Str):Prop:=(1<=zs.length/\zs.length<=60)/\(∀ z∈zs,(z.length:Int)=long/\Cy z)/\zs.Nodup
def QW (a:Aq)(K:T3):Sp:=λvs H Q E=>∃(long:Int)(p:Addr)(zs:List Str),vs=[.int long,.ref p]/\0<=long/\long<=1000/\H p=some (.lst (zs.map V.str))/\(∀ z∈zs,Ok z)/\zs.length<2000/\(Mm long zs->∀ H',Ai H H'->Q .aa H')/\(¬ Mm long zs->∀ H',Ai H H'->E (.ref a.fQ) none H')
theorem Im {z:Str}(h:Ok z):(ZM z).length<=1000:=by
 have B:=StrLaws.reprText_len z λc hc=>by have:=h.1 c hc;omega
 have:=h.2;omega
theorem QX {α:Type}{xs:List α}{i:Nat}{x:α}{R:α->Prop}(h:xs[i]?=some x)(d:∀ y∈xs.take i,R y)(hx:R x):∀ y∈xs.take (i+1),R y:=by
 rw [VQ,h];intro y hy;rcases UU.mp hy with z | z
 .exact d y z
 .have:y=x:=by simpa using z
  rw [this];exact hx
theorem QY:AR ["long","lines","number"] ["long","lines"] (Ab (top 38)):=.of
theorem QZ:Nm (Ab (top 38)) "long":=.of
theorem JY:Nm (Ab (top 38)) "lines":=.of
theorem JZ:Nm (Ab (top 38)) "number":=.of
theorem J0:Gm (Ab (top 38)) "len":=.of
theorem Afn:Gm (Ab (top 38)) "set":=.of
theorem Mn:Gm (Ab (top 38)) "BadPlan":=.of
theorem Afo:Gm (Ab (top 38)) "are_figures":=.of
theorem Afp:Gm (Ab (top 38)) "within":=.of
theorem Afq:Gm (Ab (top 38)) "MOST_LINES":=.of
theorem Afr (F:AM K "check_lines" "check_lines" (top 38) f fd)(T:TxtP K mg a)(cy:BB P w K mg base AB 1 "within" ["number","least","most"] Ig)(ip:BB P w K mg base AB 1 "are_figures" ["text"] Mj) :
  AF P w K mg base (AJ P w) 2 f fd ["long","lines"] (QW a K):=by
 refine F.bw QY λah A outer s H vs Q E hr h=>?_
 .replace h:=BZ h;obtain ⟨long,p,zs,rfl,l0,l1,hp,ok,aE,q1,q2⟩:=h
  have hu:=hr.units;have nd:=QY.nd;refine ⟨_,(@Aj _ _ _ _ _ (Ba (DS (Dy (Bx cy Afp hr.d A3 (Ac (BG Cp J0 T.n_len Ca (Ac (Aa 1 JY) Ae)) (Ac Am (Ac (GF Afq T.sD) Ae)))))) (An (Dr Dq Mn rfl T.dY T.cU (Ac Ak Ae))) Be)
    (Aj (CO vV rfl (Df (Aa 1 JY)) (Bo 2 nd JZ) (An (Ba (PW.pt (Hn (A5 (Ef hu) (BG Cp J0 T.n_len Ca (Ac (Aa 2 JZ) Ae)) (Aa 0 QZ) (Bb _)) (Hm (DS (Dy (Bx ip Afo hr.d A3 (Ac (Aa 2 JZ) Ae))))))) (An (Dr Dq Mn rfl T.dY T.cU (Ac (FO (Cv (HH (Aa 2 JZ)) (Cv Ak (Cv (HP (Aa 0 QZ)) (Cv Ak FN))))) Ae))) Be)))
    (An (Ba (A5 (Ef hu) (BG (PZ (w:=w) rfl) J0 T.n_len Ca (Ac (Cw (Adw (w:=w) rfl rfl) Afn T.sj Acs (Ac (Aa 1 JY) Ae)) Ae)) (BG Cp J0 T.n_len Ca (Ac (Aa 1 JY) Ae)) (Bb _)) (An (Dr Dq Mn rfl T.dY T.cU (Ac Ak Ae))) Be)))),?_⟩
  try dsimp only [av,aw]
  walk_at"";refine Ue (AU _ _ rfl (.inl (.of hp)) ?_);rw [T7];walk_at"";refine BO _ 1 60 rfl ?_;walk_at"";by_cases h1:1<=zs.length/\zs.length<=60
  .have e1:(decide (1<=(zs.length:Int)) && decide ((zs.length:Int)<=60))=true:=by simp;omega
   rw [e1];refine Cn ?_;walk_at"";refine ⟨⟨_,.of hp⟩,DW (K:=K) (a:=p) (xs:=zs.map V.str) (λi σ O=>∃ x,σ=[some (.int long),some (.ref p),x]/\Ai H O/\∀ z∈zs.take i,(z.length:Int)=long/\Cy z) ⟨none,rfl,Ai.refl H,λz hz=>absurd hz (by simp)⟩ (λi σ O _ ⟨_,_,J,_⟩=>.of (J _ _ hp)) ?_ ?_⟩
   .intro i y σ O hi L;replace L:=Av L;obtain ⟨x,rfl,J,dn⟩:=L;rw [Uj] at hi;cases hk:zs[i]? with
    | none=>rw [hk] at hi;cases hi
    | some z =>
     rw [hk] at hi;cases hi;have hz:=ok z (Uw hk);have zl:z.length<=20:=hz.2;walk_at"";refine Uh (DY z rfl (by rw [Uc];omega) ?_);walk_at"";have B:UJ.length=0:=rfl;have D:(Ud " is no number of ").length=17:=by decide +kernel
     have I:(Ud " figures").length=8:=by decide +kernel
     have du:=Im hz;by_cases he:(z.length:Int)=long
     .rw [decide_eq_true (congrArg V.int he)];refine Cn ?_;walk_at"";refine ⟨hz.1,by omega,λb H3 hb Y=>?_⟩;walk_at"";cases b with
      | true =>
       refine Cn ?_;exact ⟨_,rfl,J.trans Y,QX hk dn ⟨he,hb.mp rfl⟩⟩
      | false =>
       refine Co ?_;walk_at"";refine ⟨(by simp only [Bk,B,D,I,Uc];omega),?_⟩;walk_at"";refine ⟨(by simp only [Bk,B,D,I,Uc];omega),?_⟩;walk_at"";refine ⟨(by simp only [Bk,B,D,I,Uc];omega),?_⟩;walk_at"";refine Uh (CC _ rfl ⟨l0,l1,λu nO=>?_⟩);walk_at"";refine ⟨(by simp only [Bk,B,D,I,Uc];omega),?_⟩;walk_at"";refine ⟨(by simp only [Bk,B,D,I,Uc];omega),?_⟩;refine ⟨(by simp only [Bk,B,D,I,Uc];omega),?_⟩;exact ⟨Ax,q2 (λk=>by have:=hb.mpr (k.2.1 z (Uw hk)).2;cases this) H3 (J.trans Y)⟩
     .rw [decide_eq_false (λk=>he (V.int.inj k))];refine Co ?_;walk_at"";refine ⟨(by simp only [Bk,B,D,I,Uc];omega),?_⟩;walk_at"";refine ⟨(by simp only [Bk,B,D,I,Uc];omega),?_⟩;walk_at"";refine ⟨(by simp only [Bk,B,D,I,Uc];omega),?_⟩;walk_at"";refine Uh (CC _ rfl ⟨l0,l1,λu nO=>?_⟩);walk_at"";refine ⟨(by simp only [Bk,B,D,I,Uc];omega),?_⟩;walk_at"";refine ⟨(by simp only [Bk,B,D,I,Uc];omega),?_⟩;refine ⟨(by simp only [Bk,B,D,I,Uc];omega),?_⟩;exact ⟨Ax,q2 (λk=>he (k.2.1 z (Uw hk)).1) O J⟩
   .intro σ O L;replace L:=Av L;obtain ⟨x,rfl,J,dn⟩:=L;rw [T7,VL] at dn;walk_at"";refine CV p zs rfl (.of (J _ _ hp)) aE (λl hl=>?_);have Y:Ai H (upd O l (Cb w l zs)):=J.upd hl;refine AU l zs rfl Al (λn hn=>?_);walk_at"";refine Ue (AU _ _ rfl (.inl (.of (Y _ _ hp))) ?_);rw [T7];walk_at"";by_cases hd:zs.Nodup
    .rw [decide_eq_true (congrArg (λk:Nat=>V.int k) (hn.mpr hd))];refine Cn ?_;exact q1 ⟨h1,dn,hd⟩ _ Y
    .have ne:¬ (V.int n=V.int zs.length):=λk=>hd (hn.mp (by have:=V.int.inj k;omega));rw [decide_eq_false ne];refine Co ?_;walk_at"";exact ⟨Ax,q2 (λk=>hd k.2.2) _ Y⟩
  .have e1:(decide (1<=(zs.length:Int)) && decide ((zs.length:Int)<=60))=false:=Xt.mpr λz=>h1 (by simp at z;omega);rw [e1];refine Co ?_;walk_at"";exact ⟨Ax,q2 (λz=>h1 z.1) H (Ai.refl H)⟩
def Mo (long:Int)(ts:List Pr):Prop:=ts.length<=40/\(∀ t∈ts,(1<=(t.2.1.length:Int)/\(t.2.1.length:Int)<=long - 2)/\Cy t.2.1/\0<=t.2.2/\t.2.2<=10)/\(ts.map (·.2.1)).Nodup
def Q0 (a:Aq):Sp:=λvs H Q E=>∃(long:Int)(p:Addr)(ts:List Pr),vs=[.int long,.ref p]/\0<=long/\long<=1000/\H p=some (.lst (ts.map A6))/\C9 H ts/\(∀ t∈ts,Ok t.2.1)/\ts.length<2000/\(Mo long ts->∀ H',Ai H H'->Q .aa H')/\(¬ Mo long ts->∀ H',Ai H H'->E (.ref a.fQ) none H')
theorem Q1:AR ["long","groups","prefix","many"] ["long","groups"] (Ab (top 39)):=.of
theorem Q2:Nm (Ab (top 39)) "long":=.of
theorem J1:Nm (Ab (top 39)) "groups":=.of
theorem J2:Nm (Ab (top 39)) "prefix":=.of
theorem Q3:Nm (Ab (top 39)) "many":=.of
theorem J3:Gm (Ab (top 39)) "len":=.of
theorem J4:Gm (Ab (top 39)) "BadPlan":=.of
theorem Q4:Gm (Ab (top 39)) "within":=.of
theorem Afs:Gm (Ab (top 39)) "MOST_SWITCHES":=.of
theorem Aft:Gm (Ab (top 39)) "are_figures":=.of
theorem Afu:Gm (Ab (top 39)) "MOST_GROUPS":=.of
noncomputable def Mp:Scope:={ kind:=.function,names:=[(".0",.local),("prefix",.local),("many",.local)],isGenerator:=false,isCoroutine:=false,more:=[] }
theorem Mq:BE Mp (Ab (top 39)) ["prefix","many"] ["long","groups","prefix","many"] [none,none]:=BE.mk' rfl (by decide +kernel) (by decide +kernel) (by decide +kernel) (by decide +kernel) rfl (by decide +kernel)
theorem Q5:Nm Mp "prefix":=.of
theorem Afv:Nm Mp "many":=.of
theorem Afw (F:AM K "check_groups" "check_groups" (top 39) f fd)(T:TxtP K mg a)(cy:BB P w K mg base AB 1 "within" ["number","least","most"] Ig)(ip:BB P w K mg base AB 1 "are_figures" ["text"] Mj) :
  AF P w K mg base (AJ P w) 2 f fd ["long","groups"] (Q0 a):=by
 refine F.bw Q1 λah A outer s H vs Q E hr h=>?_
 .replace h:=BZ h;obtain ⟨long,p,ts,rfl,l0,l1,hp,lay,ok,aE,q1,q2⟩:=h
  have hu:=hr.units;have nd:=Q1.nd;refine ⟨_,(@Aj _ _ _ _ _ (Ba (A5 Jc (BG Cp J3 T.n_len Ca (Ac (Aa 1 J1) Ae)) (GF Afu T.sH) (Bb _)) (An (Dr Dq J4 rfl T.dY T.cU (Ac Ak Ae))) Be)
    (Aj (CO vV rfl (Df (Aa 1 J1)) (Fb rfl (B9 (Bo 2 nd J2) (B9 (Bo 3 nd Q3) DT))) (Aj (Ba (PW.pt (Hn (DS (Dy (Bx cy Q4 hr.d A3 (Ac (BG Cp J3 T.n_len Ca (Ac (Aa 2 J2) Ae)) (Ac Am (Ac (As Ec (Aa 0 Q2) Am) Ae)))))) (Hm (DS (Dy (Bx ip Aft hr.d A3 (Ac (Aa 2 J2) Ae))))))) (An (Dr Dq J4 rfl T.dY T.cU (Ac (FO (Cv (HH (Aa 2 J2)) (Cv Ak (Cv (HP (Aa 0 Q2)) (Cv Ak FN))))) Ae))) Be)
     (An (Ba (DS (Dy (Bx cy Q4 hr.d A3 (Ac (Aa 3 Q3) (Ac Am (Ac (GF Afs T.sI) Ae)))))) (An (Dr Dq J4 rfl T.dY T.cU (Ac Ak Ae))) Be))))
    (An (Ba (A5 (Ef hu) (BG (PZ (w:=w) rfl) J3 T.n_len Ca (Ac (AdF (w:=w) rfl rfl Mq (Df (Aa 1 J1)) (λcl C fp pins s₂ H₂=>(JC (X:=A4 _ _ _ cl C fp pins s₂ H₂) K rfl 2 rfl (B9 (Bo 0 Mq.nd Q5.comp) (B9 (Bo 1 Mq.nd Afv.comp) DT)) rfl rfl)) (λcl C fp pins s₂ H₂=>FQ) (λcl C fp pins s₂ H₂=>(Aa 0 Q5.comp))) Ae)) (BG Cp J3 T.n_len Ca (Ac (Aa 1 J1) Ae)) (Bb _)) (An (Dr Dq J4 rfl T.dY T.cU (Ac Ak Ae))) Be)))),?_⟩
  try dsimp only [av,aw]
  walk_at"";refine Ue (AU _ _ rfl (.inl (.of hp)) ?_);rw [T7];walk_at"";by_cases h1:(ts.length:Int) > 40
  .refine EC (decide_eq_true h1) ?_;walk_at"";exact ⟨Ax,q2 (λz=>by have:=z.1;omega) H (Ai.refl H)⟩
  refine ED (decide_eq_false h1) ?_;walk_at"";refine ⟨⟨_,.of hp⟩,DW (K:=K) (a:=p) (xs:=ts.map A6) (λi σ H2=>∃ x y,σ=[some (.int long),some (.ref p),x,y]/\Ai H H2/\∀ t∈ts.take i,(1<=(t.2.1.length:Int)/\(t.2.1.length:Int)<=long - 2)/\Cy t.2.1/\0<=t.2.2/\t.2.2<=10) ⟨none,none,rfl,Ai.refl H,λz hz=>absurd hz (by simp)⟩ (λi σ H2 _ ⟨_,_,_,I,_⟩=>.of (I _ _ hp)) ?_ ?_⟩
  .intro i y σ H2 Y B;replace B:=AY B;obtain ⟨x,y',rfl,I,dn⟩:=B;rw [Uj] at Y;cases hk:ts[i]? with
   | none=>rw [hk] at Y;cases Y
   | some t =>
    rw [hk] at Y;cases Y;have tm:=Uw hk;have hz:=ok t tm;have zl:t.2.1.length<=20:=hz.2;have J:UJ.length=0:=rfl;have L:(Ud " is no prefix where numbers have ").length=33:=by decide +kernel
    have O:(Ud " figures").length=8:=by decide +kernel
    have du:=Im hz;refine ⟨t.1,_,rfl,.of (I _ _ (lay t tm)),rfl,?_⟩;walk_at"";refine Uh (DY _ rfl (by rw [Uc];omega) ?_);walk_at"";refine BO _ 1 (long - 2) rfl ?_;walk_at"";by_cases hw:1<=(t.2.1.length:Int)/\(t.2.1.length:Int)<=long - 2
    .rw [decide_eq_true hw.1,decide_eq_true hw.2];refine Cn ?_;walk_at"";refine ⟨hz.1,by omega,λb H3 hb s3=>?_⟩;walk_at"";cases b with
     | true =>
      refine Cn ?_;walk_at"";refine BO _ 0 10 rfl ?_;walk_at"";by_cases hm:0<=t.2.2/\t.2.2<=10
      .rw [decide_eq_true hm.1,decide_eq_true hm.2];refine Cn ?_;exact DB _ _ rfl ⟨I.trans s3,QX hk dn ⟨hw,hb.mp rfl,hm.1,hm.2⟩⟩
      .have e:(decide (0<=t.2.2) && decide (t.2.2<=10))=false:=Xt.mpr λz=>hm (by simpa using z);rw [e];refine Co ?_;walk_at"";exact ⟨Ax,q2 (λk=>hm (k.2.1 t tm).2.2) H3 (I.trans s3)⟩
     | false =>
      refine Co ?_;walk_at"";refine ⟨(by simp only [Bk,J,L,O,Uc];omega),?_⟩;walk_at"";refine ⟨(by simp only [Bk,J,L,O,Uc];omega),?_⟩;walk_at"";refine ⟨(by simp only [Bk,J,L,O,Uc];omega),?_⟩;walk_at"";refine Uh (CC _ rfl ⟨l0,l1,λu nO=>?_⟩);walk_at"";refine ⟨(by simp only [Bk,J,L,O,Uc];omega),?_⟩;walk_at"";refine ⟨(by simp only [Bk,J,L,O,Uc];omega),?_⟩;refine ⟨(by simp only [Bk,J,L,O,Uc];omega),?_⟩;exact ⟨Ax,q2 (λk=>by have:=hb.mpr (k.2.1 t tm).2.1;cases this) H3 (I.trans s3)⟩
    .have e:(decide (1<=(t.2.1.length:Int)) && decide ((t.2.1.length:Int)<=long - 2))=false:=Xt.mpr λz=>hw (by simpa using z);rw [e];refine Co ?_;walk_at"";refine ⟨(by simp only [Bk,J,L,O,Uc];omega),?_⟩;walk_at"";refine ⟨(by simp only [Bk,J,L,O,Uc];omega),?_⟩;walk_at"";refine ⟨(by simp only [Bk,J,L,O,Uc];omega),?_⟩;walk_at"";refine Uh (CC _ rfl ⟨l0,l1,λu nO=>?_⟩);walk_at"";refine ⟨(by simp only [Bk,J,L,O,Uc];omega),?_⟩;walk_at"";refine ⟨(by simp only [Bk,J,L,O,Uc];omega),?_⟩;refine ⟨(by simp only [Bk,J,L,O,Uc];omega),?_⟩;exact ⟨Ax,q2 (λk=>hw (k.2.1 t tm).1) H2 I⟩
  .intro σ H2 B;replace B:=AY B;obtain ⟨x,y',rfl,I,dn⟩:=B;rw [T7,VL] at dn;walk_at"";have dQ:=I _ _ hp;refine ⟨⟨_,.of dQ⟩,λD hD=>?_⟩;refine AdJ (K:=K) (w:=w) (a:=p) (xs:=ts.map A6) (λi σ H'=>∃ x y,σ=[x,y]/\Ai H2 H'/\H' D=some (Cb w D ((ts.take i).map (·.2.1)))) ⟨none,none,rfl,(Ai.refl H2).upd hD,Al⟩ (λi σ H' _ ⟨_,_,_,sm,_⟩=>.of (sm _ _ (I _ _ hp))) ?_ ?_
   .intro i x σ H' Y B;replace B:=AY B;obtain ⟨x0,x1,rfl,sm,hL⟩:=B;rw [Uj] at Y;cases hk:ts[i]? with
    | none=>rw [hk] at Y;cases Y
    | some t =>
     rw [hk] at Y;cases Y;have tm:=Uw hk;refine ⟨t.1,_,rfl,.of (sm _ _ (I _ _ (lay t tm))),rfl,?_⟩;walk_at"";refine DB _ _ rfl ⟨hL,?_,_,_,rfl,sm.cj hD,?_⟩
     .rw [T7,VF];omega
     .rw [Al,VQ,hk,Uy];rfl
   .intro σ H' B;replace B:=AY B;obtain ⟨x0,x1,rfl,sm,hL⟩:=B;rw [T7,VL] at hL;refine AU D _ rfl hL (λn hn=>?_);rw [T7] at hn;walk_at"";have s3:=I.trans sm;refine Ue (AU _ _ rfl (.inl (.of (s3 _ _ hp))) ?_);rw [T7];walk_at"";by_cases hd:(ts.map (·.2.1)).Nodup
    .rw [decide_eq_true (congrArg (λk:Nat=>V.int k) (hn.mpr hd))];refine Cn ?_;exact q1 ⟨by omega,dn,hd⟩ _ s3
    .have ne:¬ (V.int n=V.int ts.length):=λk=>hd (hn.mp (by have:=V.int.inj k;omega));rw [decide_eq_false ne];refine Co ?_;walk_at"";exact ⟨Ax,q2 (λk=>hd k.2.2) _ s3⟩
structure J5 (K:T3)(C:Addr):Prop where
 cls:CB K C
 l:BK K C "long"
 n:BK K C "lines"
 s:BK K C "seekers"
 g:BK K C "groups"
noncomputable def J6 (long:Int)(lt:Addr)(bq:Int)(gt:Addr):List (Str×V):=[("long",.int long),("lines",.ref lt),("seekers",.int bq),("groups",.ref gt)]
def J7 (long bq:Int)(zs:List Str)(ts:List Pr):Prop:=(2<=long/\long<=4/\1<=bq/\bq<=60)/\Mm long zs/\Mo long ts
structure J8 (H:Hp)(l g:Addr)(zs:List Str)(ts:List Pr):Prop where
 l:H l=some (.lst (zs.map V.str))
 g:H g=some (.lst (ts.map A6))
 lay:C9 H ts
 sJ:∀ z∈zs,Ok z
 sL:∀ t∈ts,Ok t.2.1
 fl:zs.length<2000
 fg:ts.length<2000
theorem J8.same {H B:Hp}{l g:Addr}{zs:List Str}{ts:List Pr}(p:J8 H l g zs ts)(s:Ai H B):J8 B l g zs ts:=⟨s _ _ p.l,s _ _ p.g,p.lay.same s,p.sJ,p.sL,p.fl,p.fg⟩
def Q6 (a:Aq)(K:T3):Sp:=λvs H Q E=>∃(p:Addr)(long:Int)(l:Addr)(bq:Int)(g C dx:Addr)(zs:List Str)(ts:List Pr),vs=[.ref p,.int long,.ref l,.int bq,.ref g]/\H p=some (.ins C dx [])/\J5 K C/\J8 H l g zs ts /\
 (J7 long bq zs ts->∀(H':Hp)(lt gt:Addr)(aj:List Str)(br:List Pr),CA [p] H H'->H' p=some (.ins C dx (J6 long lt bq gt))->H' lt=some (.tup (aj.map V.str))->H' gt=some (.tup (br.map A6))->aj.Perm zs->aj.Pairwise CJ->br.Perm ts->br.Pairwise (λx y=>CJ x.2.1 y.2.1)->Q .aa H') /\
 (¬ J7 long bq zs ts->∀ H',Ai H H'->E (.ref a.fQ) none H')
theorem Q7:AR ["self","long","lines","seekers","groups"] ["self","long","lines","seekers","groups"] (Ab (Af (top 36) 0)):=.of
theorem J9:Nm (Ab (Af (top 36) 0)) "self":=.of
theorem Ka:Nm (Ab (Af (top 36) 0)) "long":=.of
theorem Q8:Nm (Ab (Af (top 36) 0)) "lines":=.of
theorem Q9:Nm (Ab (Af (top 36) 0)) "seekers":=.of
theorem Ra:Nm (Ab (Af (top 36) 0)) "groups":=.of
theorem Rb:Gm (Ab (Af (top 36) 0)) "tuple":=.of
theorem Rc:Gm (Ab (Af (top 36) 0)) "sorted":=.of
theorem Afx:Gm (Ab (Af (top 36) 0)) "check_groups":=.of
theorem Afy:Gm (Ab (Af (top 36) 0)) "check_lines":=.of
theorem Afz:Gm (Ab (Af (top 36) 0)) "check_counts":=.of
theorem AfA (F:AM K "__init__" "Plan.__init__" (Af (top 36) 0) f fd)(T:TxtP K mg a)(nP:BB P w K mg base (AJ P w) 2 "check_counts" ["long","seekers"] (QQ a))(nQ:BB P w K mg base (AJ P w) 2 "check_lines" ["long","lines"] (QW a K))(nR:BB P w K mg base (AJ P w) 2 "check_groups" ["long","groups"] (Q0 a)) :
  AF P w K mg base (AJ P w) 3 f fd ["self","long","lines","seekers","groups"] (Q6 a K):=by
 refine F.bw Q7 λah A outer s H vs Q E hr h=>?_
 .replace h:=Eu h;obtain ⟨p,long,l,bq,g,C,dx,zs,ts,rfl,hp,I,pt,q1,q2⟩:=h
  have hu:=hr.units;have nd:=Q7.nd;refine ⟨_,(@Aj _ _ _ _ _ (Bi (Bx nP Afz hr.d BV (Ac (Aa 1 Ka) (Ac (Aa 3 Q9) Ae))))
    (Aj (Bi (Bx nQ Afy hr.d BV (Ac (Aa 1 Ka) (Ac (Aa 2 Q8) Ae))))
    (Aj (Bi (Bx nR Afx hr.d BV (Ac (Aa 1 Ka) (Ac (Aa 4 Ra) Ae))))
    (Aj (BR (Aa 0 J9) (Aa 1 Ka) rfl)
    (Aj (BR (Aa 0 J9) (Cw Jk Rb T.ia Jt (Ac (BG PD Rc T.jz Ju (Ac (Aa 2 Q8) Ae)) Ae)) rfl)
    (Aj (BR (Aa 0 J9) (Aa 3 Q9) rfl)
    (An (BR (Aa 0 J9) (Cw Jk Rb T.ia Jt (Ac (BG Adj Rc T.jz Ju (Ac (Aa 4 Ra) Ae)) Ae)) rfl)))))))),?_⟩
  try dsimp only [av,aw]
  walk_at"";refine ⟨λhC=>?_,λhC=>q2 (λz=>hC z.1) H (Ai.refl H)⟩;walk_at"";refine BO long l zs rfl ⟨by omega,by omega,pt.l,pt.sJ,pt.fl,λhL H1 Y=>?_,λhL H1 Y=>q2 (λz=>hL z.2.1) H1 Y⟩;have sM:=pt.same Y;walk_at"";refine BO long g ts rfl ⟨by omega,by omega,sM.g,sM.lay,pt.sL,pt.fg,λhG H2 s2=>?_,λhG H2 s2=>q2 (λz=>hG z.2.2) H2 (Y.trans s2)⟩;have nS:=Y.trans s2;have sN:=pt.same nS;have dQ:=nS _ _ hp;walk_at"";refine Bn p C dx [] rfl dQ I.cls I.l (by show 0<1000;decide) ?_;generalize hA:upd H2 p (.ins C dx (Aw "long" (.int long) []))=L;have xA:CA [p] H L:=λb o hb e=>by rw [<- hA,Au (by simpa using hb)];exact nS _ _ e
  have pA:L p=some (.ins C dx [("long",.int long)]):=hA▸Al;have np:∀ {b xs},H b=some (.lst xs)->b ∉ [p]:=λh z=>by rw [UL.mp z,hp] at h;cases h
  have np':∀ {b xs},H b=some (.tup xs)->b ∉ [p]:=λh z=>by rw [UL.mp z,hp] at h;cases h
  walk_at"";have hl:=hL.1.2;refine CV l zs rfl (.of (xA _ _ (np pt.l) pt.l)) (by omega) (λl1 B n1 pz so=>?_);have sB:=(Ai.refl L).upd (o:=.lst (B.map V.str)) n1;refine DB l1 (B.map V.str) rfl (Uh ⟨.of Al,λlt n2=>?_⟩);have sC:=sB.upd (o:=.tup (B.map V.str)) n2;have eC:(upd (upd L l1 (.lst (B.map V.str))) lt (.tup (B.map V.str))) lt=some (.tup (B.map V.str)):=Al;have fC:L lt=none:=sB.free n2;generalize upd (upd L l1 (.lst (B.map V.str))) lt (.tup (B.map V.str))=HC at sC eC ⊢;walk_at"";refine Bn p C dx _ rfl (sC _ _ pA) I.cls I.n (by show 1<1000;decide) ?_;generalize hD:upd HC p (.ins C dx (Aw "lines" (.ref lt) [("long",.int long)]))=HD;have nT:lt≠p:=λz=>by rw [z,pA] at fC;cases fC
  have xD:CA [p] H HD:=λb o hb e=>by rw [<- hD,Au (by simpa using hb)];exact sC _ _ (xA _ _ hb e)
  have pD:HD p=some (.ins C dx [("long",.int long),("lines",.ref lt)]):=hD▸Al;have eD:HD lt=some (.tup (B.map V.str)):=by rw [<- hD,Au nT];exact eC
  walk_at"";refine Bn p C dx _ rfl pD I.cls I.s (by show 2<1000;decide) ?_;generalize hE:upd HD p (.ins C dx (Aw "seekers" (.int bq) [("long",.int long),("lines",.ref lt)]))=J;have xE:CA [p] H J:=λb o hb e=>by rw [<- hE,Au (by simpa using hb)];exact xD _ _ hb e
  have pE:J p=some (.ins C dx [("long",.int long),("lines",.ref lt),("seekers",.int bq)]):=hE▸Al;have eE:J lt=some (.tup (B.map V.str)):=by rw [<- hE,Au nT];exact eD
  walk_at"";have aaX:C9 J ts:=λt m=>xE _ _ (np' (pt.lay t m)) (pt.lay t m);have hg:=hG.1;refine DB g ts rfl ⟨.of (xE _ _ (np pt.g) pt.g),aaX,hG.2.2,by omega,λl3 D n3 pts so3=>?_⟩;have sF:=(Ai.refl J).upd (o:=.lst (D.map A6)) n3;refine DB l3 (D.map A6) rfl (Uh ⟨.of Al,λO n4=>?_⟩);have sG:=sF.upd (o:=.tup (D.map A6)) n4;have eG:(upd (upd J l3 (.lst (D.map A6))) O (.tup (D.map A6))) O=some (.tup (D.map A6)):=Al;have fG:J O=none:=sF.free n4;generalize upd (upd J l3 (.lst (D.map A6))) O (.tup (D.map A6))=HG at sG eG ⊢;walk_at"";refine Bn p C dx _ rfl (sG _ _ pE) I.cls I.g (by show 3<1000;decide) ?_;have ngt:O≠p:=λz=>by rw [z,pE] at fG;cases fG
  refine q1 ⟨hC,hL,hG⟩ _ lt O B D (λb o hb e=>by rw [Au (by simpa using hb)];exact sG _ _ (xE _ _ hb e)) Al ?_ ?_ pz so pts so3
  .rw [Au nT];exact sG _ _ eE
  .rw [Au ngt];exact eG
structure Mr (K:T3)(C:Addr):Prop where
 cls:CB K C
 nu:BK K C "number"
 pl:BK K C "place"
 he:BK K C "held"
 st:BK K C "state"
 di:BK K C "dialled_so_far"
 pu:BK K C "pulses"
 fa:BK K C "far_end"
 wh:BK K C "why"
noncomputable def AfB (num:Str)(i:Int)(hl:Addr):List (Str×V):=[("number",.str num),("place",.int i),("held",.ref hl)]
noncomputable def CF (num:Str)(i:Int)(hl:Addr)(st ao:Str)(az:Int)(ag why:V):List (Str×V):=[("number",.str num),("place",.int i),("held",.ref hl),("state",.str st),("dialled_so_far",.str ao),("pulses",.int az),("far_end",ag),("why",why)]
def GI (a:Aq):Sp:=λvs H Q _=>∃(p dx:Addr)(num:Str)(i:Int)(hl:Addr)(bB:Str)(fs:List (Str×V)),vs=[.ref p,.str bB]/\H p=some (.ins a.Line dx fs)/\(fs=AfB num i hl\/∃ st ao az ag why,fs=CF num i hl st ao az ag why)/\Q .aa (upd H p (.ins a.Line dx (CF num i hl bB "" 0 .aa .aa)))
def Rf (a:Aq):Sp:=λvs H Q _=>∃(p dx:Addr)(num:Str)(i:Int),vs=[.ref p,.str num,.int i]/\H p=some (.ins a.Line dx [])/\∀ l,H l=none->Q .aa (upd (upd H l (.lst [])) p (.ins a.Line dx (CF num i l "rests" "" 0 .aa .aa)))
theorem AfC:AR ["self","state"] ["self","state"] (Ab (Af (top 22) 1)):=.of
theorem Io:Nm (Ab (Af (top 22) 1)) "self":=.of
theorem AfD:Nm (Ab (Af (top 22) 1)) "state":=.of
theorem AfE (F:AM K "turn" "Line.turn" (Af (top 22) 1) f fd)(lc:Mr K a.Line):AF P w K mg base AB 1 f fd ["self","state"] (GI a):=by
 refine F.ok AfC λJ A outer s H vs Q E L h=>?_
 .replace h:=Hh h;obtain ⟨p,dx,num,i,O,V,fs,rfl,B,D,q⟩:=h
  refine ⟨_,(@Aj _ _ _ _ _ (BR (Aa 0 Io) (Aa 1 AfD) rfl)
    (Aj (BR (Aa 0 Io) Ak rfl)
    (Aj (BR (Aa 0 Io) Am rfl)
    (Aj (BR (Aa 0 Io) Ck rfl)
    (An (BR (Aa 0 Io) Ck rfl)))))),?_⟩
  try dsimp only [av,aw]
  have I:∀ {X},upd H p (.ins a.Line dx X) p=some (.ins a.Line dx X):=Al;rcases D with rfl | ⟨st,ao,az,ag,why,rfl⟩;all_goals
   walk_at"";refine Bn p a.Line dx _ rfl B lc.cls lc.st (Vo rfl) ?_;walk_at"";refine Bn p a.Line dx _ rfl Al lc.cls lc.di (Vo rfl) ?_;rw [Hi];walk_at"";refine Bn p a.Line dx _ rfl Al lc.cls lc.pu (Vo rfl) ?_;rw [Hi];walk_at"";refine Bn p a.Line dx _ rfl Al lc.cls lc.fa (Vo rfl) ?_;rw [Hi];walk_at"";refine Bn p a.Line dx _ rfl Al lc.cls lc.wh (Vo rfl) ?_;rw [Hi];exact q
theorem AfF:AR ["self","number","place"] ["self","number","place"] (Ab (Af (top 22) 0)):=.of
theorem Kb:Nm (Ab (Af (top 22) 0)) "self":=.of
theorem AfG:Nm (Ab (Af (top 22) 0)) "number":=.of
theorem AfH:Nm (Ab (Af (top 22) 0)) "place":=.of
theorem AfI (F:AM K "__init__" "Line.__init__" (Af (top 22) 0) f fd)(lc:Mr K a.Line)(J:A2 P w K mg base AB 1 a.Line "turn" ["self","state"] (GI a)):AF P w K mg base AB 2 f fd ["self","number","place"] (Rf a):=by
 refine F.ok AfF λY A outer s H vs Q E L h=>?_
 .replace h:=Cj h;obtain ⟨p,dx,num,i,rfl,O,q⟩:=h
  have V:=lc.cls;refine ⟨_,(@Aj _ _ _ _ _ (BR (Aa 0 Kb) (Aa 1 AfG) rfl)
    (Aj (BR (Aa 0 Kb) (Aa 2 AfH) rfl)
    (Aj (BR (Aa 0 Kb) (A0 Ae) rfl)
    (An (Bi (Bs J V (Aa 0 Kb) L.d A3 (Ac Ak Ae))))))),?_⟩
  try dsimp only [av,aw]
  walk_at"";refine Bn p a.Line dx _ rfl O lc.cls lc.nu (Vo rfl) ?_;walk_at"";refine Bn p a.Line dx _ rfl Al lc.cls lc.pl (Vo rfl) ?_;rw [Hi];walk_at"";refine ⟨Ax,λl B=>?_⟩;have pl:p≠l:=λz=>by rw [<- z,Al] at B;cases B
  walk_at"";refine Bn p a.Line dx _ rfl (by rw [Au pl];exact Al) lc.cls lc.he (Vo rfl) ?_;walk_at"";refine Bm p dx _ rfl Al rfl ?_;walk_at"";refine HB p dx num i l ("rests") _ rfl ⟨Al,.inl rfl,?_⟩;have D:H l=none:=by rw [Au pl.symm] at B;exact B
  have e:upd (upd (upd (upd H p (.ins a.Line dx (Aw "place" (.int i) (Aw "number" (.str num) [])))) l (.lst [])) p (.ins a.Line dx (Aw "held" (.ref l) (Aw "place" (.int i) (Aw "number" (.str num) []))))) p (.ins a.Line dx (CF num i l "rests" "" 0 .aa .aa))=upd (upd H l (.lst [])) p (.ins a.Line dx (CF num i l "rests" "" 0 .aa .aa)):=by
   funext b
   by_cases h:b=p
   .rw [h,Al,Al]
   .rw [Au h,Au h,Au h];by_cases I:b=l
    .rw [I,Al,Al]
    .rw [Au I,Au I,Au h]
  rw [e];exact q l D
theorem Rg:AR ["holders","stuck","paper","k","who"] ["holders","stuck"] (Ab (top 18)):=.of
theorem AfJ:Nm (Ab (top 18)) "holders":=.of
theorem AfK:Nm (Ab (top 18)) "stuck":=.of
theorem Kc:Nm (Ab (top 18)) "paper":=.of
theorem Rh:Nm (Ab (top 18)) "k":=.of
theorem Ms:Nm (Ab (top 18)) "who":=.of
theorem AfL:Gm (Ab (top 18)) "tuple":=.of
theorem AfM:Gm (Ab (top 18)) "enumerate":=.of
theorem AfN (F:AM K "paper_of" "paper_of" (top 18) f fd)(T:TxtS K mg a):AF P w K mg base AB 1 f fd ["holders","stuck"] (Md K):=by
 refine F.ok Rg λah A outer s H vs Q E hr h=>?_
 .replace h:=Cj h;obtain ⟨h,st,hs,D,rfl,hh,aL,hz,q⟩:=h
  have nd:=Rg.nd;refine ⟨_,(@Aj _ _ _ _ _ (A1 2 nd Kc (A0 Ae))
    (Aj (CO Vp rfl (Ph AfM T.kM (Ac (Aa 0 AfJ) Ae)) (Fb rfl (B9 (Bo 3 nd Rh) (B9 (Bo 4 nd Ms) DT))) (An (Ba (A5 Oy (Aa 4 Ms) Ck (Bb _)) (An (Bi (Cm Ve Vy Vz C7 (Aa 2 Kc) (Ac (Aa 4 Ms) Ae)))) (An (Bi (Cm Ve Vy Vz C7 (Aa 2 Kc) (Ac (N8 (A5 HI (Aa 3 Rh) (Aa 1 AfK) (by with_unfolding_all rfl)) Ak Ak) Ae)))))))
    (An (AO (Cw Jk AfL T.ia Jt (Ac (Aa 2 Kc) Ae)))))),?_⟩
  try dsimp only [av,aw]
  walk_at"";refine ⟨Ax,λl hl=>?_⟩;have s1:=(Ai.refl H).upd (o:=.lst []) hl;walk_at"";refine DB h hs rfl ⟨.of (s1 _ _ hh),AcO (K:=K) (a:=h) (xs:=hs) (λi σ J=>∃ x y,σ=[some (.ref h),some (.ref st),some (.ref l),x,y]/\Ai H J/\J l=some (.lst (CS hs (λk=>decide ((k:Int)∈D)) i))) ⟨none,none,rfl,s1,Al⟩ (λi σ J _ ⟨_,_,_,L,_⟩=>.of (L _ _ hh)) ?_ ?_⟩
  .rintro i x t σ J hi ⟨x0,x1,rfl,L,hL⟩ O;have eg:hs.getD i .aa=x:=by rw [UM,hi];rfl
   have jy:i<hs.length:=(US.mp hi).1;refine CV t _ rfl (.of Al) rfl ?_;walk_at"";have Y:=((Ai.refl J).upd (o:=.tup [.int i,x]) O) l _ hL;have cL:=L.upd (o:=.tup [.int i,x]) O;have B:(CS hs (λk=>decide ((k:Int)∈D)) i).length=i:=by unfold CS;rw [T7,WS]
   by_cases hx:x=.aa
   .rw [decide_eq_true hx];refine Cn ?_;walk_at"";refine ⟨.inl ⟨rfl,_,.of Y⟩,?_⟩;walk_at"";refine Ue (DL st (D.map V.int) rfl (.inl (.of (cL _ _ aL))) rfl (AeS D) ?_);simp only [XE,if_false];rw [AeR];have I:∀ v,v=(if (decide ((i:Int)∈D))=true then V.str "stuck" else V.str "free")->Ai H (upd (upd J t (.tup [.int i,x])) l (.lst (CS hs (λk=>decide ((k:Int)∈D)) i++[v])))/\(upd (upd J t (.tup [.int i,x])) l (.lst (CS hs (λk=>decide ((k:Int)∈D)) i++[v]))) l=some (.lst (CS hs (λk=>decide ((k:Int)∈D)) (i+1))):=λv hv=>by
     refine ⟨cL.cj hl,?_⟩;rw [Al,Ih,eg,if_pos hx,hv]
    by_cases hk:(i:Int)∈D
    .rw [decide_eq_true hk] at I ⊢;walk_at"";refine Co ?_;walk_at"";refine B1 l _ _ rfl rfl Y (by rw [B,Uc];omega) ?_;obtain ⟨z1,z2⟩:=I _ rfl;exact DB _ _ rfl ⟨z1,z2⟩
    .rw [decide_eq_false hk] at I ⊢;walk_at"";refine Cn ?_;walk_at"";refine B1 l _ _ rfl rfl Y (by rw [B,Uc];omega) ?_;obtain ⟨z1,z2⟩:=I _ rfl;exact DB _ _ rfl ⟨z1,z2⟩
   .rw [decide_eq_false hx];refine Co ?_;walk_at"";refine ⟨.inl ⟨rfl,_,.of Y⟩,?_⟩;walk_at"";refine B1 l _ _ rfl rfl Y (by rw [B,Uc];omega) ?_;refine AU _ _ rfl (cL.cj hl) ?_;rw [Al,Ih,eg,if_neg hx]
  .intro σ J zq;replace zq:=AY zq;obtain ⟨x0,x1,rfl,L,hL⟩:=zq;walk_at"";refine DB l _ rfl (.inl ⟨.of hL,λt O=>?_⟩);exact q _ t (L.upd O) (L.free O) Al
theorem AfO {hs:List V}{B D:Nat->Bool}{n:Nat}(h:∀ k,k<n->B k=D k):CS hs B n=CS hs D n:=by unfold CS;refine Wl λk hk=>?_;rw [h k (Vr.mp hk)]
structure Ln where
 (num st ao:Str) (az:Int) (ag:Option Str) (why:PyData) (held:List (Str×Int))
structure Gr where
 (pre:Str) (hs:List V) (js:List Bool) (ts:List Int)
structure Sk where
 (hs:List V) (js:List Bool) (ts:List Int) (places mark:Int) (st wt:List Int)
structure LX where
 (p dx h:Addr) (i:Nat) (wv:V) (hv:List Addr) (l:Ln)
structure RX where
 (p dx ra rb rc:Addr) (g:Gr)
structure SX where
 (p dx ra rb rc rs rw:Addr) (k:Sk)
structure HX where
 (h dx ld sd qa da:Addr) (long:Int) (lines:List LX) (groups:List RX) (sk:SX) (q:List Str) (dn:List V)
structure PS where
 (long:Int) (lns:List Ln) (aD:List Gr) (sk:Sk) (q:List Str) (dn:List V)
noncomputable def HX.S (X:HX):PS:=⟨X.long,X.lines.map (·.l),X.groups.map (·.g),X.sk.k,X.q,X.dn⟩
noncomputable def Ce:Option Str->V
 | none=>.aa
 | some z=>.str z
noncomputable def FX (long:Int)(ld sd qa da:Addr):List (Str×V):=[("long",.int long),("lines",.ref ld),("switches",.ref sd),("queue",.ref qa),("done",.ref da)]
noncomputable def LX.fs (x:LX):List (Str×V):=CF x.l.num x.i x.h x.l.st x.l.ao x.l.az (Ce x.l.ag) x.wv
noncomputable def B8 (a:Aq)(x:LX):AH:=[(x.p,.ins a.Line x.dx x.fs),(x.h,.lst (x.hv.map V.ref))]
noncomputable def BX (a:Aq)(x:RX):AH:=[(x.p,.ins a.aR x.dx (FV x.ra x.rb x.rc)),(x.ra,.lst x.g.hs),(x.rb,.lst (x.g.js.map V.bl)),(x.rc,.lst (x.g.ts.map V.int))]
noncomputable def BP (a:Aq)(x:SX):AH:=[(x.p,.ins a.aF x.dx (FW x.ra x.rb x.rc x.k.places x.rs x.rw x.k.mark)),(x.ra,.lst x.k.hs),(x.rb,.lst (x.k.js.map V.bl)),(x.rc,.lst (x.k.ts.map V.int)),(x.rs,.lst (x.k.st.map V.int)),(x.rw,.lst (x.k.wt.map V.int))]
noncomputable def HX.gH (X:HX):List (Ar×V):=X.lines.map λx=>(.inr x.l.num,.ref x.p)
noncomputable def HX.cz (X:HX):List (Ar×V):=X.groups.map (λx=>(.inr x.g.pre,.ref x.p))++[(.inr "",.ref X.sk.p)]
noncomputable def HX.top (a:Aq)(X:HX):AH:=[(X.h,.ins a.ae X.dx (FX X.long X.ld X.sd X.qa X.da)),(X.ld,.dK X.gH),(X.sd,.dK X.cz),(X.qa,.lst (X.q.map V.str)),(X.da,.lst X.dn)]
noncomputable def AZ (a:Aq)(X:HX)(R:AH):AH:=X.top a++(BP a X.sk++(X.groups.flatMap (BX a)++(X.lines.flatMap (B8 a)++R)))
structure AfP (K:T3)(C:Addr):Prop where
 cls:CB K C
 lo:BK K C "long"
 li:BK K C "lines"
 sw:BK K C "switches"
 qu:BK K C "queue"
 dn:BK K C "done"
def CK (H:Hp):List Addr->List (Str×Int)->Prop
 | [],[]=>True
 | x :: xs,p :: ps=>H x=some (.tup [.str p.1,.int p.2])/\CK H xs ps
 | _,_=>False
theorem CK.ai {H B:Hp}(s:Ah H B):∀{xs:List Addr}{ps:List (Str×Int)},CK H xs ps->CK B xs ps
 | [],[],_=>trivial
 | [],_ :: _,h=>h
 | _ :: _,[],h=>h
 | _ :: _,_ :: _,h=>⟨s.t h.1,CK.ai s h.2⟩
structure Ip (K:T3)(H:Hp)(j:Nat)(x:LX):Prop where
 i:x.i=j
 pr:CK H x.hv x.l.held
 w:Is K H x.wv x.l.why
 wt:Dj x.l.why=true
 aE:x.l.held.length<=10
theorem Du {α β:Type}{f:α->β}:∀{l:List α}{i:Nat}{x y:α},l[i]?=some x->f y=f x->(l.set i y).map f=l.map f
 | [],i,x,y,h,_=>by simp at h
 | z :: l,0,x,y,h,e=>by
  have h:z=x:=by simpa using h
  subst h;exact congrArg (· :: l.map f) e
 | z :: l,i+1,x,y,h,e=>congrArg (f z :: ·) (Du (l:=l) (i:=i) (by simpa using h) e)
section
variable {K:T3}{a:Aq}{H H':Hp}{X:HX}{R:AH}{i:Nat}{x y:LX}{g g':RX}
theorem At.aA (t:At H (AZ a X R)):H X.h=some (.ins a.ae X.dx (FX X.long X.ld X.sd X.qa X.da)):=t.get (by simp [AZ,HX.top])
theorem At.ld (t:At H (AZ a X R)):H X.ld=some (.dK X.gH):=t.get (by simp [AZ,HX.top])
theorem At.sd (t:At H (AZ a X R)):H X.sd=some (.dK X.cz):=t.get (by simp [AZ,HX.top])
theorem At.q (t:At H (AZ a X R)):H X.qa=some (.lst (X.q.map V.str)):=t.get (by simp [AZ,HX.top])
theorem At.dn (t:At H (AZ a X R)):H X.da=some (.lst X.dn):=t.get (by simp [AZ,HX.top])
theorem At.rest (t:At H (AZ a X R)):At H R:=t.right.right.right.right
theorem At.aaY {b:Addr}{u:HO}(t:At H (AZ a X R))(n:H b=none):At (upd H b u) (AZ a X ((b,u) :: R)):=by have:=(t.new (u:=u) n);unfold AZ at this ⊢;rw [<- Uv,<- Uv,<- Uv] at this ⊢;exact this.back
theorem At.cM {B:List Str}(t:At H (AZ a X R)):At (upd H X.qa (.lst (B.map V.str))) (AZ a { X with q:=B } R):=At.set (P:=[_,_,_]) t
theorem At.nU {d':List V}(t:At H (AZ a X R)):At (upd H X.da (.lst d')) (AZ a { X with dn:=d' } R):=At.set (P:=[_,_,_,_]) t
theorem At.jA (t:At H (AZ a X R))(h:X.lines[i]?=some x):At H (B8 a x++((X.top a++(BP a X.sk++X.groups.flatMap (BX a)))++((X.lines.take i).flatMap (B8 a)++((X.lines.drop (i+1)).flatMap (B8 a)++R)))):=by refine At.pick (P:=X.top a++(BP a X.sk++X.groups.flatMap (BX a))) ?_ h;rw [Uv,Uv];exact t
theorem At.nV (e:y.p=x.p)(n:y.l.num=x.l.num)(h:X.lines[i]?=some x)(t:At H (B8 a y++((X.top a++(BP a X.sk++X.groups.flatMap (BX a)))++((X.lines.take i).flatMap (B8 a)++((X.lines.drop (i+1)).flatMap (B8 a)++R))))):At H (AZ a { X with lines:=X.lines.set i y } R):=by have t:=At.put (P:=X.top a++(BP a X.sk++X.groups.flatMap (BX a))) t (US.mp h).1;have B:({ X with lines:=X.lines.set i y }:HX).gH=X.gH:=Du (f:=λx:LX=>((.inr x.l.num:Ar),V.ref x.p)) h (by rw [e,n]);unfold AZ HX.top at t ⊢;rw [B];rw [Uv,Uv] at t;exact t
theorem At.aM (t:At H (AZ a X R))(h:X.lines[i]?=some x):H x.p=some (.ins a.Line x.dx x.fs):=(t.jA h).get (by simp [B8])
theorem At.jB (t:At H (AZ a X R))(h:X.lines[i]?=some x):H x.h=some (.lst (x.hv.map V.ref)):=(t.jA h).get (by simp [B8])
theorem At.bU (t:At H (AZ a X R))(h:X.lines[i]?=some x)(ep:y.p=x.p)(B:y.dx=x.dx)(D:y.h=x.h)(I:y.hv=x.hv)(J:y.l.num=x.l.num):At (upd H x.p (.ins a.Line x.dx y.fs)) (AZ a { X with lines:=X.lines.set i y } R):=by refine At.nV ep J h ?_;have:=At.ik (o':=.ins a.Line x.dx y.fs) (t.jA h);unfold B8;rw [ep,B,D,I];exact this
theorem At.nX {p:Addr}(t:At H (AZ a X R))(h:X.lines[i]?=some x)(ep:y.p=x.p)(B:y.dx=x.dx)(D:y.h=x.h)(I:y.hv=x.hv++[p])(J:y.l.num=x.l.num)(L:y.fs=x.fs):At (upd H x.h (.lst (x.hv.map V.ref++[V.ref p]))) (AZ a { X with lines:=X.lines.set i y } R):=by refine At.nV ep J h ?_;have:=At.set (P:=[_]) (o':=.lst (x.hv.map V.ref++[V.ref p])) (t.jA h);unfold B8;rw [ep,B,D,I,L,Uy];exact this
theorem At.aaZ {l:Addr}(t:At H (AZ a X R))(h:X.lines[i]?=some x)(B:H l=none)(ep:y.p=x.p)(D:y.dx=x.dx)(I:y.h=l)(J:y.hv=[])(L:y.l.num=x.l.num):At (upd (upd H l (.lst [])) x.p (.ins a.Line x.dx y.fs)) (AZ a { X with lines:=X.lines.set i y } R):=by refine At.nV ep L h ?_;have O:=(t.jA h).new (u:=.lst []) B;have Y:=At.set (P:=[_]) (o':=.ins a.Line x.dx y.fs) O;have t3:=At.perm (C':=(x.p,.ins a.Line x.dx y.fs) :: (l,.lst []) :: (x.h,.lst (x.hv.map V.ref)) :: _) Y (.swap _ _ _);have t4:=(At.front (P:=[_,_]) t3).tl;unfold B8;rw [ep,D,I,J];exact t4
structure FY (g:Gr):Prop where
 lj:g.js.length=g.hs.length
 lt:g.ts.length=g.hs.length
 z:g.hs.length<=1000
structure GJ (k:Sk):Prop where
 lj:k.js.length=k.hs.length
 lt:k.ts.length=k.hs.length
 ls:k.st.length=k.hs.length
 lw:k.wt.length=k.hs.length
 z:k.hs.length<=1000
theorem At.nY (t:At H (AZ a X R))(h:X.groups[i]?=some g):At H (BX a g++((X.top a++BP a X.sk)++((X.groups.take i).flatMap (BX a)++((X.groups.drop (i+1)).flatMap (BX a)++(X.lines.flatMap (B8 a)++R))))):=by refine At.pick (P:=X.top a++BP a X.sk) ?_ h;rw [Uv];exact t
theorem At.sO (e:g'.p=g.p)(n:g'.g.pre=g.g.pre)(h:X.groups[i]?=some g)(t:At H (BX a g'++((X.top a++BP a X.sk)++((X.groups.take i).flatMap (BX a)++((X.groups.drop (i+1)).flatMap (BX a)++(X.lines.flatMap (B8 a)++R)))))):At H (AZ a { X with groups:=X.groups.set i g' } R):=by have t:=At.put (P:=X.top a++BP a X.sk) t (US.mp h).1;have B:({ X with groups:=X.groups.set i g' }:HX).cz=X.cz:=congrArg (·++[((.inr "":Ar),V.ref X.sk.p)]) (Du (f:=λx:RX=>((.inr x.g.pre:Ar),V.ref x.p)) h (by rw [e,n]));unfold AZ HX.top at t ⊢;rw [B];rw [Uv] at t;exact t
theorem AfQ (B D I:Addr):Fs (FV B D I) B D I:=by refine ⟨rfl,rfl,rfl,λx hx=>?_⟩;simp only [Uo,UZ,or_false] at hx;rcases hx with rfl | rfl | rfl | rfl | rfl | rfl | rfl | rfl | rfl | rfl | rfl<;>rfl
theorem At.gI (t:At H (AZ a X R))(h:X.groups[i]?=some g)(c:EK K a a.aR)(ok:FY g.g):CQ K a H g.p a.aR g.ra g.rb g.rc g.g.hs g.g.js g.g.ts:=by have f:=t.nY h;have B:=f.left.nd;simp only [BX,Vd,XD,UH,Uo,UZ,or_false,not_or,not_false_eq_true,Wo,and_true] at B;obtain ⟨⟨_,_,_⟩,⟨D,I⟩,J⟩:=AD B;exact ⟨⟨g.dx,FV g.ra g.rb g.rc,f.get (by simp [BX]),AfQ ..⟩,c,f.get (by simp [BX]),f.get (by simp [BX]),f.get (by simp [BX]),D,I,J,ok.lj,ok.lt,ok.z⟩
theorem At.kU (t:At H (AZ a X R)):At H (BP a X.sk++(X.top a++(X.groups.flatMap (BX a)++(X.lines.flatMap (B8 a)++R)))):=At.swap t
theorem At.jC (t:At H (AZ a X R))(c:Ft K a a.aF)(ok:GJ X.sk.k):D4 K a H X.sk.p a.aF X.sk.ra X.sk.rb X.sk.rc X.sk.rs X.sk.rw X.sk.k.hs X.sk.k.js X.sk.k.ts X.sk.k.places X.sk.k.mark X.sk.k.st X.sk.k.wt:=by have f:=t.kU;have B:=f.left.nd;exact ⟨⟨X.sk.dx,f.get (by simp [BP])⟩,c,f.get (by simp [BP]),f.get (by simp [BP]),f.get (by simp [BP]),f.get (by simp [BP]),f.get (by simp [BP]),(UH.mp B).2,ok.lj,ok.lt,ok.ls,ok.lw,ok.z⟩
theorem At.jD {ws:List Addr}{k':Sk}{dx':Addr}(t:At H (AZ a X R))(s:CA ws H H')(sub:∀ w∈ws,w∈(BP a X.sk).map (·.1))(ep:H' X.sk.p=some (.ins a.aF dx' (FW X.sk.ra X.sk.rb X.sk.rc k'.places X.sk.rs X.sk.rw k'.mark)))(B:H' X.sk.ra=some (.lst k'.hs))(hb:H' X.sk.rb=some (.lst (k'.js.map V.bl)))(hc:H' X.sk.rc=some (.lst (k'.ts.map V.int)))(hd:H' X.sk.rs=some (.lst (k'.st.map V.int)))(D:H' X.sk.rw=some (.lst (k'.wt.map V.int))) :
  At H' (AZ a { X with sk:={ X.sk with k:=k',dx:=dx' } } R)/\Ah H H':=by
 have f:=t.kU;refine ⟨At.swap (f.part (M':=BP a { X.sk with k:=k',dx:=dx' }) s sub rfl ?_),At.ai f.left s sub (λc m=>by simp only [BP,Uo,UZ,or_false] at m;rcases m with rfl | rfl | rfl | rfl | rfl | rfl<;>rfl)⟩;intro c m;simp only [BP,Uo,UZ,or_false] at m;rcases m with rfl | rfl | rfl | rfl | rfl | rfl
 .exact ep
 .exact B
 .exact hb
 .exact hc
 .exact hd
 .exact D
end
structure AV (K:T3)(H:Hp)(X:HX):Prop where
 num:(X.lines.map (·.l.num)).Nodup
 pre:(X.groups.map (·.g.pre)).Nodup
 ne:∀ g∈X.groups,g.g.pre≠Ud ""
 lx:∀(i:Nat)(x:LX),X.lines[i]?=some x->Ip K H i x
 gr:∀ g∈X.groups,FY g.g
 sk:GJ X.sk.k
structure HT (K:T3)(a:Aq)(H:Hp)(X:HX)(R:AH):Prop where
 t:At H (AZ a X R)
 ok:AV K H X
section
variable {K:T3}{a:Aq}{H H':Hp}{X:HX}{R:AH}{i:Nat}{x y:LX}{g g':RX}
theorem Ip.ai {j:Nat}(l:Ip K H j x)(s:Ah H H'):Ip K H' j x:=⟨l.i,l.pr.ai s,Is.ai _ l.wt l.w s,l.wt,l.aE⟩
theorem AV.ai (k:AV K H X)(s:Ah H H'):AV K H' X:=⟨k.num,k.pre,k.ne,λi x h=>(k.lx i x h).ai s,k.gr,k.sk⟩
theorem HT.same (t:HT K a H X R)(s:Ai H H'):HT K a H' X R:=⟨t.t.same s,t.ok.ai (.of s)⟩
theorem HT.new {b:Addr}{u:HO}(t:HT K a H X R)(n:H b=none):HT K a (upd H b u) X ((b,u) :: R):=⟨t.t.aaY n,t.ok.ai (.new n)⟩
theorem AV.bU (k:AV K H X)(s:Ah H H')(h:X.lines[i]?=some x)(D:y.l.num=x.l.num)(I:Ip K H' i y):AV K H' { X with lines:=X.lines.set i y }:=by
 refine ⟨?_,k.pre,k.ne,λj z B=>?_,k.gr,k.sk⟩
 .show ((X.lines.set i y).map (·.l.num)).Nodup;rw [Du (f:=λx:LX=>x.l.num) h D];exact k.num
 .have B:(X.lines.set i y)[j]?=some z:=B;rw [vX] at B;by_cases e:i=j
  .rw [if_pos e] at B;split at B
   .cases B;rw [<- e];exact I
   .cases B
  .rw [if_neg e] at B;exact (k.lx j z B).ai s
theorem AV.setG (k:AV K H X)(s:Ah H H')(h:X.groups[i]?=some g)(B:g'.g.pre=g.g.pre)(D:FY g'.g):AV K H' { X with groups:=X.groups.set i g' }:=by
 refine ⟨k.num,?_,λz m=>?_,λi x h=>(k.lx i x h).ai s,λz m=>?_,k.sk⟩
 .show ((X.groups.set i g').map (·.g.pre)).Nodup;rw [Du (f:=λx:RX=>x.g.pre) h B];exact k.pre
 .rcases vY m with m | rfl
  .exact k.ne z m
  .rw [B];exact k.ne g (Uw h)
 .rcases vY m with m | rfl
  .exact k.gr z m
  .exact D
theorem AV.jD {B:SX}(k:AV K H X)(s:Ah H H')(ok:GJ B.k):AV K H' { X with sk:=B }:=⟨k.num,k.pre,k.ne,λi x h=>(k.lx i x h).ai s,k.gr,ok⟩
theorem Mt {α:Type}{f:α->Str}{v:α->V}:∀{l:List α}{i:Nat}{x:α},(l.map f).Nodup->l[i]?=some x->AS (l.map λy=>((UR (f y):Ar),v y)) (.inr (f x))=some (v x)
 | [],_,_,_,h=>by simp at h
 | z :: l,0,x,_,h=>by
  have e:z=x:=by simpa using h
  subst e;exact Eh rfl
 | z :: l,i+1,x,nd,h=>by
  have B:=UH.mp nd;have D:l[i]?=some x:=by simpa using h
  refine (DD λe=>?_).trans (Mt B.2 D);have I:f z=f x:=VX e;exact B.1 (by rw [I];exact Ur.mpr ⟨x,Uw D,rfl⟩)
theorem FZ {α:Type}{f:α->Str}{v:α->V}{w:Str}:∀{l:List α},w ∉ l.map f->AS (l.map λy=>((UR (f y):Ar),v y)) (.inr w)=none
 | [],_=>rfl
 | z :: l,n=>(DD λe=>n (by rw [<- (VX e:f z=w)];exact UY)).trans (FZ λm=>n (UO _ m))
theorem AV.line (k:AV K H X)(h:X.lines[i]?=some x):AS X.gH (.inr x.l.num)=some (.ref x.p):=Mt (f:=λx:LX=>x.l.num) (v:=λx=>V.ref x.p) k.num h
theorem AV.gJ (k:AV K H X){z:Str}(n:z ∉ X.lines.map (·.l.num)):AS X.gH (.inr z)=none:=FZ (f:=λx:LX=>x.l.num) (v:=λx=>V.ref x.p) n
theorem AV.nZ (k:AV K H X):AS (X.groups.map λx=>((UR x.g.pre:Ar),V.ref x.p)) (.inr (Ud ""))=none:=FZ (f:=λx:RX=>x.g.pre) (v:=λx=>V.ref x.p) λm=>by
 obtain ⟨g,mg,e⟩:=Ag (Ur.mp m);exact k.ne g mg e
theorem AV.kW (k:AV K H X):AS X.cz (.inr (Ud ""))=some (.ref X.sk.p):=by unfold HX.cz;rw [JD _ _ _ _ k.nZ,if_pos rfl]
theorem AV.sR (k:AV K H X)(h:X.groups[i]?=some g):AS X.cz (.inr g.g.pre)=some (.ref g.p):=by unfold HX.cz;rw [JD _ _ _ _ k.nZ,if_neg (λe=>k.ne g (Uw h) (VX e))];exact Mt (f:=λx:RX=>x.g.pre) (v:=λx=>V.ref x.p) k.pre h
theorem AV.aa0 (k:AV K H X){w:Str}(B:w≠Ud "")(n:w ∉ X.groups.map (·.g.pre)):AS X.cz (.inr w)=none:=by unfold HX.cz;rw [JD _ _ _ _ k.nZ,if_neg (λe=>B (VX e))];exact FZ (f:=λx:RX=>x.g.pre) (v:=λx=>V.ref x.p) n
structure TxtH (P:Ub)(w:T6)(K:T3)(mg:Str->Option Value)(a:Aq):Prop extends TxtK K mg a,TxtP K mg a where
 iq:∃ t,mg "AT_SEEKERS"=some (Vc "" t)
 kX:mg "WAYS"=some (.ref a.gB)
 cv:∃ t1 t2 t3 t4,LR P w K a.gB [(.inr "lift",.ref t1),(.inr "pulse",.ref t2),(.inr "gap",.ref t3),(.inr "hang",.ref t4)]/\(∀ H,Bt K H t1 [.str "rests",.str "rung"])/\(∀ H,Bt K H t2 [.str "dials"])/\(∀ H,Bt K H t3 [.str "dials"])/\∀ H,Bt K H t4 [.str "waits",.str "dials",.str "rings",.str "talks",.str "told"]
 kY:mg "NoLine"=some (.ref a.eT)
 sS:VH K a.eT [.type "ValueError",.type "Exception",.type "BaseException",.type "object"] "ValueError.__new__"=true
 kZ:mg "NotSo"=some (.ref a.hV)
 sT:VH K a.hV [.type "ValueError",.type "Exception",.type "BaseException",.type "object"] "ValueError.__new__"=true
 hc:AfP K a.ae
 lc:Mr K a.Line
 sc:Ft K a a.aF
 gc:EK K a a.aR
def F0 (K:T3)(a:Aq):Sp:=λvs H Q E=>∃(X:HX)(R:AH)(z:Str),vs=[.ref X.h,.str z]/\HT K a H X R/\Ok z /\
 (∀(i:Nat)(x:LX),X.lines[i]?=some x->x.l.num=z->Q (.ref x.p) H)/\(z ∉ X.lines.map (·.l.num)->E (.ref a.eT) none H)
def F1 (K:T3)(a:Aq):Sp:=λvs H Q E=>∃(X:HX)(R:AH)(z:Str),vs=[.ref X.h,.str z]/\HT K a H X R/\Ok z /\
 (z=Ud ""->Q (.ref X.sk.p) H)/\(∀(i:Nat)(g:RX),X.groups[i]?=some g->g.g.pre=z->Q (.ref g.p) H)/\(z≠Ud ""->z ∉ X.groups.map (·.g.pre)->E (.ref a.cu) none H)
theorem AfR {z:Str}(h:z∈X.lines.map (·.l.num)):∃(i:Nat)(x:LX),X.lines[i]?=some x/\x.l.num=z:=by obtain ⟨x,m,e⟩:=Ag (Ur.mp h);obtain ⟨i,B,D⟩:=Wc m;exact ⟨i,x,by rw [Uu B,D],e⟩
theorem Kd {z:Str}(h:z∈X.groups.map (·.g.pre)):∃(i:Nat)(x:RX),X.groups[i]?=some x/\x.g.pre=z:=by obtain ⟨x,m,e⟩:=Ag (Ur.mp h);obtain ⟨i,B,D⟩:=Wc m;exact ⟨i,x,by rw [Uu B,D],e⟩
end
theorem AfS:AR ["self","number"] ["self","number"] (Ab (Af (top 28) 16)):=.of
theorem Ri:Nm (Ab (Af (top 28) 16)) "self":=.of
theorem Mu:Nm (Ab (Af (top 28) 16)) "number":=.of
theorem AfT:Gm (Ab (Af (top 28) 16)) "NoLine":=.of
theorem AfU (F:AM K "line_of" "Hall.line_of" (Af (top 28) 16) f fd)(T:TxtH P w K mg a):AF P w K mg base (AJ P w) 1 f fd ["self","number"] (F0 K a):=by
 refine F.bw AfS λO A outer s H vs Q E V h=>?_
 .replace h:=BZ h;obtain ⟨X,R,z,rfl,t,I,J,L⟩:=h
  refine ⟨_,(@Aj _ _ _ _ _ (Ba (A5 (LS (P:=P) (w:=w) (K:=K)) (Aa 1 Mu) (AN (Aa 0 Ri) rfl) (by with_unfolding_all rfl)) (An (Dr Dq AfT rfl T.sS T.kY (Ac (FO (Cv Ak (Cv (HH (Aa 1 Mu)) FN))) Ae))) Be)
    (An (AO (Az P w K (AN (Aa 0 Ri) rfl) (Aa 1 Mu))))),?_⟩
  try dsimp only [av,aw]
  walk_at"";refine A7 X.h a.ae X.dx _ _ rfl t.t.aA T.hc.cls T.hc.li rfl ?_;refine Bm X.ld _ (.inr z) rfl rfl (.of t.t.ld) ?_;by_cases m:z∈X.lines.map (·.l.num)
  .obtain ⟨i,x,h,rfl⟩:=AQ (AfR m);have hv:=t.ok.line h;rw [hv];walk_at"";refine A7 X.h a.ae X.dx _ _ rfl t.t.aA T.hc.cls T.hc.li rfl ?_;walk_at"";exact ⟨X.ld,_,.inr x.l.num,_,rfl,rfl,.of t.t.ld,hv,J i x h rfl⟩
  .rw [t.ok.gJ m];have Y:=Im I;have B:UJ.length=0:=rfl;have D:(Ud "there is no line ").length=17:=by decide +kernel
   walk_at"";refine ⟨(by simp only [Bk,B,D,Uc];omega),?_⟩;walk_at"";refine ⟨(by rw [Uc];omega),?_⟩;walk_at"";refine ⟨(by simp only [Bk,B,D,Uc];omega),?_⟩;refine ⟨(by simp only [Bk,B,D,Uc];omega),?_⟩;exact ⟨Ax,L m⟩
theorem AfV:AR ["self","where"] ["self","where"] (Ab (Af (top 28) 17)):=.of
theorem Rj:Nm (Ab (Af (top 28) 17)) "self":=.of
theorem Mv:Nm (Ab (Af (top 28) 17)) "where":=.of
theorem AfW:Gm (Ab (Af (top 28) 17)) "NoSwitch":=.of
theorem AfX (F:AM K "switches_of" "Hall.switches_of" (Af (top 28) 17) f fd)(T:TxtH P w K mg a):AF P w K mg base (AJ P w) 1 f fd ["self","where"] (F1 K a):=by
 refine F.bw AfV λah A outer s H vs Q E hr h=>?_
 .replace h:=BZ h;obtain ⟨X,R,z,rfl,t,L,O,V,Y⟩:=h
  refine ⟨_,(@Aj _ _ _ _ _ (Ba (A5 (LS (P:=P) (w:=w) (K:=K)) (Aa 1 Mv) (AN (Aa 0 Rj) rfl) (by with_unfolding_all rfl)) (An (Dr Dq AfW rfl T.kN T.ic (Ac (FO (Cv Ak (Cv (HH (Aa 1 Mv)) FN))) Ae))) Be)
    (An (AO (Az P w K (AN (Aa 0 Rj) rfl) (Aa 1 Mv))))),?_⟩
  try dsimp only [av,aw]
  have D:(∃ p,AS X.cz (.inr z)=some (.ref p)/\Q (.ref p) H)\/(AS X.cz (.inr z)=none/\E (.ref a.cu) none H):=by
   by_cases B:z=Ud ""
   .exact .inl ⟨_,by rw [B];exact t.ok.kW,O B⟩
   .by_cases m:z∈X.groups.map (·.g.pre)
    .obtain ⟨i,x,h,rfl⟩:=AQ (Kd m);exact .inl ⟨_,t.ok.sR h,V i x h rfl⟩
    .exact .inr ⟨t.ok.aa0 B m,Y B m⟩
  walk_at"";refine A7 X.h a.ae X.dx _ _ rfl t.t.aA T.hc.cls T.hc.sw rfl ?_;refine Bm X.sd _ (.inr z) rfl rfl (.of t.t.sd) ?_;rcases D with ⟨p,hv,q⟩ | ⟨hv,q⟩
  .rw [hv];walk_at"";refine A7 X.h a.ae X.dx _ _ rfl t.t.aA T.hc.cls T.hc.sw rfl ?_;walk_at"";exact ⟨X.sd,_,.inr z,_,rfl,rfl,.of t.t.sd,hv,q⟩
  .rw [hv];have du:=Im L;have I:UJ.length=0:=rfl;have J:(Ud "there is no group ").length=18:=by decide +kernel
   walk_at"";refine ⟨(by simp only [Bk,I,J,Uc];omega),?_⟩;walk_at"";refine ⟨(by rw [Uc];omega),?_⟩;walk_at"";refine ⟨(by simp only [Bk,I,J,Uc];omega),?_⟩;refine ⟨(by simp only [Bk,I,J,Uc];omega),?_⟩;exact ⟨Ax,q⟩
noncomputable def aB (S:PS)(w:Str)(k:Int):PS :=
 if w=Ud "" then { S with sk:={ S.sk with hs:=S.sk.hs.set k.toNat .aa } }
 else { S with aD:=S.aD.map λg=>if g.pre=w then { g with hs:=g.hs.set k.toNat .aa } else g }
def D5 (S:PS)(w:Str)(k:Int):Prop :=
 if w=Ud "" then Cz k S.sk.hs=true/\S.sk.hs.getD k.toNat .aa≠.aa
 else ∃ g∈S.aD,g.pre=w/\Cz k g.hs=true/\g.hs.getD k.toNat .aa≠.aa
noncomputable def aq (S:PS):List (Str×Int)->PS
 | []=>S
 | t :: ts=>aq (aB S t.1 t.2) ts
def cA (S:PS):List (Str×Int)->Prop
 | []=>True
 | t :: ts=>D5 S t.1 t.2/\cA (aB S t.1 t.2) ts
theorem Mw (x:Str×Int):∀(ts:List (Str×Int))(S:PS),aq S (ts++[x])=aB (aq S ts) x.1 x.2
 | [],_=>rfl
 | t :: ts,S=>Mw x ts _
theorem Mx:∀{ts:List (Str×Int)}{S:PS},cA S ts->∀{j:Nat}{x:Str×Int},ts[j]?=some x->D5 (aq S (ts.take j)) x.1 x.2
 | [],_,_,j,x,h=>by simp at h
 | t :: ts,S,r,0,x,h=>by
  have e:t=x:=by simpa using h
  subst e;exact r.1
 | t :: ts,S,r,j+1,x,h=>Mx (S:=aB S t.1 t.2) r.2 (by simpa using h)
theorem Ek {α:Type}:∀{l:List α},l.Nodup->∀{i j:Nat}{x y:α},l[i]?=some x->l[j]?=some y->i≠j->x≠y
 | [],_,i,j,x,y,hx,_,_=>by simp at hx
 | z :: l,h,0,0,x,y,_,_,ne=>absurd rfl ne
 | z :: l,h,0,j+1,x,y,hx,hy,_=>λe=>by
  have hx:z=x:=by simpa using hx
  have hy:l[j]?=some y:=by simpa using hy
  exact (UH.mp h).1 (by rw [hx,e];exact Uw hy)
 | z :: l,h,i+1,0,x,y,hx,hy,_=>λe=>by
  have hy:z=y:=by simpa using hy
  have hx:l[i]?=some x:=by simpa using hx
  exact (UH.mp h).1 (by rw [hy,<- e];exact Uw hx)
 | z :: l,h,i+1,j+1,x,y,hx,hy,ne=>Ek (UH.mp h).2 (by simpa using hx) (by simpa using hy) (by omega)
theorem Rk {α:Type}{f:α->Str}{h:α->α}:∀{l:List α}{i:Nat}{x:α},(l.map f).Nodup->l[i]?=some x->l.set i (h x)=l.map λy=>if f y=f x then h y else y
 | [],_,_,_,e=>by simp at e
 | z :: l,0,x,nd,e=>by
  have e:z=x:=by simpa using e
  subst e;have n:=(UH.mp nd).1;show h z :: l=(if f z=f z then h z else z) :: l.map _;rw [if_pos rfl];refine congrArg (h z :: ·) ?_;conv=>lhs;rw [<- Yr l]
  exact Wl λy D=>by rw [if_neg (λq=>n (by rw [<- q];exact Ur.mpr ⟨y,D,rfl⟩))];rfl
 | z :: l,i+1,x,nd,e=>by
  have B:=UH.mp nd;have e:l[i]?=some x:=by simpa using e
  show z :: l.set i (h x)=(if f z=f x then h z else z) :: l.map _;rw [if_neg (λq=>B.1 (by rw [q];exact Ur.mpr ⟨x,Uw e,rfl⟩)),Rk B.2 e]
section
variable {K:T3}{a:Aq}{H H':Hp}{X:HX}{R:AH}{i:Nat}{x y:LX}{g g':RX}
theorem HX.sU {g':RX}{h:Gr->Gr}(B:(X.groups.map (·.g.pre)).Nodup)(e:X.groups[i]?=some g)(D:g'.g=h g.g):({ X with groups:=X.groups.set i g' }:HX).S={ X.S with aD:=X.S.aD.map λy=>if y.pre=g.g.pre then h y else y }:=by
 have I:(X.groups.set i g').map (·.g)=(X.groups.map (·.g)).set i (h g.g):=by rw [Vn,D]
 have J:=Rk (f:=λy:Gr=>y.pre) (h:=h) (l:=X.groups.map (·.g)) (i:=i) (x:=g.g) (by rw [UD];exact B) (by rw [Uj,e];rfl);show (⟨X.long,X.lines.map (·.l),(X.groups.set i g').map (·.g),X.sk.k,X.q,X.dn⟩:PS)=_;rw [I,J];rfl
theorem HT.sw (t:HT K a H X R)(sc:Ft K a a.aF)(gc:EK K a a.aR){w:Str}(m:w=Ud ""\/w∈X.groups.map (·.g.pre)) :
  ∃ p C B D J hs js ts,AS X.cz (.inr w)=some (.ref p)/\C∈a.bR/\(∃ dx fs,H p=some (.ins C dx fs)/\Fs fs B D J)/\CQ K a H p C B D J hs js ts /\
   ((w=Ud ""/\X.sk.ra=B/\X.sk.rb=D/\X.sk.k.hs=hs/\X.sk.k.js=js/\X.sk.k.ts=ts)\/∃(i:Nat)(g:RX),X.groups[i]?=some g/\g.g.pre=w/\w≠Ud ""/\g.ra=B/\g.rb=D/\g.g.hs=hs/\g.g.js=js/\g.g.ts=ts):=by
 by_cases I:w=Ud ""
 .have s:=t.t.jC sc t.ok.sk;obtain ⟨dx,L⟩:=s.ins;exact ⟨_,a.aF,_,_,_,_,_,_,by rw [I];exact t.ok.kW,sc.c.mem,⟨dx,_,L,JV ..⟩,s.r,.inl ⟨I,rfl,rfl,rfl,rfl,rfl⟩⟩
 .have m:=m.resolve_left I;obtain ⟨i,g,h,rfl⟩:=AQ (Kd m);have r:=t.t.gI h gc (t.ok.gr g (Uw h));exact ⟨_,a.aR,_,_,_,_,_,_,t.ok.sR h,gc.mem,r.ins,r,.inr ⟨i,g,h,rfl,I,rfl,rfl,rfl,rfl,rfl⟩⟩
theorem HT.aa1 (t:HT K a H X R){hs':List V}(B:hs'.length=X.sk.k.hs.length):HT K a (upd H X.sk.ra (.lst hs')) { X with sk:={ X.sk with k:={ X.sk.k with hs:=hs' } } } R:=by have f:=t.t.kU;have o:=t.ok.sk;refine ⟨At.swap (At.set (P:=[_]) f),t.ok.jD (.chg (o:=.lst X.sk.k.hs) (f.get (by simp [BP])) rfl) ⟨by show _=hs'.length;rw [B];exact o.lj,by show _=hs'.length;rw [B];exact o.lt,by show _=hs'.length;rw [B];exact o.ls,by show _=hs'.length;rw [B];exact o.lw,by show hs'.length<=_;rw [B];exact o.z⟩⟩
theorem HT.aa2 (t:HT K a H X R){js':List Bool}(B:js'.length=X.sk.k.js.length):HT K a (upd H X.sk.rb (.lst (js'.map V.bl))) { X with sk:={ X.sk with k:={ X.sk.k with js:=js' } } } R:=by have f:=t.t.kU;have o:=t.ok.sk;refine ⟨At.swap (At.set (P:=[_,_]) f),t.ok.jD (.chg (o:=.lst (X.sk.k.js.map V.bl)) (f.get (by simp [BP])) rfl) ⟨by show js'.length=_;rw [B];exact o.lj,o.lt,o.ls,o.lw,o.z⟩⟩
theorem HT.aa3 (t:HT K a H X R)(h:X.groups[i]?=some g){hs':List V}(B:hs'.length=g.g.hs.length):HT K a (upd H g.ra (.lst hs')) { X with groups:=X.groups.set i { g with g:={ g.g with hs:=hs' } } } R:=by have f:=t.t.nY h;have o:=t.ok.gr g (Uw h);refine ⟨At.sO (g:=g) rfl rfl h (At.set (P:=[_]) f),t.ok.setG (.chg (o:=.lst g.g.hs) (f.get (by simp [BX])) rfl) h rfl ⟨by show _=hs'.length;rw [B];exact o.lj,by show _=hs'.length;rw [B];exact o.lt,by show hs'.length<=_;rw [B];exact o.z⟩⟩
theorem HT.aa4 (t:HT K a H X R)(h:X.groups[i]?=some g){js':List Bool}(B:js'.length=g.g.js.length):HT K a (upd H g.rb (.lst (js'.map V.bl))) { X with groups:=X.groups.set i { g with g:={ g.g with js:=js' } } } R:=by have f:=t.t.nY h;have o:=t.ok.gr g (Uw h);refine ⟨At.sO (g:=g) rfl rfl h (At.set (P:=[_,_]) f),t.ok.setG (.chg (o:=.lst (g.g.js.map V.bl)) (f.get (by simp [BX])) rfl) h rfl ⟨by show js'.length=_;rw [B];exact o.lj,o.lt,o.z⟩⟩
structure Wk (H H':Hp)(X X':HX):Prop where
 h:X'.h=X.h
 tp:Ah H H'
theorem HT.frees (t:HT K a H X R)(sc:Ft K a a.aF)(gc:EK K a a.aR){w:Str}{k:Int}(hw:D5 X.S w k) :
  ∃ p C D L I hs js ts,AS X.cz (.inr w)=some (.ref p)/\C∈a.bR/\(∃ dx fs,H p=some (.ins C dx fs)/\Fs fs D L I)/\CQ K a H p C D L I hs js ts/\Cz k hs=true/\hs.getD k.toNat .aa≠.aa /\
   ∃ J:HX,J.S=aB X.S w k/\J.lines=X.lines/\J.h=X.h/\HT K a (upd H D (.lst (hs.set k.toNat .aa))) J R/\Ah H (upd H D (.lst (hs.set k.toNat .aa))):=by
 have m:w=Ud ""\/w∈X.groups.map (·.g.pre):=by
  unfold D5 at hw;by_cases B:w=Ud ""
  .exact .inl B
  .rw [if_neg B] at hw;obtain ⟨g,mg,e,_⟩:=Av hw;obtain ⟨x,O,rfl⟩:=Ag (Ur.mp mg);exact .inr (Ur.mpr ⟨x,O,e⟩)
 obtain ⟨p,C,D,L,I,hs,js,ts,e1,e2,e3,r,⟨B,rfl,rfl,rfl,rfl,rfl⟩ | ⟨i,g,h,rfl,B,rfl,rfl,rfl,rfl,rfl⟩⟩:=t.sw sc gc m
 .unfold D5 at hw;rw [if_pos B] at hw;refine ⟨p,C,_,_,I,_,_,_,e1,e2,e3,r,hw.1,hw.2,{ X with sk:={ X.sk with k:={ X.sk.k with hs:=X.sk.k.hs.set k.toNat .aa } } },?_,rfl,rfl,t.aa1 (hs':=X.sk.k.hs.set k.toNat .aa) (by rw [UE]),.chg r.ha rfl⟩;unfold aB;rw [if_pos B];rfl
 .unfold D5 at hw;rw [if_neg B] at hw;obtain ⟨g2,mg,e,V,Y⟩:=Av hw;obtain ⟨x,O,rfl⟩:=Ag (Ur.mp mg);obtain ⟨j,hj,ej⟩:=Wc O;have bQ:X.groups[j]?=some x:=by rw [Uu hj,ej]
  have eg:x=g:=by
   by_cases ij:i=j
   .subst ij;rw [h] at bQ;cases bQ;rfl
   .exact absurd e.symm (Ek t.ok.pre (i:=i) (j:=j) (by rw [Uj,h];rfl) (by rw [Uj,bQ];rfl) ij)
  subst eg;refine ⟨p,C,_,_,I,_,_,_,e1,e2,e3,r,V,Y,{ X with groups:=X.groups.set i { x with g:={ x.g with hs:=x.g.hs.set k.toNat .aa } } },?_,rfl,rfl,t.aa3 h (hs':=x.g.hs.set k.toNat .aa) (by rw [UE]),.chg r.ha rfl⟩;unfold aB;rw [if_neg B];exact HX.sU (h:=λy=>{ y with hs:=y.hs.set k.toNat .aa }) t.ok.pre h rfl
end
def My (K:T3)(a:Aq):Sp:=λvs H Q _=>∃(X:HX)(R:AH)(i:Nat)(x:LX),vs=[.ref X.h,.ref x.p]/\HT K a H X R/\X.lines[i]?=some x/\cA X.S x.l.held /\
 ∀ H' X' y,HT K a H' X' R->X'.h=X.h->X'.S={ aq X.S x.l.held with lns:=X.S.lns.set i { x.l with held:=[] } }->X'.lines=X.lines.set i y->y.p=x.p->y.l={ x.l with held:=[] }->Ah H H'->Q .aa H'
theorem Rl (S:PS)(w:Str)(k:Int):(aB S w k).lns=S.lns:=by unfold aB;split<;>rfl
theorem GK:∀(ts:List (Str×Int))(S:PS),(aq S ts).lns=S.lns
 | [],_=>rfl
 | t :: ts,S=>(GK ts _).trans (Rl S t.1 t.2)
theorem CK.at {H:Hp}:∀{xs:List Addr}{ps:List (Str×Int)},CK H xs ps->∀{j:Nat}{x:Addr},xs[j]?=some x->∃ p,ps[j]?=some p/\H x=some (.tup [.str p.1,.int p.2])
 | [],[],_,j,x,h=>by simp at h
 | [],_ :: _,h,_,_,_=>h.elim
 | _ :: _,[],h,_,_,_=>h.elim
 | y :: xs,p :: ps,h,0,x,e=>by
  have e:y=x:=by simpa using e
  subst e;exact ⟨p,rfl,h.1⟩
 | y :: xs,p :: ps,h,j+1,x,e=>by
  obtain ⟨q,B,D⟩:=Ag (CK.at h.2 (by simpa using e));exact ⟨q,by simpa using B,D⟩
theorem CK.len {H:Hp}:∀{xs:List Addr}{ps:List (Str×Int)},CK H xs ps->xs.length=ps.length
 | [],[],_=>rfl
 | [],_ :: _,h=>h.elim
 | _ :: _,[],h=>h.elim
 | _ :: _,_ :: _,h=>congrArg Nat.succ (CK.len h.2)
theorem TxtH.cB (T:TxtH P w K mg a):∀ C∈a.bR,CB K C:=λC m=>by
 have m:C∈[a.aF,a.aR]:=m;simp only [Uo,UZ,or_false] at m;rcases m with rfl | rfl
 .exact T.sc.c.cls
 .exact T.gc.cls
theorem Rm:AR ["self","line","where","k"] ["self","line"] (Ab (Af (top 28) 14)):=.of
theorem AfY:Nm (Ab (Af (top 28) 14)) "self":=.of
theorem Rn:Nm (Ab (Af (top 28) 14)) "line":=.of
theorem Ro:Nm (Ab (Af (top 28) 14)) "where":=.of
theorem Rp:Nm (Ab (Af (top 28) 14)) "k":=.of
theorem AfZ (F:AM K "release" "Hall.release" (Af (top 28) 14) f fd)(T:TxtH P w K mg a)(og:∀ C∈a.bR,A2 P w K mg base (AJ P w) 3 C "free" ["self","k"] (Qo K a)):AF P w K mg base (AJ P w) 4 f fd ["self","line"] (My K a):=by
 refine F.bw Rm λah A outer s H vs Q E hr h=>?_
 .replace h:=Cj h;obtain ⟨X,R,i,x,rfl,t,h,ha,q⟩:=h
  have cB:=T.cB;have nd:=Rm.nd;refine ⟨_,(@Aj _ _ _ _ _ (CO vV rfl (Df (AN (Aa 1 Rn) rfl)) (Fb rfl (B9 (Bo 2 nd Ro) (B9 (Bo 3 nd Rp) DT))) (An (Bi (LU og cB (Az P w K (AN (Aa 0 AfY) rfl) (Aa 2 Ro)) hr.d BV (Ac (Aa 3 Rp) Ae)))))
    (An (BR (Aa 1 Rn) (A0 Ae) rfl))),?_⟩
  try dsimp only [av,aw]
  walk_at"";refine A7 x.p a.Line x.dx _ _ rfl (t.t.aM h) T.lc.cls T.lc.he rfl ?_;refine CC x.h rfl ⟨⟨_,.of (t.t.jB h)⟩,DW (K:=K) (a:=x.h) (xs:=x.hv.map V.ref) (λj σ I=>∃ u v B,σ=[some (.ref X.h),some (.ref x.p),u,v]/\HT K a I B R/\B.S=aq X.S (x.l.held.take j)/\B.lines=X.lines/\B.h=X.h/\Ah H I) ⟨none,none,X,rfl,t,rfl,rfl,rfl,.refl⟩ (λj σ I _ ⟨_,_,B,_,D,_,e2,_⟩=>.of (D.t.jB (by rw [e2];exact h))) ?_ ?_⟩
  .intro j v σ I hj J;replace J:=BZ J;obtain ⟨u0,v0,B,rfl,D,Y,eL,eh,tp⟩:=J;have O:=(t.ok.lx i x h).ai tp;rw [Uj] at hj;obtain ⟨pt,hp,rfl⟩:=Ag (UX.mp hj);obtain ⟨pr,hk,et⟩:=Ag (O.pr.at hp);have hw:=Mx ha hk;rw [<- Y] at hw;obtain ⟨p,C,ra,rb,rc,hs,js,ts,e1,e2,⟨dx,fs,e3,e4⟩,rk,w1,w2,X3,e5,e6,e7,t3,gK⟩:=Gh (D.frees T.sc T.gc hw);have hX:I X.h=some (.ins a.ae B.dx (FX B.long B.ld B.sd B.qa B.da)):=by rw [<- eh];exact D.t.aA
   walk_at"";refine CV pt _ rfl (.of et) rfl ?_;walk_at"";refine A7 X.h a.ae B.dx _ _ rfl hX T.hc.cls T.hc.sw rfl ?_;walk_at"";refine ⟨B.sd,_,.inr pr.1,_,rfl,rfl,.of D.t.sd,e1,?_⟩;refine Ao p C dx fs rfl e2 e3 (e4.m _ (by decide)) ?_;walk_at"";refine ⟨p,pr.2,C,ra,rb,rc,hs,js,ts,rfl,rk,?_⟩;rw [if_pos ⟨w1,w2⟩];walk_at"";have oi:x.l.held.take (j+1)=x.l.held.take j++[pr]:=by rw [VQ,hk];rfl
   exact ⟨_,_,X3,rfl,t3,by rw [oi,Mw,e5,Y],e6.trans eL,e7.trans eh,tp.trans gK⟩
  .intro σ I J;replace J:=BZ J;obtain ⟨u0,v0,B,rfl,D,Y,eL,eh,tp⟩:=J;rw [T7,(t.ok.lx i x h).pr.len,VL] at Y;have L:B.lines[i]?=some x:=by rw [eL];exact h
   walk_at"";refine ⟨Ax,λl nl=>?_⟩;walk_at"";refine Bn x.p a.Line x.dx _ rfl (by rw [Au (B6 (D.t.aM L) nl)];exact D.t.aM L) T.lc.cls T.lc.he (Vo rfl) ?_;have O:=D.ok.lx i x L;have gK:Ah I (upd (upd I l (.lst [])) x.p (.ins a.Line x.dx { x with h:=l,hv:=[],l:={ x.l with held:=[] } }.fs)):=Ah.trans (.new nl) (.chg (o:=.ins a.Line x.dx x.fs) (by rw [Au (B6 (D.t.aM L) nl)];exact D.t.aM L) rfl);refine q _ { B with lines:=B.lines.set i { x with h:=l,hv:=[],l:={ x.l with held:=[] } } } { x with h:=l,hv:=[],l:={ x.l with held:=[] } } ⟨At.aaZ (y:={ x with h:=l,hv:=[],l:={ x.l with held:=[] } }) D.t L nl rfl rfl rfl rfl rfl,D.ok.bU gK L rfl ⟨O.i,trivial,Is.ai _ O.wt O.w gK,O.wt,by simp⟩⟩ eh ?_ (by rw [eL]) rfl rfl (tp.trans gK);have:({ B with lines:=B.lines.set i { x with h:=l,hv:=[],l:={ x.l with held:=[] } } }:HX).S={ B.S with lns:=B.S.lns.set i { x.l with held:=[] } }:=by show (⟨B.long,(B.lines.set i _).map (·.l),_,_,_,_⟩:PS)=_;rw [Vn];rfl
   rw [this,Y,GK]
noncomputable def AI (ln:Ln)(st:Str):Ln:={ ln with st:=st,ao:="",az:=0,ag:=none,why:=.none }
structure BC (K:T3)(H:Hp)(xs:List Addr)(ds:List PyData):Prop where
 i:aX K H (xs.map V.ref) ds
 t:dX ds=true
theorem Rq {K:T3}{H:Hp}:∀{xs ys:List V}{ds es:List PyData},aX K H xs ds->aX K H ys es->aX K H (xs++ys) (ds++es)
 | [],_,_,_,.nil,h=>h
 | _ :: _,_,_,_,.cons a b,h=>.cons a (Rq b h)
theorem Rr {K:T3}{H:Hp}:∀{xs:List V}{ds:List PyData},aX K H xs ds->xs.length=ds.length
 | [],_,.nil=>rfl
 | _ :: _,_,.cons _ b=>congrArg Nat.succ (Rr b)
theorem Rt:∀{ds es:List PyData},dX ds=true->dX es=true->dX (ds++es)=true
 | [],_,_,h=>h
 | d :: ds,es,a,h=>by
  have a:(Dj d && dX ds)=true:=a;rw [Wj] at a;show (Dj d && dX (ds++es))=true;rw [a.1,Rt a.2 h];rfl
section
variable {K:T3}{a:Aq}{H H':Hp}{X:HX}{R:AH}{i:Nat}{x y:LX}{xs ys:List Addr}{ds es:List PyData}
theorem BC.ai (t:BC K H xs ds)(s:Ah H H'):BC K H' xs ds:=⟨aX.ai _ t.t t.i s,t.t⟩
theorem BC.app (t:BC K H xs ds)(u:BC K H ys es):BC K H (xs++ys) (ds++es):=⟨by rw [Uy];exact Rq t.i u.i,Rt t.t u.t⟩
theorem BC.nil:BC K H [] []:=⟨.nil,rfl⟩
theorem BC.one {b:Addr}{d:PyData}(h:Is K H (.ref b) d)(t:Dj d=true):BC K H [b] [d]:=⟨.cons h .nil,by show (Dj d && true)=true;rw [t];rfl⟩
theorem BC.len (t:BC K H xs ds):xs.length=ds.length:=by have:=Rr t.i;rwa [T7] at this
theorem HX.sV:({ X with lines:=X.lines.set i y }:HX).S={ X.S with lns:=X.S.lns.set i y.l }:=by show (⟨X.long,(X.lines.set i _).map (·.l),_,_,_,_⟩:PS)=_;rw [Vn];rfl
theorem HT.bU (t:HT K a H X R)(h:X.lines[i]?=some x)(y:LX)(ep:y.p=x.p)(O:y.dx=x.dx)(V:y.h=x.h)(I:y.hv=x.hv)(Y:y.i=x.i)(J:y.l.num=x.l.num)(L:y.l.held=x.l.held)(w:Is K H y.wv y.l.why)(wt:Dj y.l.why=true) :
  HT K a (upd H x.p (.ins a.Line x.dx y.fs)) { X with lines:=X.lines.set i y } R/\Ah H (upd H x.p (.ins a.Line x.dx y.fs)):=by
 have B:Ah H (upd H x.p (.ins a.Line x.dx y.fs)):=.chg (t.t.aM h) rfl;have D:=t.ok.lx i x h;exact ⟨⟨t.t.bU h ep O V I J,t.ok.bU B h J ⟨Y.trans D.i,by rw [I,L];exact D.pr.ai B,Is.ai _ wt w B,wt,by rw [L];exact D.aE⟩⟩,B⟩
theorem HT.turn (t:HT K a H X R)(h:X.lines[i]?=some x)(st:Str) :
  HT K a (upd H x.p (.ins a.Line x.dx (CF x.l.num x.i x.h st "" 0 .aa .aa))) { X with lines:=X.lines.set i { x with wv:=.aa,l:=AI x.l st } } R/\Ah H (upd H x.p (.ins a.Line x.dx (CF x.l.num x.i x.h st "" 0 .aa .aa))) :=
 t.bU h { x with wv:=.aa,l:=AI x.l st } rfl rfl rfl rfl rfl rfl rfl .aa rfl
theorem HT.cM (t:HT K a H X R)(B:List Str):HT K a (upd H X.qa (.lst (B.map V.str))) { X with q:=B } R/\Ah H (upd H X.qa (.lst (B.map V.str))):=by have D:Ah H (upd H X.qa (.lst (B.map V.str))):=.chg t.t.q rfl;exact ⟨⟨t.t.cM,⟨t.ok.num,t.ok.pre,t.ok.ne,λi x h=>(t.ok.lx i x h).ai D,t.ok.gr,t.ok.sk⟩⟩,D⟩
theorem At.k6 {r:Addr}{o o':HO}(t:At H (AZ a X ((r,o) :: R))):At (upd H r o') (AZ a X ((r,o') :: R)):=by unfold AZ at t ⊢;rw [<- Uv,<- Uv,<- Uv] at t ⊢;exact t.set
theorem HT.k6 {r:Addr}{o o':HO}(t:HT K a H X ((r,o) :: R))(k:Ik o=false):HT K a (upd H r o') X ((r,o') :: R)/\Ah H (upd H r o'):=by have B:Ah H (upd H r o'):=.chg (t.t.rest.hd) k;exact ⟨⟨t.t.k6,t.ok.ai B⟩,B⟩
theorem HT.at (t:HT K a H X R){ln:Ln}(h:X.S.lns[i]?=some ln):∃ x,X.lines[i]?=some x/\x.l=ln:=by have h:(X.lines.map (·.l))[i]?=some ln:=h;rw [Uj] at h;exact UX.mp h
theorem Cr {α:Type}{l:List α}{i:Nat}{x y:α}(h:l[i]?=some x):(l.set i y)[i]?=some y:=Xy (US.mp h).1
end
noncomputable def EN (S:PS)(i:Nat)(ln:Ln):PS:={ S with lns:=S.lns.set i (AI ln "waits"),q:=S.q++[ln.num] }
def Mz (K:T3)(a:Aq):Sp:=λvs H Q _=>∃(X:HX)(R:AH)(i:Nat)(x:LX),vs=[.ref X.h,.ref x.p]/\HT K a H X R/\X.lines[i]?=some x/\X.q.length<1000 /\
 ∀ H' X' y b,HT K a H' X' R->X'.h=X.h->X'.S=EN X.S i x.l->X'.lines=X.lines.set i y->y.p=x.p->y.l=AI x.l "waits"->Ah H H'->H' b=some (.tup [.str "waits",.str x.l.num])->Q (.ref b) H'
theorem Af0:AR ["self","line"] ["self","line"] (Ab (Af (top 28) 13)):=.of
theorem Af1:Nm (Ab (Af (top 28) 13)) "self":=.of
theorem MA:Nm (Ab (Af (top 28) 13)) "line":=.of
theorem Af2 (F:AM K "wait" "Hall.wait" (Af (top 28) 13) f fd)(T:TxtH P w K mg a)(eZ:A2 P w K mg base AB 1 a.Line "turn" ["self","state"] (GI a)):AF P w K mg base AB 2 f fd ["self","line"] (Mz K a):=by
 refine F.ok Af0 λah A outer s H vs Q E hr h=>?_
 .replace h:=Cj h;obtain ⟨X,R,i,x,rfl,t,h,qz,q⟩:=h
  have fh:=T.lc.cls;refine ⟨_,(@Aj _ _ _ _ _ (Bi (Bs eZ fh (Aa 1 MA) hr.d A3 (Ac Ak Ae)))
    (Aj (Bi (Cm Ve Vy Vz C7 (AN (Aa 0 Af1) rfl) (Ac (AN (Aa 1 MA) rfl) Ae)))
    (An (AO (BN (Ac Ak (Ac (AN (Aa 1 MA) rfl) Ae))))))),?_⟩
  try dsimp only [av,aw]
  walk_at"";refine Bm x.p x.dx _ rfl (t.t.aM h) rfl ?_;walk_at"";refine HB x.p x.dx x.l.num x.i x.h ("waits") _ rfl ⟨t.t.aM h,.inr ⟨_,_,_,_,_,rfl⟩,?_⟩;obtain ⟨D,L⟩:=t.turn h "waits";have O:(X.lines.set i { x with wv:=.aa,l:=AI x.l "waits" })[i]?=some { x with wv:=.aa,l:=AI x.l "waits" }:=Cr h;generalize upd H x.p (.ins a.Line x.dx (CF x.l.num x.i x.h "waits" "" 0 .aa .aa))=B at D L ⊢;have l1:B x.p=some (.ins a.Line x.dx (CF x.l.num x.i x.h "waits" "" 0 .aa .aa)):=D.t.aM O;have Y:B X.qa=some (.lst (X.q.map V.str)):=D.t.q;walk_at"";refine A7 X.h a.ae X.dx _ _ rfl D.t.aA T.hc.cls T.hc.qu rfl ?_;refine ⟨.inl ⟨rfl,_,.of Y⟩,?_⟩;walk_at"";refine A7 x.p a.Line x.dx _ _ rfl l1 T.lc.cls T.lc.nu rfl ?_;walk_at"";refine B1 X.qa _ _ rfl rfl Y (by rw [T7,Uc];omega) ?_;rw [show X.q.map V.str++[V.str x.l.num]=(X.q++[x.l.num]).map V.str by rw [Uy];rfl];obtain ⟨I,J⟩:=D.cM (X.q++[x.l.num]);have I:HT K a (upd B X.qa (.lst ((X.q++[x.l.num]).map V.str))) { X with lines:=X.lines.set i { x with wv:=.aa,l:=AI x.l "waits" },q:=X.q++[x.l.num] } R:=I;have J:Ah B (upd B X.qa (.lst ((X.q++[x.l.num]).map V.str))):=J;generalize upd B X.qa (.lst ((X.q++[x.l.num]).map V.str))=H2 at I J ⊢;have l2:H2 x.p=some (.ins a.Line x.dx (CF x.l.num x.i x.h "waits" "" 0 .aa .aa)):=I.t.aM O;walk_at"";refine A7 x.p a.Line x.dx _ _ rfl l2 T.lc.cls T.lc.nu rfl ?_;walk_at"";refine ⟨Ax,λb nb=>?_⟩;have s3:=(Ai.refl H2).upd (o:=.tup [.str "waits",.str x.l.num]) nb;refine q _ _ _ b (I.same s3) rfl ?_ rfl rfl rfl (L.trans (J.trans (.of s3))) Al;show (⟨X.long,(X.lines.set i _).map (·.l),_,_,_,_⟩:PS)=_;rw [Vn];rfl
noncomputable def Bp (lns:List Ln)(z:Str):Nat:=(lns.map (·.num)).idxOf z
theorem MB {lns:List Ln}{z:Str}(h:z∈lns.map (·.num)):∃ ln,lns[Bp lns z]?=some ln/\ln.num=z:=by have e:=Lv h;rw [Uj] at e;obtain ⟨ln,B,D⟩:=Ag (UX.mp e);exact ⟨ln,B,D⟩
noncomputable def aK (s:Sk)(k:Int)(i:Nat):Sk:={ s with hs:=s.hs.set k.toNat (.int i),ts:=s.ts.set k.toNat (s.ts.getD k.toNat 0+1),mark:=(k+1) % s.hs.length,st:=s.st.set k.toNat i,wt:=s.wt.set k.toNat (s.wt.getD k.toNat 0+((i:Int) - s.st.getD k.toNat 0) % s.places) }
noncomputable def Dk (S:PS):Option (PyData×PS):=match S.q with
 | []=>none
 | z :: r=>match Di S.sk.hs S.sk.js S.sk.mark with
  | none=>none
  | some k=>match S.lns[Bp S.lns z]? with
   | none=>none
   | some ln=>some (.tuple [.str "tone",.str z,.int k,.int (((Bp S.lns z:Int) - S.sk.st.getD k.toNat 0) % S.sk.places)],{ S with q:=r,lns:=S.lns.set (Bp S.lns z) { AI ln "dials" with held:=ln.held++[((Ud ""),k)] },sk:=aK S.sk k (Bp S.lns z) })
noncomputable def aC:Nat->PS->List PyData×PS
 | 0,S=>([],S)
 | n+1,S=>match Dk S with
  | none=>([],S)
  | some x=>(x.1 :: (aC n x.2).1,(aC n x.2).2)
noncomputable def B3 (S:PS):List PyData×PS:=aC S.q.length S
structure DE (S:PS):Prop where
 nd:S.q.Nodup
 ln:∀ z∈S.q,∃ ln∈S.lns,ln.num=z/\ln.held=[]
 num:(S.lns.map (·.num)).Nodup
 m0:0<=S.sk.mark
 m1:S.sk.mark<=S.sk.hs.length
 pl:0<S.sk.places
 aE:S.q.length<=100
theorem EO {lns:List Ln}(B:(lns.map (·.num)).Nodup){i j:Nat}{x y:Ln}(D:lns[i]?=some x)(H:lns[j]?=some y)(ne:i≠j):x.num≠y.num :=
 Ek B (i:=i) (j:=j) (by rw [Uj,D];rfl) (by rw [Uj,H];rfl) ne
theorem MC {lns:List Ln}(B:(lns.map (·.num)).Nodup){i:Nat}{ln:Ln}(h:lns[i]?=some ln):Bp lns ln.num=i:=by
 obtain ⟨D,f1,f2⟩:=MB (lns:=lns) (z:=ln.num) (Ur.mpr ⟨ln,Uw h,rfl⟩);by_cases e:Bp lns ln.num=i
 .exact e
 .exact absurd f2 (EO B f1 h e)
theorem DE.idx {S:PS}(h:DE S){z:Str}(m:z∈S.q):∃ ln,S.lns[Bp S.lns z]?=some ln/\ln.num=z/\ln.held=[]:=by
 obtain ⟨B,H,m2,I⟩:=Av (h.ln z m);obtain ⟨j,J,L⟩:=Wc H;have D:S.lns[j]?=some B:=by rw [Uu J,L]
 exact ⟨B,by rw [<- m2,MC h.num D];exact D,m2,I⟩
theorem MD {S:PS}{x:PyData×PS}(q:DE S)(e:Dk S=some x):∃ z r k ln,S.q=z :: r/\Di S.sk.hs S.sk.js S.sk.mark=some k/\S.lns[Bp S.lns z]?=some ln/\ln.num=z/\ln.held=[] /\
  x=(.tuple [.str "tone",.str z,.int k,.int (((Bp S.lns z:Int) - S.sk.st.getD k.toNat 0) % S.sk.places)],{ S with q:=r,lns:=S.lns.set (Bp S.lns z) { AI ln "dials" with held:=ln.held++[((Ud ""),k)] },sk:=aK S.sk k (Bp S.lns z) }):=by
 unfold Dk at e;cases eq:S.q with
 | nil=>rw [eq] at e;cases e
 | cons z r =>
  rw [eq] at e;dsimp only at e;cases ef:Di S.sk.hs S.sk.js S.sk.mark with
  | none=>rw [ef] at e;cases e
  | some k =>
   rw [ef] at e;dsimp only at e;obtain ⟨ln,B,D,H⟩:=Av (q.idx (z:=z) (by rw [eq];simp));rw [B] at e;exact ⟨z,r,k,ln,rfl,rfl,B,D,H,(UK e).symm⟩
theorem Ru {S:PS}{z:Str}{r:List Str}{k:Int}{ln:Ln}(B:S.q=z :: r)(D:Di S.sk.hs S.sk.js S.sk.mark=some k)(H:S.lns[Bp S.lns z]?=some ln):Dk S=some (.tuple [.str "tone",.str z,.int k,.int (((Bp S.lns z:Int) - S.sk.st.getD k.toNat 0) % S.sk.places)],{ S with q:=r,lns:=S.lns.set (Bp S.lns z) { AI ln "dials" with held:=ln.held++[((Ud ""),k)] },sk:=aK S.sk k (Bp S.lns z) }):=by unfold Dk;rw [B];dsimp only;rw [D];dsimp only;rw [H]
theorem Ke {α:Type}{l:List α}{i j:Nat}{x y:α}(h:i<l.length):(l.set i x)[j]?=some y↔(i=j/\x=y)\/(i≠j/\l[j]?=some y):=by
 rw [vX];by_cases e:i=j
 .subst e;rw [if_pos rfl,if_pos h];exact ⟨λz=>.inl ⟨rfl,UK z⟩,λz=>z.elim (λw=>by rw [w.2]) λw=>absurd rfl w.1⟩
 .rw [if_neg e];exact ⟨λz=>.inr ⟨e,z⟩,λz=>z.elim (λw=>absurd w.1 e) λw=>w.2⟩
theorem DE.next {S:PS}{x:PyData×PS}(h:DE S)(e:Dk S=some x):DE x.2/\x.2.q.length+1=S.q.length:=by
 obtain ⟨z,r,k,ln,B,O,D,V,e5,rfl⟩:=Dd (MD h e);obtain ⟨⟨k0,k1⟩,_⟩:=Ii h.m0 h.m1 O;have H:=h.nd;rw [B] at H;obtain ⟨Y,om⟩:=UH.mp H;have fw:=h.aE;rw [B,Vf] at fw;have il:=(US.mp D).1;refine ⟨⟨om,λy I=>?_,?_,VI _ (by omega),?_,h.pl,by show r.length<=100;omega⟩,by rw [B];simp⟩
 .obtain ⟨J,m1,m2,m3⟩:=Av (h.ln y (by rw [B];exact UO _ I));obtain ⟨j,hj,ej⟩:=Wc m1;have L:S.lns[j]?=some J:=by rw [Uu hj,ej]
  refine ⟨J,Uw (i:=j) ((Ke il).mpr (.inr ⟨λd=>?_,L⟩)),m2,m3⟩;rw [d,L] at D;cases D;exact Y (by rw [<- V,m2];exact I)
 .show ((S.lns.set _ _).map _).Nodup;rw [Du (f:=λx:Ln=>x.num) (y:={ AI ln "dials" with held:=ln.held++[((Ud ""),k)] }) D rfl];exact h.num
 .show (k+1) % (S.sk.hs.length:Int)<=((S.sk.hs.set k.toNat _).length:Nat);rw [UE];exact Y4 (VJ _ (by omega))
def Rv (K:T3)(a:Aq):Sp:=λvs H Q _=>∃(X:HX)(R:AH),vs=[.ref X.h]/\HT K a H X R/\DE X.S /\
 ∀ H' X' r xs,X'.h=X.h->X'.S=(B3 X.S).2->HT K a H' X' ((r,.lst (xs.map V.ref)) :: R)->Ah H H'->BC K H' xs (B3 X.S).1->Q (.ref r) H'
theorem HT.seek {H B:Hp}{X:HX}{R:AH}(t:HT K a H X R){k:Int}{i:Nat}(hk:0<=k/\k<X.sk.k.hs.length)(s:CA [X.sk.p,X.sk.ra,X.sk.rc,X.sk.rs,X.sk.rw] H B)(e:D4 K a B X.sk.p a.aF X.sk.ra X.sk.rb X.sk.rc X.sk.rs X.sk.rw (aK X.sk.k k i).hs (aK X.sk.k k i).js (aK X.sk.k k i).ts (aK X.sk.k k i).places (aK X.sk.k k i).mark (aK X.sk.k k i).st (aK X.sk.k k i).wt) :
  ∃ dx',HT K a B { X with sk:={ X.sk with k:=aK X.sk.k k i,dx:=dx' } } R/\Ah H B:=by
 obtain ⟨dx,I⟩:=e.ins;obtain ⟨u,D⟩:=t.t.jD (k':=aK X.sk.k k i) (dx':=dx) s (λw m=>by simp only [Uo,UZ,or_false] at m;rcases m with z | z | z | z | z<;>simp [BP,z]) I e.ha e.hb e.hc e.gG e.hw;exact ⟨dx,⟨u,t.ok.jD D ⟨e.lj,e.lt,e.ls,e.lw,e.z⟩⟩,D⟩
theorem HT.nX {H:Hp}{X:HX}{R:AH}{i:Nat}{x:LX}(t:HT K a H X R)(h:X.lines[i]?=some x){u:Addr}{D:Str}{k:Int}(e:H u=some (.tup [.str D,.int k]))(O:x.l.held.length<=9) :
  HT K a (upd H x.h (.lst (x.hv.map V.ref++[V.ref u]))) { X with lines:=X.lines.set i { x with hv:=x.hv++[u],l:={ x.l with held:=x.l.held++[(D,k)] } } } R/\Ah H (upd H x.h (.lst (x.hv.map V.ref++[V.ref u]))):=by
 have I:Ah H (upd H x.h (.lst (x.hv.map V.ref++[V.ref u]))):=.chg (t.t.jB h) rfl;have J:=(t.ok.lx i x h).ai I;have B:∀{L:List Addr}{B:List (Str×Int)}{H:Hp},CK H L B->H u=some (.tup [.str D,.int k])->CK H (L++[u]) (B++[(D,k)]):=λ{L}=>by
  induction L with
  | nil=>intro B H h e;cases B with | nil=>exact ⟨e,trivial⟩ | cons _ _=>exact h.elim
  | cons y ys ih=>intro B H h e;cases B with | nil=>exact h.elim | cons _ _=>exact ⟨h.1,ih h.2 e⟩
 exact ⟨⟨At.nX (y:={ x with hv:=x.hv++[u],l:={ x.l with held:=x.l.held++[(D,k)] } }) t.t h rfl rfl rfl rfl rfl rfl,t.ok.bU I h rfl ⟨J.i,B J.pr (I.t e),J.w,J.wt,by show (x.l.held++[_]).length<=10;rw [U2,Vv];omega⟩⟩,I⟩
theorem Rw:AR ["self","told","line","taken","k","steps"] ["self"] (Ab (Af (top 28) 15)):=.of
theorem Iq:Nm (Ab (Af (top 28) 15)) "self":=.of
theorem Kf:Nm (Ab (Af (top 28) 15)) "told":=.of
theorem Ir:Nm (Ab (Af (top 28) 15)) "line":=.of
theorem ME:Nm (Ab (Af (top 28) 15)) "taken":=.of
theorem MF:Nm (Ab (Af (top 28) 15)) "k":=.of
theorem Rx:Nm (Ab (Af (top 28) 15)) "steps":=.of
theorem Ry:Gm (Ab (Af (top 28) 15)) "AT_SEEKERS":=.of
theorem Af3 (F:AM K "tones" "Hall.tones" (Af (top 28) 15) f fd)(T:TxtH P w K mg a)(eZ:A2 P w K mg base AB 1 a.Line "turn" ["self","state"] (GI a))(aa5:A2 P w K mg base AB 2 a.aF "take" ["self","place"] (QM K a)):AF P w K mg base AB 3 f fd ["self"] (Rv K a):=by
 refine F.ok Rw λah A outer s H vs Q E hr h=>?_
 .replace h:=AY h;obtain ⟨X0,R,rfl,t0,sW,q⟩:=h
  have fh:=T.lc.cls;have aa6:=T.sc.c.cls;have hu:=hr.units;have nd:=Rw.nd;refine ⟨_,(@Aj _ _ _ _ _ (A1 1 nd Kf (A0 Ae))
    (Aj (Oe Vp (AaX (AN (Aa 0 Iq) rfl) (by intro _;rfl)) (Aj (A1 2 nd Ir (Az P w K (AN (Aa 0 Iq) rfl) (AK AL (AN (Aa 0 Iq) rfl) Am (λ_ _=>rfl))))
     (Aj (A1 3 nd ME (Bs aa5 aa6 (Az P w K (AN (Aa 0 Iq) rfl) (GG Ry T.iq)) hr.d A3 (Ac (AN (Aa 2 Ir) rfl) Ae)))
     (Aj (Ba (A5 FG (Aa 3 ME) Ck (Bb _)) (An (AO (Aa 1 Kf))) Be)
     (Aj (DU (Aa 3 ME) (Fb rfl (B9 (Bo 4 nd MF) (B9 (Bo 5 nd Rx) DT))))
     (Aj (Bi (Cm Ve yn yo OY (AN (Aa 0 Iq) rfl) (Ac Am Ae)))
     (Aj (Bi (Bs eZ fh (Aa 2 Ir) hr.d A3 (Ac Ak Ae)))
     (Aj (Bi (Cm Ve Vy Vz C7 (AN (Aa 2 Ir) rfl) (Ac (BN (Ac (GG Ry T.iq) (Ac (Aa 4 MF) Ae))) Ae)))
     (An (Bi (Cm Ve Vy Vz C7 (Aa 1 Kf) (Ac (BN (Ac Ak (Ac (AN (Aa 2 Ir) rfl) (Ac (Aa 4 MF) (Ac (Aa 5 Rx) Ae))))) Ae))))))))))))
    (An (AO (Aa 1 Kf))))),?_⟩
  try dsimp only [av,aw]
  have aS:AW ["self","told","line","taken","k","steps"] [V.ref X0.h]=[some (.ref X0.h),none,none,none,none,none]:=rfl;simp only [aS,VM,VN];walk_at"";refine ⟨Ax,λr nr=>?_⟩;have t1:=t0.new (u:=.lst (([]:List Addr).map V.ref)) nr;have p1:Ah H (upd H r (.lst [])):=.new nr;change HT K a (upd H r (.lst [])) X0 _ at t1;generalize upd H r (.lst [])=H1 at t1 p1 ⊢;walk_at"";refine ⟨λm σ O=>∃ x2 x3 x4 x5 B D ds,σ=[some (.ref X0.h),some (.ref r),x2,x3,x4,x5]/\B.h=X0.h/\HT K a O B ((r,.lst (D.map V.ref)) :: R)/\DE B.S/\Ah H O/\BC K O D ds/\m=B.q.length/\D.length+m<=100/\B3 X0.S=(ds++(aC m B.S).1,(aC m B.S).2),⟨X0.q.length,none,none,none,none,X0,[],[],rfl,rfl,t1,sW,p1,.nil,rfl,(by have:=sW.aE;show 0+X0.S.q.length<=_;omega),by rw [ZC];rfl⟩,?_⟩;intro m σ O zq;replace zq:=Hh zq;obtain ⟨x2,x3,x4,x5,B,D,ds,rfl,eh,I,Y,oo,gL,rfl,eQ,L⟩:=zq;have hX:O X0.h=some (.ins a.ae B.dx (FX B.long B.ld B.sd B.qa B.da)):=by rw [<- eh];exact I.t.aA
  walk_at"";refine A7 X0.h a.ae B.dx _ _ rfl hX T.hc.cls T.hc.qu rfl ?_;refine ⟨_,.inl ⟨_,.of I.t.q,rfl⟩,?_⟩;cases eq:B.q with
  | nil =>
   have e0:B3 X0.S=(ds,B.S):=by rw [L,eq];show (ds++[],B.S)=_;rw [Vu]
   refine Cn ?_;walk_at"";exact q O B r D eh (by rw [e0]) I oo (by rw [e0];exact gL)
  | cons z J =>
   refine Co ?_;rw [eq] at L eQ;have oq:B.S.q=z :: J:=eq;obtain ⟨ln,i1,i2,i3⟩:=Av (Y.idx (z:=z) (by rw [oq];simp));generalize hi:Bp B.S.lns z=i at i1;obtain ⟨x,hx,rfl⟩:=Ag (I.at i1);have hv:=I.ok.line hx;rw [i2] at hv;have lx:=I.ok.lx i x hx;have qa0:Cu (B.q.map V.str) 0=some (.str z):=C4 (j:=0) (by rw [eq];rfl);have sk:=I.t.jC T.sc I.ok.sk;obtain ⟨ot,se⟩:=sk.ins;refine ⟨λσ' H'=>∃ m',m'<J.length+1/\∃ x2 x3 x4 x5 B D ds,σ'=[some (.ref X0.h),some (.ref r),x2,x3,x4,x5]/\B.h=X0.h/\HT K a H' B ((r,.lst (D.map V.ref)) :: R)/\DE B.S/\Ah H H'/\BC K H' D ds/\m'=B.q.length/\D.length+m'<=100/\B3 X0.S=(ds++(aC m' B.S).1,(aC m' B.S).2),λσ' H' h=>h,?_⟩;walk_at"";refine A7 X0.h a.ae B.dx _ _ rfl hX T.hc.cls T.hc.li rfl ?_;walk_at"";refine A7 X0.h a.ae B.dx _ _ rfl hX T.hc.cls T.hc.qu rfl ?_;walk_at"";refine Uh (Bw (.of I.t.q) qa0 ?_);refine Ao B.ld _ (.inr z) _ rfl rfl (.of I.t.ld) hv ?_;walk_at"";refine A7 X0.h a.ae B.dx _ _ rfl hX T.hc.cls T.hc.sw rfl ?_;walk_at"";refine Ao B.sd _ (.inr "") _ rfl rfl (.of I.t.sd) I.ok.kW ?_;walk_at"";refine Bm B.sk.p ot _ rfl se rfl ?_;walk_at"";refine A7 x.p a.Line x.dx _ _ rfl (I.t.aM hx) T.lc.cls T.lc.pl rfl ?_;walk_at"";refine ⟨B.sk.p,a.aF,B.sk.ra,B.sk.rb,B.sk.rc,B.sk.rs,B.sk.rw,B.sk.k.hs,B.sk.k.js,B.sk.k.ts,B.sk.k.places,B.sk.k.mark,B.sk.k.st,B.sk.k.wt,x.i,rfl,sk,Y.m0,Y.m1,Y.pl,?_⟩;cases ef:Di B.sk.k.hs B.sk.k.js B.sk.k.mark with
   | none =>
    intro H3 s3;have et:Dk B.S=none:=by unfold Dk;rw [oq];dsimp only;rw [show Di B.S.sk.hs B.S.sk.js B.S.sk.mark=none from ef]
    have e0:B3 X0.S=(ds,B.S):=by rw [L];show (ds++(aC (J.length+1) B.S).1,(aC (J.length+1) B.S).2)=_;unfold aC;rw [et];dsimp only;rw [Vu]
    walk_at"";exact q H3 B r D eh (by rw [e0]) (I.same s3) (oo.trans (.of s3)) (by rw [e0];exact gL.ai (.of s3))
   | some k =>
    rw [lx.i];intro H3 tk sx ntk gw aa7;obtain ⟨hk,_⟩:=Ii Y.m0 Y.m1 ef;have et:=Ru (ln:=x.l) oq ef (by rw [hi];exact i1);rw [hi] at et;have ok3:=(Y.next et).1;have gw:H3 tk=some (.tup [.int k,.int (((i:Int) - B.S.sk.st.getD k.toNat 0) % B.S.sk.places)]):=gw;generalize ((i:Int) - B.S.sk.st.getD k.toNat 0) % B.S.sk.places=VD at gw et;obtain ⟨ou,t3,p3⟩:=Ag (I.seek hk sx aa7);have hX3:H3 X0.h=some (.ins a.ae B.dx (FX B.long B.ld B.sd B.qa B.da)):=by rw [<- eh];exact t3.t.aA
    have q3:H3 B.qa=some (.lst (B.q.map V.str)):=t3.t.q;walk_at"";refine CV tk _ rfl (.of gw) rfl ?_;walk_at"";refine A7 X0.h a.ae B.dx _ _ rfl hX3 T.hc.cls T.hc.qu rfl ?_;refine ⟨.inl ⟨rfl,_,.of q3⟩,?_⟩;walk_at"";refine C8 B.qa _ 0 0 (.str z) rfl ⟨rfl,q3,(by decide),(by decide),(by rw [eq,Vd,Vf];unfold Ya;simp),(by rw [eq];rfl),?_⟩;rw [show (B.q.map V.str).eraseIdx 0=J.map V.str by rw [eq];rfl];obtain ⟨t4,p4⟩:=t3.cM J;generalize sX:upd H3 B.qa (.lst (J.map V.str))=H4 at t4 p4 ⊢;clear sX
    have l4:=t4.t.aM hx;walk_at"";refine Bm x.p x.dx _ rfl l4 rfl ?_;walk_at"";refine HB x.p x.dx x.l.num x.i x.h ("dials") _ rfl ⟨l4,.inr ⟨_,_,_,_,_,rfl⟩,?_⟩;obtain ⟨t5,p5⟩:=t4.turn hx "dials";have h5:(B.lines.set i { x with wv:=.aa,l:=AI x.l "dials" })[i]?=some { x with wv:=.aa,l:=AI x.l "dials" }:=Cr hx;generalize upd H4 x.p (.ins a.Line x.dx (CF x.l.num x.i x.h "dials" "" 0 .aa .aa))=H5 at t5 p5 ⊢;have l5:H5 x.p=some (.ins a.Line x.dx (CF x.l.num x.i x.h "dials" "" 0 .aa .aa)):=(by have z:=t5.t.aM h5;exact z);have sY:H5 x.h=some (.lst (x.hv.map V.ref)):=(by have z:=t5.t.jB h5;exact z);have hv0:x.hv.length=0:=by rw [lx.pr.len,i3];rfl
    walk_at"";refine A7 x.p a.Line x.dx _ _ rfl l5 T.lc.cls T.lc.he rfl ?_;refine ⟨.inl ⟨rfl,_,.of sY⟩,?_⟩;walk_at"";refine ⟨Ax,λu nu=>?_⟩;have s6:=(Ai.refl H5).upd (o:=.tup [.str "",.int k]) nu;have e6:(upd H5 u (.tup [.str "",.int k])) u=some (.tup [.str "",.int k]):=Al;generalize upd H5 u (.tup [.str "",.int k])=H6 at s6 e6 ⊢;have t6:=t5.same s6;walk_at"";refine B1 x.h _ _ rfl rfl (s6 _ _ sY) (by rw [T7,hv0,Uc];decide) ?_;obtain ⟨t7,p7⟩:=t6.nX h5 e6 (by show x.l.held.length<=9;rw [i3];decide);have h7:((B.lines.set i { x with wv:=.aa,l:=AI x.l "dials" }).set i { x with wv:=.aa,hv:=x.hv++[u],l:={ AI x.l "dials" with held:=x.l.held++[(Ud "",k)] } })[i]?=some { x with wv:=.aa,hv:=x.hv++[u],l:={ AI x.l "dials" with held:=x.l.held++[(Ud "",k)] } }:=Cr h5;have t7:HT K a (upd H6 x.h (.lst (x.hv.map V.ref++[V.ref u]))) { B with sk:={ B.sk with k:=aK B.sk.k k i,dx:=ou },q:=J,lines:=(B.lines.set i { x with wv:=.aa,l:=AI x.l "dials" }).set i { x with wv:=.aa,hv:=x.hv++[u],l:={ AI x.l "dials" with held:=x.l.held++[(Ud "",k)] } } } ((r,.lst (D.map V.ref)) :: R):=t7;have p7:Ah H6 (upd H6 x.h (.lst (x.hv.map V.ref++[V.ref u]))):=p7;generalize upd H6 x.h (.lst (x.hv.map V.ref++[V.ref u]))=H7 at t7 p7 ⊢;have l7:H7 x.p=some (.ins a.Line x.dx (CF x.l.num x.i x.h "dials" "" 0 .aa .aa)):=(by have z:=t7.t.aM h7;exact z);have jE:H7 r=some (.lst (D.map V.ref)):=t7.t.rest.hd;obtain ⟨X9,t7,eS,eh9,eq9⟩:∃ X9:HX,HT K a H7 X9 ((r,.lst (D.map V.ref)) :: R)/\X9.S={ B.S with q:=J,lns:=B.S.lns.set i { AI x.l "dials" with held:=x.l.held++[((Ud ""),k)] },sk:=aK B.S.sk k i }/\X9.h=B.h/\X9.q=J:=by refine ⟨_,t7,?_,rfl,rfl⟩;show (⟨B.long,((B.lines.set i _).set i _).map (·.l),_,_,_,_⟩:PS)=⟨B.long,(B.lines.map (·.l)).set i _,_,_,_,_⟩;rw [Vx,Vn];rfl
    walk_at"";refine ⟨.inl ⟨rfl,_,.of jE⟩,?_⟩;walk_at"";refine A7 x.p a.Line x.dx _ _ rfl l7 T.lc.cls T.lc.nu rfl ?_;walk_at"";refine ⟨Ax,λv nv=>?_⟩;have s8:=(Ai.refl H7).upd (o:=.tup [.str "tone",.str x.l.num,.int k,.int VD]) nv;have e8:(upd H7 v (.tup [.str "tone",.str x.l.num,.int k,.int VD])) v=some (.tup [.str "tone",.str x.l.num,.int k,.int VD]):=Al;generalize upd H7 v (.tup [.str "tone",.str x.l.num,.int k,.int VD])=H8 at s8 e8 ⊢;have t8:=t7.same s8;walk_at"";refine B1 r _ _ rfl rfl (s8 _ _ jE) (by rw [T7,Uc];rw [Vf] at eQ;omega) ?_;obtain ⟨t9,p9⟩:=t8.k6 (o':=.lst ((D++[v]).map V.ref)) rfl;have er:(D.map V.ref++[V.ref v])=(D++[v]).map V.ref:=by rw [Uy];rfl
    rw [er];have sZ:Ah O (upd H8 r (.lst ((D++[v]).map V.ref))):=p3.trans (p4.trans (p5.trans ((Ah.of s6).trans (p7.trans ((Ah.of s8).trans p9)))));have ir:BC K (upd H8 r (.lst ((D++[v]).map V.ref))) (D++[v]) (ds++[.tuple [.str "tone",.str z,.int k,.int VD]]):=(gL.ai sZ).app (.one (.tup (.of (p9.t e8)) (.cons (.str _) (.cons (by rw [i2];exact .str _) (.cons (.int _) (.cons (.int _) .nil))))) rfl);refine  ⟨J.length,Xz _,_,_,_,_,X9,D++[v],_,rfl,eh9.trans eh,t9,by rw [eS];exact ok3,oo.trans sZ,ir,by rw [eq9],(by rw [U2,Vv];rw [Vf] at eQ;omega),?_⟩;rw [L];show (ds++(aC (J.length+1) B.S).1,(aC (J.length+1) B.S).2)=_;have ox:∀ n,aC (n+1) B.S=_:=λn=>by unfold aC;rw [et]
    rw [ox,Uv,eS];rfl
noncomputable def BS (S:PS)(i:Nat)(ln:Ln):PS:={ aq S ln.held with lns:=S.lns.set i { ln with held:=[] } }
noncomputable def Bq (S:PS)(j:Nat)(lo:Ln):PyData×PS :=
 if lo.st="talks" then (.tuple [.str "waits",.str lo.num],EN (BS S j lo) j { lo with held:=[] })
 else (.tuple [.str "quiet",.str lo.num],{ BS S j lo with lns:=S.lns.set j (AI { lo with held:=[] } "rests") })
def Rz (K:T3)(a:Aq):Sp:=λvs H Q _=>∃(X:HX)(R:AH)(j:Nat)(y:LX),vs=[.ref X.h,.ref y.p]/\HT K a H X R/\X.lines[j]?=some y/\cA X.S y.l.held/\X.q.length<1000 /\
 ∀ H' X' b z,HT K a H' X' R->X'.h=X.h->X'.S=(Bq X.S j y.l).2->X'.lines=X.lines.set j z->z.p=y.p->Ah H H'->Is K H' (.ref b) (Bq X.S j y.l).1->Q (.ref b) H'
theorem Af4 (S:PS)(w:Str)(k:Int):(aB S w k).q=S.q:=by unfold aB;split<;>rfl
theorem El:∀(ts:List (Str×Int))(S:PS),(aq S ts).q=S.q
 | [],_=>rfl
 | t :: ts,S=>(El ts _).trans (Af4 S t.1 t.2)
theorem Af5:AR ["self","other"] ["self","other"] (Ab (Af (top 28) 12)):=.of
theorem RA:Nm (Ab (Af (top 28) 12)) "self":=.of
theorem Iu:Nm (Ab (Af (top 28) 12)) "other":=.of
theorem Af6 (F:AM K "left_alone" "Hall.left_alone" (Af (top 28) 12) f fd)(T:TxtH P w K mg a)(eZ:A2 P w K mg base AB 1 a.Line "turn" ["self","state"] (GI a))(oy:A2 P w K mg base (AJ P w) 4 a.ae "release" ["self","line"] (My K a))(oA:A2 P w K mg base AB 2 a.ae "wait" ["self","line"] (Mz K a)):AF P w K mg base (AJ P w) 5 f fd ["self","other"] (Rz K a):=by
 refine F.bw Af5 λah A outer s H vs Q E Y h=>?_
 .replace h:=Dd h;obtain ⟨X,R,j,y,rfl,t,h,hd,qz,q⟩:=h
  have fh:=T.lc.cls;have oB:=T.hc.cls;have oC:=T.hc.cls;have hu:=Y.units;refine ⟨_,(@Aj _ _ _ _ _ (Bi (Bs oy oB (Aa 0 RA) Y.d BV (Ac (Aa 1 Iu) Ae)))
    (Aj (Ba (A5 (B7 hu) (AN (Aa 1 Iu) rfl) Ak (Bb _)) (An (AO (Bs oA oC (Aa 0 RA) Y.d A3 (Ac (Aa 1 Iu) Ae)))) Be)
    (Aj (Bi (Bs eZ fh (Aa 1 Iu) Y.d A3 (Ac Ak Ae)))
    (An (AO (BN (Ac Ak (Ac (AN (Aa 1 Iu) rfl) Ae)))))))),?_⟩
  try dsimp only [av,aw]
  walk_at"";refine Bm X.h X.dx _ rfl t.t.aA rfl ?_;walk_at"";refine Ao X R j y rfl t h hd (λH1 D B I jF jG k8 iu jH p1=>?_);have J:D.lines[j]?=some B:=by rw [k8];exact Cr h
  have oE:B.l.st=y.l.st:=by rw [jH]
  have tq:B.l.num=y.l.num:=by rw [jH]
  rw [<- iu,<- jF];walk_at"";refine A7 B.p a.Line B.dx _ _ rfl (I.t.aM J) T.lc.cls T.lc.st rfl ?_;walk_at"";rw [oE];by_cases ht:y.l.st="talks"
  .rw [ht];walk_at"";refine Bm D.h D.dx _ rfl I.t.aA rfl ?_;walk_at"";have qz1:D.q.length<1000:=by
    have:D.S.q=X.q:=by rw [jG];exact El ..
    rw [show D.q=D.S.q from rfl,this];exact qz
   refine Ao D R j B rfl I J qz1 (λH2 X2 y2 b L cN cO oF jf tu p2 eb=>?_);have O:Bq X.S j y.l=(.tuple [.str "waits",.str y.l.num],EN (BS X.S j y.l) j { y.l with held:=[] }):=if_pos ht;refine q H2 X2 b y2 L (cN.trans jF) ?_ (by rw [oF,k8,Vx]) (jf.trans iu) (p1.trans p2) ?_
   .rw [O,cO,jG,jH];rfl
   .rw [O];exact .tup (.of eb) (.cons (.str _) (.cons (by rw [tq];exact .str _) .nil))
  .rw [decide_eq_false (λz=>ht (V.str.inj z))];walk_at"";refine Bm B.p B.dx _ rfl (I.t.aM J) rfl ?_;walk_at"";refine HB B.p B.dx B.l.num B.i B.h ("rests") _ rfl ⟨I.t.aM J,.inr ⟨_,_,_,_,_,rfl⟩,?_⟩;obtain ⟨L,p2⟩:=I.turn J "rests";have h2:(D.lines.set j { B with wv:=.aa,l:=AI B.l "rests" })[j]?=some { B with wv:=.aa,l:=AI B.l "rests" }:=Cr J;generalize upd H1 B.p (.ins a.Line B.dx (CF B.l.num B.i B.h "rests" "" 0 .aa .aa))=H2 at L p2 ⊢;have l2:H2 B.p=some (.ins a.Line B.dx (CF B.l.num B.i B.h "rests" "" 0 .aa .aa)):=by have z:=L.t.aM h2;exact z
   walk_at"";refine A7 B.p a.Line B.dx _ _ rfl l2 T.lc.cls T.lc.nu rfl ?_;walk_at"";refine ⟨Ax,λb nb=>?_⟩;have s3:=(Ai.refl H2).upd (o:=.tup [.str "quiet",.str B.l.num]) nb;have O:Bq X.S j y.l=(.tuple [.str "quiet",.str y.l.num],{ BS X.S j y.l with lns:=X.S.lns.set j (AI { y.l with held:=[] } "rests") }):=if_neg ht;refine q _ _ b { B with wv:=.aa,l:=AI B.l "rests" } (L.same s3) jF ?_ (by show D.lines.set j _=_;rw [k8,Vx]) iu (p1.trans (p2.trans (.of s3))) ?_
   .rw [O];have:=HX.sV (X:=D) (i:=j) (y:={ B with wv:=.aa,l:=AI B.l "rests" });rw [this,jG,jH];show ({ BS X.S j y.l with lns:=(X.S.lns.set j { y.l with held:=[] }).set j (AI { y.l with held:=[] } "rests") }:PS)=_;rw [Vx]
   .rw [O];exact .tup (.of Al) (.cons (.str _) (.cons (by rw [tq];exact .str _) .nil))
theorem ER {s t:TS}{D:DI}{σ:St}{H:Hp}(h:∀ C:St->Hp->Prop,C=(λσ' B=>t D σ' B)->s { D with nx:=C } σ H):K2 s t D σ H:=h _ rfl
noncomputable def BY (S:PS)(i:Nat)(ln:Ln):PyData×PS :=
 if ln.st="rests" then (.tuple [.str "waits",.str ln.num],EN S i ln)
 else match ln.ag with
  | none=>(.none,S)
  | some z=>match S.lns[Bp S.lns z]? with
   | none=>(.none,S)
   | some lc=>(.tuple [.str "talks",.str lc.num,.str ln.num],{ S with lns:=(S.lns.set (Bp S.lns z) { lc with st:="talks" }).set i { ln with st:="talks" } })
def MI (S:PS)(i:Nat)(ln:Ln):Prop:=ln.st="rests"\/(ln.st≠"rests"/\∃(j:Nat)(lc:Ln),ln.ag=some lc.num/\S.lns[j]?=some lc/\j≠i)
def RB (K:T3)(a:Aq):Sp:=λvs H Q _=>∃(X:HX)(R:AH)(i:Nat)(x:LX),vs=[.ref X.h,.ref x.p]/\HT K a H X R/\X.lines[i]?=some x/\X.q.length<1000/\MI X.S i x.l /\
 ∀ H' X' r b,HT K a H' X' ((r,.lst [.ref b]) :: R)->X'.h=X.h->X'.S=(BY X.S i x.l).2->Ah H H'->Is K H' (.ref b) (BY X.S i x.l).1->Q (.ref r) H'
noncomputable def au (S:PS)(ln:Ln):PS:=if ln.st="waits" then { S with q:=S.q.erase ln.num } else S
noncomputable def BU (S:PS)(ln:Ln):List PyData×PS:=match ln.ag with
 | none=>([],S)
 | some z=>match S.lns[Bp S.lns z]? with
  | none=>([],S)
  | some lo=>([(Bq S (Bp S.lns z) lo).1],(Bq S (Bp S.lns z) lo).2)
noncomputable def aH (S:PS)(i:Nat)(ln:Ln):PS:={ BS S i ln with lns:=S.lns.set i (AI { ln with held:=[] } "rests") }
noncomputable def CW (S:PS)(i:Nat)(ln:Ln):List PyData×PS:=(.tuple [.str "rests",.str ln.num] :: (BU (au S ln) ln).1,aH (BU (au S ln) ln).2 i ln)
structure Iv (S:PS)(i:Nat)(ln:Ln):Prop where
 w:ln.st="waits"->ln.num∈S.q
 f:∀ z,ln.ag=some z->∃(j:Nat)(lo:Ln),S.lns[j]?=some lo/\lo.num=z/\j≠i/\cA (au S ln) lo.held
 h:cA (BU (au S ln) ln).2 ln.held
def RC (K:T3)(a:Aq):Sp:=λvs H Q _=>∃(X:HX)(R:AH)(i:Nat)(x:LX),vs=[.ref X.h,.ref x.p]/\HT K a H X R/\X.lines[i]?=some x/\X.q.length<1000/\Iv X.S i x.l /\
 ∀ H' X' r xs,HT K a H' X' ((r,.lst (xs.map V.ref)) :: R)->X'.h=X.h->X'.S=(CW X.S i x.l).2->Ah H H'->BC K H' xs (CW X.S i x.l).1->Q (.ref r) H'
theorem RD (S:PS)(j:Nat)(lo:Ln):Dj (Bq S j lo).1=true:=by unfold Bq;split<;>rfl
theorem Fv {α:Type}{l:List α}{i j:Nat}{x y:α}(h:l[i]?=some x)(n:j≠i):(l.set j y)[i]?=some x:=by rw [V5 n];exact h
theorem HT.oG {H:Hp}{X:HX}{R:AH}(t:HT K a H X R){j:Nat}{lc:Ln}(h:X.S.lns[j]?=some lc):Bp X.S.lns lc.num=j:=by refine MC ?_ h;show ((X.lines.map (·.l)).map (·.num)).Nodup;rw [UD];exact t.ok.num
theorem RE:AR ["self","line","caller"] ["self","line"] (Ab (Af (top 28) 4)):=.of
theorem RF:Nm (Ab (Af (top 28) 4)) "self":=.of
theorem Iw:Nm (Ab (Af (top 28) 4)) "line":=.of
theorem MJ:Nm (Ab (Af (top 28) 4)) "caller":=.of
theorem Af7 (F:AM K "lift" "Hall.lift" (Af (top 28) 4) f fd)(T:TxtH P w K mg a)(oA:A2 P w K mg base AB 2 a.ae "wait" ["self","line"] (Mz K a)):AF P w K mg base AB 3 f fd ["self","line"] (RB K a):=by
 refine F.ok RE λah A outer s H vs Q E hr h=>?_
 .replace h:=Dd h;obtain ⟨X,R,i,x,rfl,t,h,qz,ok,q⟩:=h
  have oC:=T.hc.cls;have hu:=hr.units;have nd:=RE.nd;refine ⟨_,(@Aj _ _ _ _ _ (Ba (A5 (B7 hu) (AN (Aa 1 Iw) rfl) Ak (Bb _)) (An (AO (A0 (Ac (Bs oA oC (Aa 0 RF) hr.d A3 (Ac (Aa 1 Iw) Ae)) Ae)))) Be)
    (Aj (A1 2 nd MJ (Az P w K (AN (Aa 0 RF) rfl) (AN (Aa 1 Iw) rfl)))
    (Aj (BR (Aa 2 MJ) Ak rfl)
    (Aj (BR (Aa 1 Iw) Ak rfl)
    (An (AO (A0 (Ac (BN (Ac Ak (Ac (AN (Aa 2 MJ) rfl) (Ac (AN (Aa 1 Iw) rfl) Ae)))) Ae)))))))),?_⟩
  try dsimp only [av,aw]
  walk_at"";refine A7 x.p a.Line x.dx _ _ rfl (t.t.aM h) T.lc.cls T.lc.st rfl ?_;walk_at"";rcases ok with J | ⟨J,j,lc,ef,ej,nj⟩
  .have eD:BY X.S i x.l=(.tuple [.str "waits",.str x.l.num],EN X.S i x.l):=if_pos J;rw [eD] at q;refine EC (decide_eq_true (congrArg V.str J)) ?_;walk_at"";refine Bm X.h X.dx _ rfl t.t.aA rfl ?_;walk_at"";refine Ao X R i x rfl t h qz (λB X1 y b D jF jG k8 iu jH L eb=>?_);walk_at"";refine ⟨Ax,λr O=>?_⟩;have I:Ah B (upd B r (.lst [.ref b])):=.new O;exact q _ X1 r b (D.new O) jF jG (L.trans I) (.tup (.of (I.t eb)) (.cons (.str _) (.cons (.str _) .nil)))
  .have ei:=t.oG ej;have eD:BY X.S i x.l=(.tuple [.str "talks",.str lc.num,.str x.l.num],{ X.S with lns:=(X.S.lns.set j { lc with st:="talks" }).set i { x.l with st:="talks" } }):=by
    simp only [BY,if_neg J,ef,ei,ej]
   rw [eD] at q;obtain ⟨y,hy,rfl⟩:=Ag (t.at ej);have oH:Ce x.l.ag=.str y.l.num:=by rw [ef];rfl
   refine ED (decide_eq_false (λz=>J (V.str.inj z))) ?_;walk_at"";refine A7 X.h a.ae X.dx _ _ rfl t.t.aA T.hc.cls T.hc.li rfl ?_;walk_at"";refine A7 x.p a.Line x.dx _ _ rfl (t.t.aM h) T.lc.cls T.lc.fa rfl ?_;refine Ao X.ld _ (.inr y.l.num) _ rfl oH (.of t.t.ld) (t.ok.line hy) ?_;walk_at"";refine Bn y.p a.Line y.dx _ rfl (t.t.aM hy) T.lc.cls T.lc.st (Vo rfl) ?_;have ly:=t.ok.lx j y hy;obtain ⟨D,L⟩:=t.bU hy { y with l:={ y.l with st:="talks" } } rfl rfl rfl rfl rfl rfl rfl ly.w ly.wt;change HT K a (upd H y.p (.ins a.Line y.dx (Aw "state" (.str "talks") y.fs))) _ _ at D;change Ah _ (upd H y.p (.ins a.Line y.dx (Aw "state" (.str "talks") y.fs))) at L;have h1:(X.lines.set j { y with l:={ y.l with st:="talks" } })[i]?=some x:=Fv h nj;generalize upd H y.p (.ins a.Line y.dx (Aw "state" (.str "talks") y.fs))=B at D L ⊢;have l1:B x.p=some (.ins a.Line x.dx x.fs):=by have z:=D.t.aM h1;exact z
   walk_at"";refine Bn x.p a.Line x.dx _ rfl l1 T.lc.cls T.lc.st (Vo rfl) ?_;have lx:=D.ok.lx i x h1;obtain ⟨Y,I⟩:=D.bU h1 { x with l:={ x.l with st:="talks" } } rfl rfl rfl rfl rfl rfl rfl lx.w lx.wt;change HT K a (upd B x.p (.ins a.Line x.dx (Aw "state" (.str "talks") x.fs))) _ _ at Y;change Ah _ (upd B x.p (.ins a.Line x.dx (Aw "state" (.str "talks") x.fs))) at I;have h2:((X.lines.set j { y with l:={ y.l with st:="talks" } }).set i { x with l:={ x.l with st:="talks" } })[i]?=some { x with l:={ x.l with st:="talks" } }:=Cr h1;have g2:((X.lines.set j { y with l:={ y.l with st:="talks" } }).set i { x with l:={ x.l with st:="talks" } })[j]?=some { y with l:={ y.l with st:="talks" } }:=Fv (Cr hy) (UQ nj);generalize upd B x.p (.ins a.Line x.dx (Aw "state" (.str "talks") x.fs))=H2 at Y I ⊢;have l2:=Y.t.aM h2;have m2:=Y.t.aM g2;walk_at"";refine A7 y.p a.Line y.dx _ _ rfl m2 T.lc.cls T.lc.nu rfl ?_;walk_at"";refine A7 x.p a.Line x.dx _ _ rfl l2 T.lc.cls T.lc.nu rfl ?_;walk_at"";refine ⟨Ax,λb nb=>?_⟩;have s3:=(Ai.refl H2).upd (o:=.tup [.str "talks",.str y.l.num,.str x.l.num]) nb;have e3:(upd H2 b (.tup [.str "talks",.str y.l.num,.str x.l.num])) b=some (.tup [.str "talks",.str y.l.num,.str x.l.num]):=Al;have t3:=Y.same s3;generalize hG:upd H2 b (.tup [.str "talks",.str y.l.num,.str x.l.num])=H3 at s3 e3 t3;refine ⟨Ax,λr O=>?_⟩;have p4:Ah H3 (upd H3 r (.lst [.ref b])):=.new O;refine q _ _ r b (t3.new O) rfl ?_ (L.trans (I.trans ((Ah.of s3).trans p4))) (.tup (.of (p4.t e3)) (.cons (.str _) (.cons (.str _) (.cons (.str _) .nil))));show (⟨X.long,((X.lines.set j _).set i _).map (·.l),_,_,_,_⟩:PS)=_;rw [Vn,Vn];rfl
theorem RG:AR ["self","line","told"] ["self","line"] (Ab (Af (top 28) 11)):=.of
theorem Kg:Nm (Ab (Af (top 28) 11)) "self":=.of
theorem F2:Nm (Ab (Af (top 28) 11)) "line":=.of
theorem MK:Nm (Ab (Af (top 28) 11)) "told":=.of
theorem Af8 (F:AM K "hang" "Hall.hang" (Af (top 28) 11) f fd)(T:TxtH P w K mg a)(eZ:A2 P w K mg base AB 1 a.Line "turn" ["self","state"] (GI a))(oy:A2 P w K mg base (AJ P w) 4 a.ae "release" ["self","line"] (My K a))(aa8:A2 P w K mg base (AJ P w) 5 a.ae "left_alone" ["self","other"] (Rz K a)):AF P w K mg base (AJ P w) 6 f fd ["self","line"] (RC K a):=by
 refine F.bw RG λah A outer s H vs Q E hr h=>?_
 .replace h:=Dd h;obtain ⟨X,R,i,x,rfl,t,h,qz,ok,q⟩:=h
  have oB:=T.hc.cls;have aa9:=T.hc.cls;have fh:=T.lc.cls;have hu:=hr.units;have nd:=RG.nd;refine ⟨_,(@Aj _ _ _ _ _ (A1 2 nd MK (A0 (Ac (BN (Ac Ak (Ac (AN (Aa 1 F2) rfl) Ae))) Ae)))
    (Aj (Ba (A5 (B7 hu) (AN (Aa 1 F2) rfl) Ak (Bb _)) (An (Bi (Cm Ve yp yq Pn (AN (Aa 0 Kg) rfl) (Ac (AN (Aa 1 F2) rfl) Ae)))) Be)
    (Aj (Ba (A5 Oy (AN (Aa 1 F2) rfl) Ck (Bb _)) (An (Bi (Cm Ve Vy Vz C7 (Aa 2 MK) (Ac (Bs aa8 aa9 (Aa 0 Kg) hr.d BV (Ac (Az P w K (AN (Aa 0 Kg) rfl) (AN (Aa 1 F2) rfl)) Ae)) Ae)))) Be)
    (Aj (Bi (Bs oy oB (Aa 0 Kg) hr.d BV (Ac (Aa 1 F2) Ae)))
    (Aj (Bi (Bs eZ fh (Aa 1 F2) hr.d A3 (Ac Ak Ae)))
    (An (AO (Aa 2 MK)))))))),?_⟩
  try dsimp only [av,aw]
  walk_at"";refine A7 x.p a.Line x.dx _ _ rfl (t.t.aM h) T.lc.cls T.lc.nu rfl ?_;walk_at"";refine ⟨Ax,λB gM=>?_⟩;have s0:=(Ai.refl H).upd (o:=.tup [.str "rests",.str x.l.num]) gM;have e0:(upd H B (.tup [.str "rests",.str x.l.num])) B=some (.tup [.str "rests",.str x.l.num]):=Al;generalize upd H B (.tup [.str "rests",.str x.l.num])=H0 at s0 e0 ⊢;walk_at"";refine ⟨Ax,λr nr=>?_⟩;have L:=(t.same s0).new (u:=.lst ([B].map V.ref)) nr;have p1:Ah H (upd H0 r (.lst ([B].map V.ref))):=(Ah.of s0).trans (.new nr);have e1:(upd H0 r (.lst ([B].map V.ref))) B=some (.tup [.str "rests",.str x.l.num]):=(Ah.new nr).t e0;change HT K a (upd H0 r (.lst [.ref B])) _ _ at L;change Ah H (upd H0 r (.lst [.ref B])) at p1;change (upd H0 r (.lst [.ref B])) B=_ at e1;generalize upd H0 r (.lst [.ref B])=H1 at L p1 e1 ⊢;clear e0 s0
  refine Lk.use (by assumption) ?_;refine ER λC1 cb=>?_;have mid:∀(O:Hp)(D:HX),HT K a O D ((r,.lst ([B].map V.ref)) :: R)->D.h=X.h->D.S=au X.S x.l->D.lines=X.lines->Ah H1 O->C1 [some (.ref X.h),some (.ref x.p),some (.ref r)] O:=by
   intro O D I cN Y oF p2;rw [cb];have h2:D.lines[i]?=some x:=by rw [oF];exact h
   refine ER λC2 cK=>?_;have last:∀(H3:Hp)(J:HX)(xs:List Addr),HT K a H3 J ((r,.lst (xs.map V.ref)) :: R)->J.h=X.h->J.S=(BU (au X.S x.l) x.l).2->J.lines[i]?=some x->Ah O H3->BC K H3 xs (CW X.S i x.l).1->C2 [some (.ref X.h),some (.ref x.p),some (.ref r)] H3:=by
    intro H3 J xs t3 k9 lb h3 p3 td;rw [cK,<- k9];walk_at"";refine Bm J.h J.dx _ rfl t3.t.aA rfl ?_;walk_at"";refine Ao J _ i x rfl t3 h3 (by rw [lb];exact ok.h) (λH4 X4 y t4 oI lg eL4 ep4 el4 p4=>?_);have h4:X4.lines[i]?=some y:=by rw [eL4];exact Cr h3
    rw [<- ep4];walk_at"";refine Bm y.p y.dx _ rfl (t4.t.aM h4) rfl ?_;walk_at"";refine HB y.p y.dx y.l.num y.i y.h ("rests") _ rfl ⟨t4.t.aM h4,.inr ⟨_,_,_,_,_,rfl⟩,?_⟩;obtain ⟨t5,p5⟩:=t4.turn h4 "rests";walk_at"";refine q _ _ r xs t5 (oI.trans k9) ?_ (p1.trans (p2.trans (p3.trans (p4.trans p5)))) (td.ai (p4.trans p5));have:=HX.sV (X:=X4) (i:=i) (y:={ y with wv:=.aa,l:=AI y.l "rests" });rw [this,lg,el4,lb];show ({ BS (BU (au X.S x.l) x.l).2 i x.l with lns:=((BU (au X.S x.l) x.l).2.lns.set i { x.l with held:=[] }).set i (AI { x.l with held:=[] } "rests") }:PS)=_;rw [Vx];rfl
   clear cK
   rw [<- cN];walk_at"";refine A7 x.p a.Line x.dx _ _ rfl (I.t.aM h2) T.lc.cls T.lc.fa rfl ?_;have one:BC K O [B] [.tuple [.str "rests",.str x.l.num]]:=.one (.tup (.of (p2.t e1)) (.cons (.str _) (.cons (.str _) .nil))) rfl;cases ef:x.l.ag with
   | none =>
    have e2:BU (au X.S x.l) x.l=([],au X.S x.l):=by simp only [BU,ef]
    walk_at"";rw [cN];exact last O D [B] I cN (by rw [e2];exact Y) h2 .refl (by unfold CW;rw [e2];exact one)
   | some z =>
    obtain ⟨j,lo,ej,en,nj,ha⟩:=AY (ok.f z ef);have eSl:D.S.lns=X.S.lns:=by rw [Y];unfold au;split<;>rfl
    have eSq:D.S.q.length<=X.q.length:=by
     rw [Y];unfold au;split
     .exact ZT
     .exact Uq _
    have iw:D.S.lns[j]?=some lo:=by rw [eSl];exact ej
    have gN:=I.oG iw;rw [en,Y] at gN;have e2:BU (au X.S x.l) x.l=([(Bq D.S j lo).1],(Bq D.S j lo).2):=by
     have ej3:(au X.S x.l).lns[j]?=some lo:=by rw [<- Y];exact iw
     rw [Y];simp only [BU,ef,gN,ej3]
    obtain ⟨y,hy,rfl⟩:=Ag (I.at iw);have hv:=I.ok.line hy;rw [en] at hv;have jI:O r=some (.lst ([B].map V.ref)):=I.t.rest.hd;have oH:Ce x.l.ag=.str z:=by rw [ef];rfl
    walk_at"";refine ⟨.inl ⟨rfl,_,.of jI⟩,?_⟩;walk_at"";refine Bm D.h D.dx _ rfl I.t.aA rfl ?_;walk_at"";refine A7 D.h a.ae D.dx _ _ rfl I.t.aA T.hc.cls T.hc.li rfl ?_;walk_at"";refine A7 x.p a.Line x.dx _ _ rfl (I.t.aM h2) T.lc.cls T.lc.fa rfl ?_;refine Ao D.ld _ (.inr z) _ rfl oH (.of I.t.ld) hv ?_;walk_at"";refine Bn D _ j y rfl I hy (by rw [Y];exact ha) (U5 eSq qz) (λH3 J b z3 t3 k9 lb eL3 tD p3 eb=>?_);have jJ:H3 r=some (.lst ([B].map V.ref)):=t3.t.rest.hd;walk_at"";refine B1 r _ _ rfl rfl jJ (by show 1<sizeLine;decide) ?_;obtain ⟨t4,p4⟩:=t3.k6 (o':=.lst ([B,b].map V.ref)) rfl;rw [cN];refine last _ J [B,b] t4 (k9.trans cN) (by rw [e2];exact lb) (by rw [eL3];exact Fv h2 nj) (p3.trans p4) ?_;unfold CW;rw [e2];exact ⟨.cons (Is.ai _ rfl (.tup (.of (p2.t e1)) (.cons (.str _) (.cons (.str _) .nil))) (p3.trans p4)) (.cons (Is.ai _ (RD _ _ _) eb p4) .nil),by show (true && (Dj _ && true))=true;rw [RD];rfl⟩
  clear cb
  walk_at"";refine A7 x.p a.Line x.dx _ _ rfl (L.t.aM h) T.lc.cls T.lc.st rfl ?_;walk_at"";by_cases aL:x.l.st="waits"
  .refine EC (decide_eq_true (congrArg V.str aL)) ?_;walk_at"";refine A7 X.h a.ae X.dx _ _ rfl L.t.aA T.hc.cls T.hc.qu rfl ?_;refine ⟨.inl ⟨rfl,_,.of L.t.q⟩,?_⟩;walk_at"";refine A7 x.p a.Line x.dx _ _ rfl (L.t.aM h) T.lc.cls T.lc.nu rfl ?_;walk_at"";refine Ue (B1 X.qa X.q x.l.num rfl rfl L.t.q (ok.w aL) ?_);obtain ⟨I,p2⟩:=L.cM (X.q.erase x.l.num);exact mid _ _ I rfl (by unfold au;rw [if_pos aL];rfl) rfl p2
  .refine ED (decide_eq_false (λz=>aL (V.str.inj z))) ?_;exact mid H1 X L rfl (by unfold au;rw [if_neg aL]) rfl .refl
theorem RH {lns:List Ln}{z:Str}(h:z ∉ lns.map (·.num)):lns[Bp lns z]?=none:=by
 have:Bp lns z=lns.length:=by unfold Bp;rw [List.idxOf_eq_length h,T7]
 rw [this];exact wW (Uq _)
noncomputable def Cf (S:PS)(z:Str):Option Gr:=S.aD.find? λg=>decide (g.pre=z)
theorem Kh {l:List Gr}(D:(l.map (·.pre)).Nodup){i:Nat}{g:Gr}(h:l[i]?=some g):l.find? (λy=>decide (y.pre=g.pre))=some g:=by
 induction l generalizing i with
 | nil=>simp at h
 | cons y l ih =>
  have B:=UH.mp D;cases i with
  | zero =>
   have e:y=g:=by simpa using h
   subst e;rw [Wd,decide_eq_true rfl]
  | succ i =>
   have h:l[i]?=some g:=by simpa using h
   rw [Wd,decide_eq_false (λe=>B.1 (by show y.pre∈_;rw [e];exact Ur.mpr ⟨g,Uw h,rfl⟩))];exact ih B.2 h
theorem MM {l:List Gr}{z:Str}(h:z ∉ l.map (·.pre)):l.find? (λy=>decide (y.pre=z))=none:=by rw [yr];intro y B e;exact h (by rw [<- of_decide_eq_true e];exact Ur.mpr ⟨y,B,rfl⟩)
def Af9 (g:Gr):Prop:=∀ v∈g.hs,v=.aa\/∃ z,v=.str z
noncomputable def RI:List Str:=["1","2","3","4","5","6","7","8","9","0"]
noncomputable def Aga (n:Int):Str:=RI.getD (n - 1).toNat ""
structure TxtG (P:Ub)(w:T6)(K:T3)(mg:Str->Option Value)(a:Aq):Prop extends TxtH P w K mg a where
 oJ:mg "FIGURES"=some (.ref a.kK)
 aba:∀ H,Bt K H a.kK (RI.map V.str)
 oK:mg "NoFigure"=some (.ref a.kJ)
 abb:VH K a.kJ [.type "ValueError",.type "Exception",.type "BaseException",.type "object"] "ValueError.__new__"=true
noncomputable def Agb (ln:Ln):Ln:={ ln with ao:=ln.ao++Aga ln.az,az:=0 }
structure AiV (S:PS)(i:Nat)(ln:Ln):Prop where
 p1:ln.az<=10
 p0:0<=ln.az
 st:ln.st≠"rests"
 f:ln.ao.length<=100
 hg:∀ g∈S.aD,Af9 g
 aE:ln.held.length<=9
 h:cA { S with lns:=S.lns.set i (Agb ln) } ln.held
noncomputable def F4 (b:Bool):Str:=if b then "stick" else "mend"
noncomputable def Cg (S:PS)(w:Str):Option (List V):=if w=Ud "" then some S.sk.hs else (Cf S w).map (·.hs)
noncomputable def BQ (S:PS)(b:Bool)(w:Str)(k:Int):PS :=
 if w=Ud "" then { S with sk:={ S.sk with js:=S.sk.js.set k.toNat b } }
 else { S with aD:=S.aD.map λg=>if g.pre=w then { g with js:=g.js.set k.toNat b } else g }
def RJ (K:T3)(a:Aq):Sp:=λvs H Q E=>∃(X:HX)(R:AH)(b:Bool)(z:Str)(k:Int),vs=[.ref X.h,.str (F4 b),.str z,.int k]/\HT K a H X R/\Ok z /\
 match Cg X.S z with
 | none=>E (.ref a.cu) none H
 | some hs=>if Cz k hs=true then ∀ H' X' r,HT K a H' X' ((r,.lst (([]:List Addr).map V.ref)) :: R)->X'.h=X.h->X'.S=BQ X.S b z k->Ah H H'->Q (.ref r) H' else E (.ref a.cu) none H
section
variable {K:T3}{a:Aq}{H:Hp}{X:HX}{R:AH}
theorem HT.abc (t:HT K a H X R)(sc:Ft K a a.aF)(gc:EK K a a.aR){z:Str}{hs:List V}(e:Cg X.S z=some hs) :
  ∃ p C L D O js ts,C∈a.bR/\(∃ dx fs,H p=some (.ins C dx fs)/\Fs fs L D O)/\CQ K a H p C L D O hs js ts/\((z=Ud ""/\X.sk.p=p)\/∃(i:Nat)(g:RX),X.groups[i]?=some g/\g.g.pre=z/\g.p=p) /\
   ∀(b:Bool)(k:Int),∃ I:HX,I.S=BQ X.S b z k/\I.h=X.h/\HT K a (upd H D (.lst ((js.set k.toNat b).map V.bl))) I R/\Ah H (upd H D (.lst ((js.set k.toNat b).map V.bl))):=by
 by_cases B:z=Ud ""
 .have s:=t.t.jC sc t.ok.sk;obtain ⟨dx,Y⟩:=s.ins;have J:X.sk.k.hs=hs:=by
   unfold Cg at e;rw [if_pos B] at e;exact UK e
  subst J;refine ⟨X.sk.p,a.aF,X.sk.ra,X.sk.rb,X.sk.rc,X.sk.k.js,X.sk.k.ts,sc.c.mem,⟨dx,_,Y,JV ..⟩,s.r,.inl ⟨B,rfl⟩,λb k=>⟨{ X with sk:={ X.sk with k:={ X.sk.k with js:=X.sk.k.js.set k.toNat b } } },?_,rfl,t.aa2 (js':=X.sk.k.js.set k.toNat b) (by rw [UE]),.chg s.hb rfl⟩⟩;unfold BQ;rw [if_pos B];rfl
 .have jK:(X.S.aD.map (·.pre)).Nodup:=by show ((X.groups.map (·.g)).map (·.pre)).Nodup;rw [UD];exact t.ok.pre
  have m:z∈X.groups.map (·.g.pre):=by apply Yk;intro m;unfold Cg at e;rw [if_neg B,show Cf X.S z=none from MM (by show z ∉ (X.groups.map (·.g)).map (·.pre);rw [UD];exact m)] at e;cases e
  obtain ⟨i,g,h,rfl⟩:=AQ (Kd m);have ej:X.S.aD[i]?=some g.g:=by show (X.groups.map (·.g))[i]?=_;rw [Uj,h];rfl
  have J:g.g.hs=hs:=by unfold Cg at e;rw [if_neg B,show Cf X.S g.g.pre=some g.g from Kh jK ej] at e;exact UK e
  subst J;have r:=t.t.gI h gc (t.ok.gr g (Uw h));refine ⟨g.p,a.aR,g.ra,g.rb,g.rc,g.g.js,g.g.ts,gc.mem,r.ins,r,.inr ⟨i,g,h,rfl,rfl⟩,λb k=>⟨{ X with groups:=X.groups.set i { g with g:={ g.g with js:=g.g.js.set k.toNat b } } },?_,rfl,t.aa4 h (js':=g.g.js.set k.toNat b) (by rw [UE]),.chg r.hb rfl⟩⟩;unfold BQ;rw [if_neg B];exact HX.sU (h:=λy=>{ y with js:=y.js.set k.toNat b }) t.ok.pre h rfl
theorem RK {S:PS}{z:Str}(e:Cg S z=none):z≠Ud ""/\z ∉ S.aD.map (·.pre):=by
 unfold Cg at e;by_cases B:z=Ud ""
 .rw [if_pos B] at e;cases e
 .rw [if_neg B] at e;refine ⟨B,λm=>?_⟩;obtain ⟨g,mg,D⟩:=Ag (Ur.mp m);unfold Cf at e;rw [yt,yr] at e;exact e g mg (decide_eq_true D)
end
theorem RL:AR ["self","word","where","k"] ["self","word","where","k"] (Ab (Af (top 28) 2)):=.of
theorem RM:Nm (Ab (Af (top 28) 2)) "self":=.of
theorem Agc:Nm (Ab (Af (top 28) 2)) "word":=.of
theorem RN:Nm (Ab (Af (top 28) 2)) "where":=.of
theorem RO:Nm (Ab (Af (top 28) 2)) "k":=.of
theorem Agd (F:AM K "at_switch" "Hall.at_switch" (Af (top 28) 2) f fd)(T:TxtH P w K mg a)(V:A2 P w K mg base (AJ P w) 1 a.ae "switches_of" ["self","where"] (F1 K a))(oM:∀ C∈a.bR,A2 P w K mg base (AJ P w) 3 C "stick" ["self","k"] (JR K a true))(oN:∀ C∈a.bR,A2 P w K mg base (AJ P w) 3 C "mend" ["self","k"] (JR K a false)):AF P w K mg base (AJ P w) 4 f fd ["self","word","where","k"] (RJ K a):=by
 refine F.bw RL λah A outer s H vs Q E J h=>?_
 .replace h:=Et h;obtain ⟨X,R,b,z,k,rfl,t,Y,q⟩:=h
  have cB:=T.cB;have iy:=T.hc.cls;have hu:=J.units;have nd:=RL.nd;refine ⟨_,(@Aj _ _ _ _ _ (Ba (A5 (B7 hu) (Aa 1 Agc) Ak (Bb _)) (An (Bi (LU oM cB (Bs V iy (Aa 0 RM) J.d BV (Ac (Aa 2 RN) Ae)) J.d BV (Ac (Aa 3 RO) Ae)))) (An (Bi (LU oN cB (Bs V iy (Aa 0 RM) J.d BV (Ac (Aa 2 RN) Ae)) J.d BV (Ac (Aa 3 RO) Ae)))))
    (An (AO (A0 Ae)))),?_⟩
  try dsimp only [av,aw]
  have D:X.S.aD.map (·.pre)=X.groups.map (·.g.pre):=by show (X.groups.map (·.g)).map (·.pre)=_;rw [UD];rfl
  cases eh:Cg X.S z with
  | none =>
   rw [eh] at q;obtain ⟨z0,zn⟩:=RK eh;rw [D] at zn;cases b;all_goals
    walk_at"";refine Bm X.h X.dx _ rfl t.t.aA rfl ?_;walk_at"";exact ⟨X,R,z,rfl,t,Y,λe=>absurd e z0,λi g L e=>absurd (Ur.mpr ⟨g,Uw L,e⟩) zn,λ_ _=>q⟩
  | some hs =>
   rw [eh] at q;dsimp only at q;obtain ⟨p,C,ra,rb,rc,js,ts,mC,⟨dx,fs,ep,F3⟩,rk,O,bf⟩:=Hh (t.abc T.sc T.gc eh);have go:∀(cont:VK),cont (.ref p) H->F1 K a [.ref X.h,.str z] H cont E:=λcont c=>by
    refine BO X R z rfl ⟨t,Y,λe=>?_,λi g L e=>?_,λn0 n=>?_⟩
    .rcases O with ⟨_,rfl⟩ | ⟨j,g,I,B,_⟩
     .exact c
     .exact absurd (B.trans e) (t.ok.ne g (Uw I))
    .rcases O with ⟨B,_⟩ | ⟨j,g2,I,B,rfl⟩
     .exact absurd (e.trans B) (t.ok.ne g (Uw L))
     .by_cases ij:i=j
      .subst ij;rw [L] at I;cases I;exact c
      .exact absurd (e.trans B.symm) (Ek t.ok.pre (i:=i) (j:=j) (by rw [Uj,L];rfl) (by rw [Uj,I];rfl) ij)
    .rcases O with ⟨B,_⟩ | ⟨j,g2,I,B,_⟩
     .exact absurd B n0
     .exact absurd (Ur.mpr ⟨g2,Uw I,B⟩) n
   cases b;all_goals
    walk_at"";refine Bm X.h X.dx _ rfl t.t.aA rfl ?_;walk_at"";dsimp only [Cd];refine go _ ?_;refine Ao p C dx fs rfl mC ep (F3.m _ (by decide)) ?_;walk_at"";refine Gy p k C ra rb rc hs js ts rfl ⟨rk,?_⟩;by_cases hk:Cz k hs=true
    .rw [if_pos hk] at q ⊢;obtain ⟨X',e1,B,t2,p2⟩:=bf _ k;walk_at"";refine ⟨Ax,λr nr=>?_⟩;exact q _ X' r (t2.new nr) B e1 (p2.trans (.new nr))
    .rw [if_neg hk] at q ⊢;exact q
inductive LW where
 | lift | bz
noncomputable def LW.wo:LW->Str
 | .lift=>"lift" | .bz=>"hang"
noncomputable def LW.cv:LW->List Str
 | .lift=>["rests","rung"] | .bz=>["waits","dials","rings","talks","told"]
noncomputable def LW.fits (d:LW)(ln:Ln):Bool:=decide (ln.st∈d.cv) && true
def LW.ok (d:LW)(S:PS)(i:Nat)(ln:Ln):Prop:=match d with
 | .lift=>MI S i ln
 | .bz=>Iv S i ln
noncomputable def LW.go (d:LW)(S:PS)(i:Nat)(ln:Ln):List PyData×PS:=match d with
 | .lift=>([(BY S i ln).1],(BY S i ln).2)
 | .bz=>CW S i ln
def ES:Sp:=λ_ _ _ _=>False
theorem Ki {P:Ub}{w:T6}{K:T3}{mg:Str->Option Value}{base:Heap}{CX:B0}{k:Nat}{f:Addr}{fd:Uk}{ps:List Str}:AF P w K mg base CX k f fd ps ES:=⟨λ_ _ _ _ h=>h.elim,λ_ _ _ _ _ _ _ _ _ _ _ _ _ h=>h.elim⟩
def RP (K:T3)(a:Aq):Sp:=λvs H Q E=>∃(X:HX)(R:AH)(d:LW)(z:Str),vs=[.ref X.h,.str d.wo,.str z]/\HT K a H X R/\Ok z/\X.q.length<1000 /\
 (z ∉ X.S.lns.map (·.num)->E (.ref a.eT) none H) /\
 ∀(i:Nat)(ln:Ln),X.S.lns[i]?=some ln->ln.num=z->Ok ln.st/\(d.fits ln=false->True/\E (.ref a.hV) none H) /\
  (d.fits ln=true->d.ok X.S i ln/\∀ H' X' r xs,HT K a H' X' ((r,.lst (xs.map V.ref)) :: R)->X'.h=X.h->X'.S=(d.go X.S i ln).2->Ah H H'->BC K H' xs (d.go X.S i ln).1->Q (.ref r) H')
theorem Kj (z:Str)(ks:List Str):Ee (.str z) (ks.map V.str)=decide (z∈ks):=by
 unfold Ee;rw [List.any_map,WH,yh,decide_eq_true_eq];constructor
 .intro B;obtain ⟨k,hk,e⟩:=Ag B;have D:decide (k=z)=true:=by simpa [CU] using e
  rw [<- of_decide_eq_true D];exact hk
 .exact λh=>⟨z,h,by simp [CU]⟩
theorem Age {S:PS}{i:Nat}{ln:Ln}:Dj (BY S i ln).1=true:=by
 unfold BY;split
 .rfl
 .split
  .rfl
  .split<;>rfl
theorem RQ:AR ["self","word","number","line"] ["self","word","number"] (Ab (Af (top 28) 3)):=.of
theorem Iy:Nm (Ab (Af (top 28) 3)) "self":=.of
theorem Iz:Nm (Ab (Af (top 28) 3)) "word":=.of
theorem Agf:Nm (Ab (Af (top 28) 3)) "number":=.of
theorem F5:Nm (Ab (Af (top 28) 3)) "line":=.of
theorem Agg:Gm (Ab (Af (top 28) 3)) "WAYS":=.of
theorem Agh:Gm (Ab (Af (top 28) 3)) "NotSo":=.of
theorem Agi (F:AM K "at_line" "Hall.at_line" (Af (top 28) 3) f fd)(T:TxtG P w K mg a)(dv:A2 P w K mg base (AJ P w) 1 a.ae "line_of" ["self","number"] (F0 K a))(Y:A2 P w K mg base AB 3 a.ae "lift" ["self","line"] (RB K a))(abe:A2 P w K mg base (AJ P w) 6 a.ae "hang" ["self","line"] (RC K a))(abf:A2 P w K mg base (AJ P w) 6 a.ae "pulse" ["self","line"] ES)(abg:A2 P w K mg base (AJ P w) 7 a.ae "gap" ["self","line"] ES):AF P w K mg base (AJ P w) 8 f fd ["self","word","number"] (RP K a):=by
 refine F.bw RQ λah A outer s H vs Q E D h=>?_
 .replace h:=Dd h;obtain ⟨X,R,d,z,rfl,t,zk,qz,q0,q⟩:=h
  have abh:=T.hc.cls;have abi:=T.hc.cls;have abj:=T.hc.cls;have abk:=T.hc.cls;have dw:=T.hc.cls;have hu:=D.units;have nd:=RQ.nd;obtain ⟨w1,w2,w3,w4,kd,sq1,sq2,sq3,sq4⟩:=Cj T.cv;have B:X.S.lns.map (·.num)=X.lines.map (·.l.num):=by show (X.lines.map (·.l)).map (·.num)=_;rw [UD];rfl
  rw [B] at q0;refine ⟨_,(@Aj _ _ _ _ _ (A1 3 nd F5 (Bs dv dw (Aa 0 Iy) D.d BV (Ac (Aa 2 Agf) Ae)))
    (Aj (Ba (A5 Jr (AN (Aa 3 F5) rfl) (Az P w K (Jv (v:=.ref a.gB) Agg T.kX rfl) (Aa 1 Iz)) (by with_unfolding_all rfl)) (An (Dr Dq Agh rfl T.sT T.kZ (Ac (FO (Cv Ak (Cv (HP (Aa 1 Iz)) (Cv Ak (Cv (HH (AN (Aa 3 F5) rfl)) FN))))) Ae))) Be)
    (Aj (Ba (A5 (B7 hu) (Aa 1 Iz) Ak (Bb _)) (An (AO (Bs Y abh (Aa 0 Iy) D.d A3 (Ac (Aa 3 F5) Ae)))) Be)
    (Aj (Ba (A5 (B7 hu) (Aa 1 Iz) Ak (Bb _)) (An (AO (Bs abf abj (Aa 0 Iy) D.d BV (Ac (Aa 3 F5) Ae)))) Be)
    (Aj (Ba (A5 (B7 hu) (Aa 1 Iz) Ak (Bb _)) (An (AO (Bs abg abk (Aa 0 Iy) D.d BV (Ac (Aa 3 F5) Ae)))) Be)
    (An (AO (Bs abe abi (Aa 0 Iy) D.d BV (Ac (Aa 3 F5) Ae))))))))),?_⟩
  try dsimp only [av,aw]
  have aS:AW ["self","word","number","line"] [V.ref X.h,V.str d.wo,V.str z]=[some (.ref X.h),some (.str d.wo),some (.str z),none]:=rfl;simp only [aS,VM,VN];walk_at"";refine Bm X.h X.dx _ rfl t.t.aA rfl ?_;walk_at"";refine BO X R z rfl ⟨t,zk,λi x h ez=>?_,q0⟩;have ej:X.S.lns[i]?=some x.l:=by show (X.lines.map (·.l))[i]?=_;rw [Uj,h];rfl
  obtain ⟨sk,qf,qt⟩:=AD (q i x.l ej ez);have du:=Im sk;have I:UJ.length=0:=rfl;have J:(Ud "no ").length=3:=by decide +kernel
  have L:(Ud " of a line in the way ").length=22:=by decide +kernel
  have lw:d.wo.length<=10:=by cases d<;>decide +kernel
  walk_at"";refine A7 x.p a.Line x.dx _ _ rfl (t.t.aM h) T.lc.cls T.lc.st rfl ?_;walk_at"";have key:∃ O,AS [((.inr "lift":Ar),V.ref w1),(.inr "pulse",.ref w2),(.inr "gap",.ref w3),(.inr "hang",.ref w4)] (.inr d.wo)=some (.ref O)/\∀ H,Bt K H O (d.cv.map V.str):=by
   cases d
   .exact ⟨w1,rfl,sq1⟩
   .exact ⟨w4,rfl,sq4⟩
  obtain ⟨O,ev,sqw⟩:=Ag key;refine Ao a.gB _ (.inr d.wo) _ rfl rfl (.inr kd) ev ?_;refine Ue (DL O _ rfl (.inr (sqw _)) rfl (by cases d<;>rfl) ?_);rw [Kj];by_cases hw:x.l.st∈d.cv
  .rw [decide_eq_true hw];cases d with
   | lift =>
    obtain ⟨ok,q⟩:=qt (by unfold LW.fits;rw [decide_eq_true hw];rfl);walk_at"";refine Bm X.h X.dx _ rfl t.t.aA rfl ?_;walk_at"";exact ⟨X,R,i,x,rfl,t,h,qz,ok,λH' X' r b t' eh eS p ib=>q H' X' r [b] t' eh eS p (.one ib Age)⟩
   | bz =>
    obtain ⟨ok,q⟩:=qt (by unfold LW.fits;rw [decide_eq_true hw];rfl);walk_at"";refine Bm X.h X.dx _ rfl t.t.aA rfl ?_;walk_at"";exact ⟨X,R,i,x,rfl,t,h,qz,ok,λH' X' r xs t' eh eS p td=>q H' X' r xs t' eh eS p td⟩
  .rw [decide_eq_false hw];obtain ⟨_,e⟩:=qf (by unfold LW.fits;rw [decide_eq_false hw];rfl);walk_at"";refine ⟨(by simp only [Bk,I,J,L,Uc];omega),?_⟩;walk_at"";refine Ue (CC _ rfl ⟨(by rw [Uc];omega),_,rfl,?_⟩);refine ⟨(by simp only [Bk,I,J,L,Uc];omega),?_⟩;walk_at"";refine ⟨(by simp only [Bk,I,J,L,Uc];omega),?_⟩;walk_at"";refine A7 x.p a.Line x.dx _ _ rfl (t.t.aM h) T.lc.cls T.lc.st rfl ?_;walk_at"";refine ⟨(by rw [Uc];omega),?_⟩;walk_at"";refine ⟨(by simp only [Bk,I,J,L,Uc];omega),?_⟩;refine ⟨(by simp only [Bk,I,J,L,Uc];omega),?_⟩;exact ⟨Ax,e⟩
inductive A8 where
 | bf (b:Bool) (w:Str) (k:Int)
 | line (d:LW) (z:Str)
noncomputable def A8.vals:A8->List V
 | .bf b w k=>[.str (F4 b),.str w,.int k]
 | .line d z=>[.str d.wo,.str z]
inductive Er where
 | gJ | fR | jL
noncomputable def Er.adr (a:Aq):Er->Addr
 | .gJ=>a.eT | .fR=>a.cu | .jL=>a.hV
noncomputable def A8.res (S:PS):A8->Er ⊕ (List PyData×PS)
 | .bf b w k=>match Cg S w with
  | none=>.inl .fR
  | some hs=>if Cz k hs=true then .inr ([],BQ S b w k) else .inl .fR
 | .line d z=>match S.lns[Bp S.lns z]? with
  | none=>.inl .gJ
  | some ln=>if d.fits ln=true then .inr (d.go S (Bp S.lns z) ln) else .inl .jL
def A8.pre (S:PS):A8->Prop
 | .bf _ w _=>Ok w
 | .line d z=>Ok z/\∀ ln,S.lns[Bp S.lns z]?=some ln->Ok ln.st/\True/\(d.fits ln=true->d.ok S (Bp S.lns z) ln)
noncomputable def Cs (S:PS)(dd:Addr):PS:={ S with dn:=S.dn++[.ref dd] }
def RR (K:T3)(a:Aq):Sp:=λvs H Q E=>∃(X:HX)(R:AH)(d:A8)(dd:Addr),vs=[.ref X.h,.ref dd]/\HT K a H X R/\H dd=some (.tup d.vals)/\d.pre X.S/\X.q.length<1000 /\
 match d.res X.S with
 | .inl e=>∀ H',Ai H H'->E (.ref (e.adr a)) none H'
 | .inr r=>DE r.2/\r.2.dn.length<1000000/\r.1.length<=10/\∀ H' X' p xs,HT K a H' X' ((p,.lst (xs.map V.ref)) :: R)->X'.h=X.h->X'.S=(B3 (Cs r.2 dd)).2->Ah H H'->BC K H' xs (r.1++(B3 (Cs r.2 dd)).1)->Q (.ref p) H'
theorem At.sub {H:Hp}{C C':AH}(t:At H C)(s:C'.Sublist C):At H C':=⟨λc m=>t.at_ c (s.subset m),(s.map _).nodup t.nd⟩
theorem HT.sub {K:T3}{a:Aq}{H:Hp}{X:HX}{R R':AH}(t:HT K a H X R)(s:R'.Sublist R):HT K a H X R':=⟨t.t.sub ((VR _).append ((VR _).append ((VR _).append ((VR _).append s)))),t.ok⟩
theorem MN:∀(n:Nat)(S:PS),(aC n S).1.length<=n
 | 0,_=>Uq 0
 | n+1,S=>by
  unfold aC;split
  .exact U1 _
  .exact YH (MN n _)
theorem HT.nU {H:Hp}{X:HX}{R:AH}(t:HT K a H X R)(d':List V):HT K a (upd H X.da (.lst d')) { X with dn:=d' } R/\Ah H (upd H X.da (.lst d')):=by have B:Ah H (upd H X.da (.lst d')):=.chg t.t.dn rfl;exact ⟨⟨t.t.nU,⟨t.ok.num,t.ok.pre,t.ok.ne,λi x h=>(t.ok.lx i x h).ai B,t.ok.gr,t.ok.sk⟩⟩,B⟩
theorem RS:AR ["self","deed","answer"] ["self","deed"] (Ab (Af (top 28) 1)):=.of
theorem Kk:Nm (Ab (Af (top 28) 1)) "self":=.of
theorem F6:Nm (Ab (Af (top 28) 1)) "deed":=.of
theorem MO:Nm (Ab (Af (top 28) 1)) "answer":=.of
theorem Agj (F:AM K "do" "Hall.do" (Af (top 28) 1) f fd)(T:TxtG P w K mg a)(abl:A2 P w K mg base (AJ P w) 4 a.ae "at_switch" ["self","word","where","k"] (RJ K a))(abm:A2 P w K mg base (AJ P w) 8 a.ae "at_line" ["self","word","number"] (RP K a))(abn:A2 P w K mg base AB 3 a.ae "tones" ["self"] (Rv K a)):AF P w K mg base (AJ P w) 9 f fd ["self","deed"] (RR K a):=by
 refine F.bw RS λah A outer s H vs Q E hr h=>?_
 .replace h:=Dd h;obtain ⟨X,R,d,D,rfl,t,bS,pre,qz,q⟩:=h
  have abo:=T.hc.cls;have abp:=T.hc.cls;have abq:=T.hc.cls;have hu:=hr.units;have nd:=RS.nd;refine ⟨_,(@Aj _ _ _ _ _ (Ba (A5 HI (AK AL (Aa 1 F6) Am (λ_ _=>rfl)) (BN (Ac Ak (Ac Ak Ae))) (by with_unfolding_all rfl)) (An (A1 2 nd MO (Bs abl abo (Aa 0 Kk) hr.d BV (Ac (AK AL (Aa 1 F6) Am (λ_ _=>rfl)) (Ac (AK AL (Aa 1 F6) Am (λ_ _=>rfl)) (Ac (AK AL (Aa 1 F6) Am (λ_ _=>rfl)) Ae)))))) (An (A1 2 nd MO (Bs abm abp (Aa 0 Kk) hr.d BV (Ac (AK AL (Aa 1 F6) Am (λ_ _=>rfl)) (Ac (AK AL (Aa 1 F6) Am (λ_ _=>rfl)) Ae))))))
    (Aj (Bi (Cm Ve Vy Vz C7 (AN (Aa 0 Kk) rfl) (Ac (Aa 1 F6) Ae)))
    (An (AO (As BL (Aa 2 MO) (HL abn abq (Aa 0 Kk) hr.d A3)))))),?_⟩
  try dsimp only [av,aw]
  have aS:AW ["self","deed","answer"] [V.ref X.h,V.ref D]=[some (.ref X.h),some (.ref D),none]:=rfl;simp only [aS,VM,VN];refine ER λC hC=>?_;have rest:∀(rr:List PyData×PS),d.res X.S=.inr rr->∀(L:Hp)(B:HX)(r:Addr)(O:List Addr),HT K a L B ((r,.lst (O.map V.ref)) :: R)->B.h=X.h->B.S=rr.2->Ah H L->BC K L O rr.1->C [some (.ref X.h),some (.ref D),some (.ref r)] L:=by
   intro rr J L B r O t2 eh eS p2 td;rw [J] at q;replace q:=AD q;obtain ⟨cV,dz,tz,q⟩:=q
   rw [hC,<- eh];have eSd:B.dn=rr.2.dn:=by rw [<- eS];rfl
   walk_at"";refine A7 B.h a.ae B.dx _ _ rfl t2.t.aA T.hc.cls T.hc.dn rfl ?_;refine ⟨.inl ⟨rfl,_,.of t2.t.dn⟩,?_⟩;walk_at"";refine B1 B.da _ _ rfl rfl t2.t.dn (by rw [Uc,eSd];omega) ?_;obtain ⟨t3,p3⟩:=t2.nU (B.dn++[.ref D]);have e3:({ B with dn:=B.dn++[.ref D] }:HX).S=Cs rr.2 D:=by show ({ B.S with dn:=B.S.dn++[.ref D] }:PS)=_;rw [eS];rfl
   have q3:DE (Cs rr.2 D):=⟨cV.nd,cV.ln,cV.num,cV.m0,cV.m1,cV.pl,cV.aE⟩;generalize upd L B.da (.lst (B.dn++[.ref D]))=H3 at t3 p3 ⊢;have x3:=t3.t.aA;walk_at"";refine Bm B.h B.dx _ rfl x3 rfl ?_;dsimp only [Cd];refine CV { B with dn:=B.dn++[.ref D] } _ rfl t3 (by rw [e3];exact q3) (λH4 X4 r4 dy oI lg t4 p4 iz=>?_);rw [e3] at lg iz;have iA:H4 r4=some (.lst (dy.map V.ref)):=t4.t.rest.hd;have du:H4 r=some (.lst (O.map V.ref)):=t4.t.rest.tl.hd;have jM:=td.ai (p3.trans p4);have f1:=jM.len;have f2:=iz.len;have f3:(B3 (Cs rr.2 D)).1.length<=100:=U7 (MN _ _) cV.aE;walk_at"";refine Ue (Ue (Bn r r4 _ _ rfl rfl du iA (by rw [T7,T7,Uc];omega) (λp np=>?_)));rw [<- Uy];have t5:=(t4.new (u:=.lst ((O++dy).map V.ref)) np).sub (R':=(p,.lst ((O++dy).map V.ref)) :: R) (.cons₂ _ (.cons _ (.cons _ (.refl _))));have p5:Ah H4 (upd H4 p (.lst ((O++dy).map V.ref))):=.new np;exact q _ X4 p (O++dy) t5 (oI.trans eh) lg (p2.trans (p3.trans (p4.trans p5))) ((jM.app iz).ai p5)
  clear hC
  have atd:∀{H1:Hp}{n:Nat}{v:V},Ai H H1->d.vals[n]?=some v->Bt K H1 D d.vals/\Cu d.vals (n:Int)=some v:=λI e=>⟨.of (I _ _ bS),C4 e⟩;cases d with
  | bf b z k =>
   have Y:=q;walk_at"";refine Ue (Uh (Ao D _ _ _ rfl rfl (.of bS) rfl ?_));walk_at"";refine ⟨Ax,λu nu=>?_⟩;have I:=(Ai.refl H).upd (o:=.tup [.str "stick",.str "mend"]) nu;have eu:(upd H u (.tup [.str "stick",.str "mend"])) u=some (.tup [.str "stick",.str "mend"]):=Al;generalize upd H u (.tup [.str "stick",.str "mend"])=H1 at I eu ⊢;refine Ue (DL u _ rfl (.inr (.of eu)) rfl rfl ?_);have ei:Ee (.str (F4 b)) [V.str "stick",V.str "mend"]=true:=by cases b<;>rfl
   rw [ei];have t1:=t.same I;have d1:=I _ _ bS;walk_at"";refine Bm X.h X.dx _ rfl t1.t.aA rfl ?_;walk_at"";refine Ue (Uh (Ao D _ _ _ rfl rfl (.of d1) rfl ?_));walk_at"";refine Ue (Uh (Ao D _ _ _ rfl rfl (.of d1) rfl ?_));walk_at"";refine Ue (Uh (Ao D _ _ _ rfl rfl (.of d1) rfl ?_));dsimp only [Cd];refine C8 X R b z k rfl ⟨t1,pre,?_⟩;cases eh:Cg X.S z with
   | none =>
    have J:A8.res X.S (.bf b z k)=.inl .fR:=by simp only [A8.res,eh]
    rw [J] at Y;exact Y H1 I
   | some hs =>
    dsimp only;by_cases hk:Cz k hs=true
    .have J:A8.res X.S (.bf b z k)=.inr ([],BQ X.S b z k):=by simp only [A8.res,eh,if_pos hk]
     rw [if_pos hk];intro L B r t2 cN cO p2;exact rest _ J L B r [] t2 cN cO ((Ah.of I).trans p2) .nil
    .have J:A8.res X.S (.bf b z k)=.inl .fR:=by simp only [A8.res,eh,if_neg hk]
     rw [J] at Y;rw [if_neg hk];exact Y H1 I
  | line d z =>
   have Y:=q;walk_at"";refine Ue (Uh (Ao D _ _ _ rfl rfl (.of bS) rfl ?_));walk_at"";refine ⟨Ax,λu nu=>?_⟩;have I:=(Ai.refl H).upd (o:=.tup [.str "stick",.str "mend"]) nu;have eu:(upd H u (.tup [.str "stick",.str "mend"])) u=some (.tup [.str "stick",.str "mend"]):=Al;generalize upd H u (.tup [.str "stick",.str "mend"])=H1 at I eu ⊢;refine Ue (DL u _ rfl (.inr (.of eu)) rfl rfl ?_);have ei:Ee (.str d.wo) [V.str "stick",V.str "mend"]=false:=by cases d<;>rfl
   rw [ei];have t1:=t.same I;have d1:=I _ _ bS;walk_at"";refine Bm X.h X.dx _ rfl t1.t.aA rfl ?_;walk_at"";refine Ue (Uh (Ao D _ _ _ rfl rfl (.of d1) rfl ?_));walk_at"";refine Ue (Uh (Ao D _ _ _ rfl rfl (.of d1) rfl ?_));dsimp only [Cd];refine Bn X R d z rfl t1 pre.1 qz (λzn=>?_) (λi ln ej ez=>?_)
   .have J:A8.res X.S (.line d z)=.inl .gJ:=by simp only [A8.res,RH zn]
    rw [J] at Y;exact Y H1 I
   .have gN:=t.oG ej;rw [ez] at gN;have iw:X.S.lns[Bp X.S.lns z]?=some ln:=by rw [gN];exact ej
    obtain ⟨k1,k2,k3⟩:=AD (pre.2 ln iw);rw [gN] at k3;refine ⟨k1,λhf=>⟨k2,?_⟩,λhf=>⟨k3 hf,λL B r O t2 cN cO p2 td=>?_⟩⟩
    .have J:A8.res X.S (.line d z)=.inl .jL:=by simp only [A8.res,iw,if_neg (show ¬ d.fits ln=true by rw [hf];exact UT)]
     rw [J] at Y;exact Y H1 I
    .have J:A8.res X.S (.line d z)=.inr (d.go X.S i ln):=by simp only [A8.res,gN,ej,if_pos hf]
     exact rest _ J L B r O t2 cN cO ((Ah.of I).trans p2) td
def Fw (K:T3)(a:Aq)(sel:LX->V):Sp:=λvs H Q E=>∃(X:HX)(R:AH)(z:Str),vs=[.ref X.h,.str z]/\HT K a H X R/\Ok z /\
 (∀(i:Nat)(x:LX),X.lines[i]?=some x->x.l.num=z->Q (sel x) H)/\(z ∉ X.lines.map (·.l.num)->E (.ref a.eT) none H)
def RT (K:T3)(a:Aq):Sp:=λvs H Q E=>∃(X:HX)(R:AH)(z:Str),vs=[.ref X.h,.str z]/\HT K a H X R/\Ok z /\
 (∀(i:Nat)(x:LX),X.lines[i]?=some x->x.l.num=z->∀ l,H l=none->Q (.ref l) (upd H l (.lst (x.hv.map V.ref))))/\(z ∉ X.lines.map (·.l.num)->E (.ref a.eT) none H)
def GN (K:T3)(a:Aq)(sel:HX->List V):Sp:=λvs H Q _=>∃(X:HX)(R:AH),vs=[.ref X.h]/\HT K a H X R/\∀ l,H l=none->Q (.ref l) (upd H l (.lst (sel X)))
theorem Agk:AR ["self","line"] ["self","line"] (Ab (Af (top 28) 18)):=.of
theorem Agl:Nm (Ab (Af (top 28) 18)) "self":=.of
theorem Agm:Nm (Ab (Af (top 28) 18)) "line":=.of
theorem Agn (F:AM K "way" "Hall.way" (Af (top 28) 18) f fd)(T:TxtH P w K mg a)(B:A2 P w K mg base (AJ P w) 1 a.ae "line_of" ["self","number"] (F0 K a)):AF P w K mg base (AJ P w) 2 f fd ["self","line"] (Fw K a λx=>.str x.l.st):=by
 refine F.bw Agk λV A outer s H vs Q E D h=>?_
 .replace h:=BZ h;obtain ⟨X,R,z,rfl,t,I,q,J⟩:=h
  have L:=T.hc.cls;refine ⟨_,(@An _ _ _ (AO (AN (Bs B L (Aa 0 Agl) D.d BV (Ac (Aa 1 Agm) Ae)) rfl))),?_⟩;try dsimp only [av,aw]
  walk_at"";refine Bm X.h X.dx _ rfl t.t.aA rfl ?_;walk_at"";refine BO X R z rfl ⟨t,I,λi x h O=>?_,J⟩;exact ⟨x.p,a.Line,x.dx,_,_,rfl,t.t.aM h,T.lc.cls,T.lc.st,rfl,q i x h O⟩
theorem Ago:AR ["self","line"] ["self","line"] (Ab (Af (top 28) 19)):=.of
theorem Agp:Nm (Ab (Af (top 28) 19)) "self":=.of
theorem Agq:Nm (Ab (Af (top 28) 19)) "line":=.of
theorem Agr (F:AM K "figures" "Hall.figures" (Af (top 28) 19) f fd)(T:TxtH P w K mg a)(B:A2 P w K mg base (AJ P w) 1 a.ae "line_of" ["self","number"] (F0 K a)):AF P w K mg base (AJ P w) 2 f fd ["self","line"] (Fw K a λx=>.str x.l.ao):=by
 refine F.bw Ago λV A outer s H vs Q E D h=>?_
 .replace h:=BZ h;obtain ⟨X,R,z,rfl,t,I,q,J⟩:=h
  have L:=T.hc.cls;refine ⟨_,(@An _ _ _ (AO (AN (Bs B L (Aa 0 Agp) D.d BV (Ac (Aa 1 Agq) Ae)) rfl))),?_⟩;try dsimp only [av,aw]
  walk_at"";refine Bm X.h X.dx _ rfl t.t.aA rfl ?_;walk_at"";refine BO X R z rfl ⟨t,I,λi x h O=>?_,J⟩;exact ⟨x.p,a.Line,x.dx,_,_,rfl,t.t.aM h,T.lc.cls,T.lc.di,rfl,q i x h O⟩
theorem Ags:AR ["self","line"] ["self","line"] (Ab (Af (top 28) 21)):=.of
theorem Agt:Nm (Ab (Af (top 28) 21)) "self":=.of
theorem Agu:Nm (Ab (Af (top 28) 21)) "line":=.of
theorem Agv (F:AM K "other" "Hall.other" (Af (top 28) 21) f fd)(T:TxtH P w K mg a)(B:A2 P w K mg base (AJ P w) 1 a.ae "line_of" ["self","number"] (F0 K a)):AF P w K mg base (AJ P w) 2 f fd ["self","line"] (Fw K a λx=>Ce x.l.ag):=by
 refine F.bw Ags λV A outer s H vs Q E D h=>?_
 .replace h:=BZ h;obtain ⟨X,R,z,rfl,t,I,q,J⟩:=h
  have L:=T.hc.cls;refine ⟨_,(@An _ _ _ (AO (AN (Bs B L (Aa 0 Agt) D.d BV (Ac (Aa 1 Agu) Ae)) rfl))),?_⟩;try dsimp only [av,aw]
  walk_at"";refine Bm X.h X.dx _ rfl t.t.aA rfl ?_;walk_at"";refine BO X R z rfl ⟨t,I,λi x h O=>?_,J⟩;exact ⟨x.p,a.Line,x.dx,_,_,rfl,t.t.aM h,T.lc.cls,T.lc.fa,rfl,q i x h O⟩
theorem Agw:AR ["self","line"] ["self","line"] (Ab (Af (top 28) 22)):=.of
theorem Agx:Nm (Ab (Af (top 28) 22)) "self":=.of
theorem Agy:Nm (Ab (Af (top 28) 22)) "line":=.of
theorem Agz (F:AM K "told_paper" "Hall.told_paper" (Af (top 28) 22) f fd)(T:TxtH P w K mg a)(B:A2 P w K mg base (AJ P w) 1 a.ae "line_of" ["self","number"] (F0 K a)):AF P w K mg base (AJ P w) 2 f fd ["self","line"] (Fw K a λx=>x.wv):=by
 refine F.bw Agw λV A outer s H vs Q E D h=>?_
 .replace h:=BZ h;obtain ⟨X,R,z,rfl,t,I,q,J⟩:=h
  have L:=T.hc.cls;refine ⟨_,(@An _ _ _ (AO (AN (Bs B L (Aa 0 Agx) D.d BV (Ac (Aa 1 Agy) Ae)) rfl))),?_⟩;try dsimp only [av,aw]
  walk_at"";refine Bm X.h X.dx _ rfl t.t.aA rfl ?_;walk_at"";refine BO X R z rfl ⟨t,I,λi x h O=>?_,J⟩;exact ⟨x.p,a.Line,x.dx,_,_,rfl,t.t.aM h,T.lc.cls,T.lc.wh,rfl,q i x h O⟩
theorem AgA:AR ["self","line"] ["self","line"] (Ab (Af (top 28) 20)):=.of
theorem AgB:Nm (Ab (Af (top 28) 20)) "self":=.of
theorem AgC:Nm (Ab (Af (top 28) 20)) "line":=.of
theorem AgD:Gm (Ab (Af (top 28) 20)) "list":=.of
theorem AgE (F:AM K "holds" "Hall.holds" (Af (top 28) 20) f fd)(T:TxtH P w K mg a)(B:A2 P w K mg base (AJ P w) 1 a.ae "line_of" ["self","number"] (F0 K a)):AF P w K mg base (AJ P w) 2 f fd ["self","line"] (RT K a):=by
 refine F.bw AgA λV A outer s H vs Q E D h=>?_
 .replace h:=BZ h;obtain ⟨X,R,z,rfl,t,I,q,J⟩:=h
  have L:=T.hc.cls;refine ⟨_,(@An _ _ _ (AO (Cw (Eg rfl) AgD T.cJ DZ (Ac (AN (Bs B L (Aa 0 AgB) D.d BV (Ac (Aa 1 AgC) Ae)) rfl) Ae)))),?_⟩;try dsimp only [av,aw]
  walk_at"";refine Bm X.h X.dx _ rfl t.t.aA rfl ?_;walk_at"";refine BO X R z rfl ⟨t,I,λi x h O=>?_,J⟩;refine A7 x.p a.Line x.dx _ _ rfl (t.t.aM h) T.lc.cls T.lc.he rfl ?_;exact .inl ⟨x.h,_,rfl,.inl (.of (t.t.jB h)),q i x h O⟩
theorem AgF:AR ["self"] ["self"] (Ab (Af (top 28) 25)):=.of
theorem AgG:Nm (Ab (Af (top 28) 25)) "self":=.of
theorem AgH:Gm (Ab (Af (top 28) 25)) "list":=.of
theorem AgI (F:AM K "waiting" "Hall.waiting" (Af (top 28) 25) f fd)(T:TxtH P w K mg a):AF P w K mg base AB 1 f fd ["self"] (GN K a λX=>X.q.map V.str):=by
 refine F.ok AgF λB A outer s H vs Q E D h=>?_
 .replace h:=AY h;obtain ⟨X,R,rfl,t,q⟩:=h
  refine ⟨_,(@An _ _ _ (AO (Cw (Eg rfl) AgH T.cJ DZ (Ac (AN (Aa 0 AgG) rfl) Ae)))),?_⟩;try dsimp only [av,aw]
  walk_at"";refine A7 X.h a.ae X.dx _ _ rfl t.t.aA T.hc.cls T.hc.qu rfl ?_;walk_at"";exact .inl ⟨X.qa,_,rfl,.inl (.of t.t.q),q⟩
theorem AgJ:AR ["self"] ["self"] (Ab (Af (top 28) 27)):=.of
theorem AgK:Nm (Ab (Af (top 28) 27)) "self":=.of
theorem AgL:Gm (Ab (Af (top 28) 27)) "list":=.of
theorem AgM (F:AM K "deeds" "Hall.deeds" (Af (top 28) 27) f fd)(T:TxtH P w K mg a):AF P w K mg base AB 1 f fd ["self"] (GN K a λX=>X.dn):=by
 refine F.ok AgJ λB A outer s H vs Q E D h=>?_
 .replace h:=AY h;obtain ⟨X,R,rfl,t,q⟩:=h
  refine ⟨_,(@An _ _ _ (AO (Cw (Eg rfl) AgL T.cJ DZ (Ac (AN (Aa 0 AgK) rfl) Ae)))),?_⟩;try dsimp only [av,aw]
  walk_at"";refine A7 X.h a.ae X.dx _ _ rfl t.t.aA T.hc.cls T.hc.dn rfl ?_;walk_at"";exact .inl ⟨X.da,_,rfl,.inl (.of t.t.dn),q⟩
theorem AgN:AR ["self"] ["self"] (Ab (Af (top 28) 26)):=.of
theorem AgO:Nm (Ab (Af (top 28) 26)) "self":=.of
theorem AgP:Gm (Ab (Af (top 28) 26)) "AT_SEEKERS":=.of
theorem AgQ (F:AM K "steps" "Hall.steps" (Af (top 28) 26) f fd)(T:TxtH P w K mg a)(B:A2 P w K mg base AB 1 a.aF "steps" ["self"] (QL K a)):AF P w K mg base AB 2 f fd ["self"] (GN K a λX=>X.sk.k.wt.map V.int):=by
 refine F.ok AgN λO A outer s H vs Q E D h=>?_
 .replace h:=AY h;obtain ⟨X,R,rfl,t,q⟩:=h
  have I:=T.sc.c.cls;have sk:=t.t.jC T.sc t.ok.sk;obtain ⟨J,L⟩:=sk.ins;refine ⟨_,(@An _ _ _ (AO (HL B I (Az P w K (AN (Aa 0 AgO) rfl) (GG AgP T.iq)) D.d A3))),?_⟩;try dsimp only [av,aw]
  walk_at"";refine A7 X.h a.ae X.dx _ _ rfl t.t.aA T.hc.cls T.hc.sw rfl ?_;walk_at"";refine Ao X.sd _ (.inr "") _ rfl rfl (.of t.t.sd) t.ok.kW ?_;walk_at"";refine Bm X.sk.p J _ rfl L rfl ?_;exact ⟨X.sk.p,a.aF,X.sk.ra,X.sk.rb,X.sk.rc,X.sk.rs,X.sk.rw,_,_,_,_,_,_,_,rfl,sk,q⟩
noncomputable def Bc (S:PS)(z:Str):Option (List V×List Bool×List Int):=if z=Ud "" then some (S.sk.hs,S.sk.js,S.sk.ts) else (Cf S z).map λg=>(g.hs,g.js,g.ts)
noncomputable def DN (S:PS):V->V
 | .int i=>match S.lns[i.toNat]? with
  | none=>.aa
  | some ln=>.str ln.num
 | _=>.aa
def IA (S:PS):Prop:=∀ v∈S.sk.hs,v=.aa\/∃ i:Nat,v=.int i/\i<S.lns.length
noncomputable def Kl (S:PS)(z:Str)(r:List V×List Bool×List Int):List V:=CS (if z=Ud "" then r.1.map (DN S) else r.1) (λk=>r.2.1.getD k false) r.1.length
section
variable {K:T3}{a:Aq}{H:Hp}{X:HX}{R:AH}
theorem HT.rk (t:HT K a H X R)(sc:Ft K a a.aF)(gc:EK K a a.aR){z:Str}(J:Ok z){r:List V×List Bool×List Int}(e:Bc X.S z=some r) :
  ∃ p C Y rb rc,C∈a.bR/\CQ K a H p C Y rb rc r.1 r.2.1 r.2.2/\∀(c:VK)(E:XK),c (.ref p) H->F1 K a [.ref X.h,.str z] H c E:=by
 have eh:Cg X.S z=some r.1:=by
  unfold Bc at e;unfold Cg;by_cases B:z=Ud ""
  .rw [if_pos B] at e ⊢;cases e;rfl
  .rw [if_neg B] at e ⊢;obtain ⟨g,e1,D⟩:=Ag (UX.mp e);rw [e1,<- D];rfl
 by_cases B:z=Ud ""
 .have s:=t.t.jC sc t.ok.sk;have I:r=(X.sk.k.hs,X.sk.k.js,X.sk.k.ts):=by
   unfold Bc at e;rw [if_pos B] at e;exact (UK e).symm
  subst I;refine ⟨X.sk.p,a.aF,_,_,_,sc.c.mem,s.r,λc E h=>⟨X,R,z,rfl,t,J,λ_=>h,λi g hi D=>absurd (D.trans B) (t.ok.ne g (Uw hi)),λn0 _=>absurd B n0⟩⟩
 .have jK:(X.S.aD.map (·.pre)).Nodup:=by show ((X.groups.map (·.g)).map (·.pre)).Nodup;rw [UD];exact t.ok.pre
  have m:z∈X.groups.map (·.g.pre):=by apply Yk;intro m;unfold Bc at e;rw [if_neg B,show Cf X.S z=none from MM (by show z ∉ (X.groups.map (·.g)).map (·.pre);rw [UD];exact m)] at e;cases e
  obtain ⟨i,g,h,rfl⟩:=AQ (Kd m);have ej:X.S.aD[i]?=some g.g:=by show (X.groups.map (·.g))[i]?=_;rw [Uj,h];rfl
  have I:r=(g.g.hs,g.g.js,g.g.ts):=by unfold Bc at e;rw [if_neg B,show Cf X.S g.g.pre=some g.g from Kh jK ej] at e;exact (UK e).symm
  subst I;have rk:=t.t.gI h gc (t.ok.gr g (Uw h));refine ⟨g.p,a.aR,_,_,_,gc.mem,rk,λc E hc=>⟨X,R,g.g.pre,rfl,t,J,λe0=>absurd e0 B,λj g2 L D=>?_,λ_ n=>absurd m n⟩⟩;by_cases O:j=i
  .subst O;rw [L] at h;cases h;exact hc
  .exact absurd D (Ek t.ok.pre (i:=j) (j:=i) (by rw [Uj,L];rfl) (by rw [Uj,h];rfl) O)
theorem AgR {S:PS}{z:Str}(e:Bc S z=none):z≠Ud ""/\z ∉ S.aD.map (·.pre):=by
 refine RK ?_;unfold Bc at e;unfold Cg;by_cases B:z=Ud ""
 .rw [if_pos B] at e;cases e
 .rw [if_neg B] at e ⊢;rw [yt] at e ⊢;exact e
theorem HT.tE (t:HT K a H X R){z:Str}(I:Ok z)(e:Bc X.S z=none)(c:VK){E:XK}(h:E (.ref a.cu) none H):F1 K a [.ref X.h,.str z] H c E:=by
 obtain ⟨J,D⟩:=AgR e;have B:X.S.aD.map (·.pre)=X.groups.map (·.g.pre):=by show (X.groups.map (·.g)).map (·.pre)=_;rw [UD];rfl
 rw [B] at D;exact ⟨X,R,z,rfl,t,I,λe=>absurd e J,λi g L e=>absurd (Ur.mpr ⟨g,Uw L,e⟩) D,λ_ _=>h⟩
end
def RV (K:T3)(a:Aq):Sp:=λvs H Q E=>∃(X:HX)(R:AH)(z:Str),vs=[.ref X.h,.str z]/\HT K a H X R/\Ok z /\
 match Bc X.S z with
 | none=>E (.ref a.cu) none H
 | some r=>∀ l,H l=none->Q (.ref l) (upd H l (.lst (r.2.2.map V.int)))
def RW (K:T3)(a:Aq):Sp:=λvs H Q E=>∃(X:HX)(R:AH)(z:Str),vs=[.ref X.h,.str z]/\HT K a H X R/\Ok z/\IA X.S /\
 match Bc X.S z with
 | none=>E (.ref a.cu) none H
 | some r=>∀ H' t,Ai H H'->H' t=some (.tup (Kl X.S z r))->Q (.ref t) H'
theorem AgS:AR ["self","where"] ["self","where"] (Ab (Af (top 28) 24)):=.of
theorem AgT:Nm (Ab (Af (top 28) 24)) "self":=.of
theorem AgU:Nm (Ab (Af (top 28) 24)) "where":=.of
theorem AgV (F:AM K "shares" "Hall.shares" (Af (top 28) 24) f fd)(T:TxtH P w K mg a)(I:A2 P w K mg base (AJ P w) 1 a.ae "switches_of" ["self","where"] (F1 K a))(J:∀ C∈a.bR,A2 P w K mg base AB 1 C "shares" ["self"] (Qm K a)):AF P w K mg base (AJ P w) 2 f fd ["self","where"] (RV K a):=by
 refine F.bw AgS λah A outer s H vs Q E B h=>?_
 .replace h:=BI h;obtain ⟨X,R,z,rfl,t,D,q⟩:=h
  have cB:=T.cB;have L:=T.hc.cls;refine ⟨_,(@An _ _ _ (AO (LV J cB (Bs I L (Aa 0 AgT) B.d BV (Ac (Aa 1 AgU) Ae)) B.d A3))),?_⟩;try dsimp only [av,aw]
  walk_at"";refine Bm X.h X.dx _ rfl t.t.aA rfl ?_;walk_at"";dsimp only [Cd];cases er:Bc X.S z with
  | none=>rw [er] at q;exact t.tE D er _ q
  | some r =>
   rw [er] at q;obtain ⟨p,C,O,V,Y,mC,rk,go⟩:=Et (t.rk T.sc T.gc D er);obtain ⟨dx,fs,ep,F3⟩:=AQ rk.ins;refine go _ _ ?_;refine Ao p C dx fs rfl mC ep (F3.m _ (by decide)) ?_;exact ⟨p,C,O,V,Y,_,_,_,rfl,rk,q⟩
theorem AgW (X:HX):(X.gH.map λkv=>kV kv.1)=X.S.lns.map λln=>V.str ln.num:=by show ((X.lines.map _).map _)=((X.lines.map (·.l)).map _);rw [UD,UD];rfl
theorem RY:AR ["self","where","switches","holders","numbers"] ["self","where"] (Ab (Af (top 28) 23)):=.of
theorem RZ:Nm (Ab (Af (top 28) 23)) "self":=.of
theorem R0:Nm (Ab (Af (top 28) 23)) "where":=.of
theorem MQ:Nm (Ab (Af (top 28) 23)) "switches":=.of
theorem Km:Nm (Ab (Af (top 28) 23)) "holders":=.of
theorem AgX:EI (Ab (Af (top 28) 23)) "numbers":=by walk_at "k"
theorem AgY:Gm (Ab (Af (top 28) 23)) "paper_of":=.of
theorem AgZ:Gm (Ab (Af (top 28) 23)) "AT_SEEKERS":=.of
theorem Ag0:Gm (Ab (Af (top 28) 23)) "list":=.of
noncomputable def MR:Scope:={ kind:=.function,names:=[(".0",.local),("place",.local),("numbers",.free)],isGenerator:=false,isCoroutine:=false,more:=[] }
theorem R1:BE MR (Ab (Af (top 28) 23)) ["place","numbers"] ["self","where","switches","holders","numbers"] [none,some 4]:=BE.mk' rfl (by decide +kernel) (by decide +kernel) (by decide +kernel) (by decide +kernel) rfl (by decide +kernel)
theorem MT:Nm MR "place":=.of
theorem Ag1:EJ MR "numbers":=by walk_at "k"
theorem Ag2 (F:AM K "paper" "Hall.paper" (Af (top 28) 23) f fd)(T:TxtH P w K mg a)(ix:A2 P w K mg base (AJ P w) 1 a.ae "switches_of" ["self","where"] (F1 K a))(oR:∀ C∈a.bR,A2 P w K mg base AB 1 C "holders" ["self"] (Ql K a))(oS:∀ C∈a.bR,A2 P w K mg base AB 1 C "stuck" ["self"] (QG K a))(oT:BB P w K mg base AB 1 "paper_of" ["holders","stuck"] (Md K)):AF P w K mg base (AJ P w) 2 f fd ["self","where"] (RW K a):=by
 refine F.bw RY λah A outer s H vs Q E hr h=>?_
 .replace h:=BZ h;obtain ⟨X,R,z,rfl,t,zk,ho,q⟩:=h
  have cB:=T.cB;have iy:=T.hc.cls;have hu:=hr.units;have nd:=RY.nd;refine ⟨_,(@Aj _ _ _ _ _ (A1 2 nd MQ (Bs ix iy (Aa 0 RZ) hr.d BV (Ac (Aa 1 R0) Ae)))
    (Aj (A1 3 nd Km (LV oR cB (Aa 2 MQ) hr.d A3))
    (Aj (Ba (A5 (B7 hu) (Aa 1 R0) (GG AgZ T.iq) (Bb _)) (Aj (HN 4 nd AgX (Cw (Ad5 rfl) Ag0 T.cJ DZ (Ac (AN (Aa 0 RZ) rfl) Ae)))
     (An (Jz (j:=3) rfl nd rfl (Uh Km.loc) R1 (Df (Aa 3 Km)) (λcl C fp pins s₂ H₂=>(Bo 0 R1.nd MT.comp)) (λcl C fp pins s₂ H₂=>FQ) (λcl C fp pins s₂ H₂=>(N8 (A5 FG (Aa 0 MT.comp) Ck (Bb _)) Ck (AK (AcP K rfl) (Fn 1 Ag1.comp) (Aa 0 MT.comp) (λ_ _=>rfl)))) (by rfl) (by intro _;rfl) (Uh rfl)))) Be)
    (An (AO (Bx oT AgY hr.d A3 (Ac (Aa 3 Km) (Ac (LV oS cB (Aa 2 MQ) hr.d A3) Ae)))))))),?_⟩
  try dsimp only [av,aw]
  have aS:AW ["self","where","switches","holders","numbers"] [V.ref X.h,V.str z]=[some (.ref X.h),some (.str z),none,none,none]:=rfl;simp only [aS,VM,VN];walk_at"";refine Bm X.h X.dx _ rfl t.t.aA rfl ?_;walk_at"";dsimp only [Cd];cases er:Bc X.S z with
  | none=>rw [er] at q;exact t.tE zk er _ q
  | some r =>
   rw [er] at q;dsimp only at q;obtain ⟨p,C,ra,rb,rc,mC,rk,go⟩:=Et (t.rk T.sc T.gc zk er);obtain ⟨dx,fs,ep,F3⟩:=AQ rk.ins;refine go _ _ ?_;walk_at"";refine Ao p C dx fs rfl mC ep (F3.m _ (by decide)) ?_;refine Jn p C ra rb rc _ _ _ rfl ⟨rk,λl nl=>?_⟩;have s1:=(Ai.refl H).upd (o:=.lst r.1) nl;have e1:(upd H l (.lst r.1)) l=some (.lst r.1):=Al;generalize upd H l (.lst r.1)=H1 at s1 e1 ⊢;have t1:=t.same s1;walk_at"";have last:∀(B:Hp)(D:Addr)(I:List V),Ai H B->B D=some (.lst I)->I=(if z=Ud "" then r.1.map (DN X.S) else r.1)->∀(J:Hp)(u:Addr),Ai B J->J u=some (.lst ((Ej r.2.1 r.2.1.length).map V.int))->Md K [.ref D,.ref u] J Q E0:=by
    intro B D I s3 e3 eh J u Y e4;have hl:I.length=r.1.length:=by rw [eh];split<;>simp
    refine Ao D u I _ rfl (Y _ _ e3) e4 (by rw [hl];exact rk.z) (λH5 tt s5 nt e5=>?_);refine q H5 tt (s3.trans (Y.trans s5)) ?_;rw [e5,hl];unfold Kl;rw [<- eh];exact congrArg (λy=>some (HO.tup y)) (AfO λk hk=>AeX (by rw [rk.lj];exact hk))
   by_cases z0:z=Ud ""
   .have ehs:r.1=X.sk.k.hs:=by
     unfold Bc at er;rw [if_pos z0] at er;rw [<- UK er];rfl
    have ho1:∀ v∈r.1,v=.aa\/∃ i:Nat,v=.int i/\i<X.S.lns.length:=by rw [ehs];exact ho
    refine EC (decide_eq_true (congrArg V.str z0)) ?_;walk_at"";refine A7 X.h a.ae X.dx _ _ rfl t1.t.aA T.hc.cls T.hc.li rfl ?_;walk_at"";refine AU X.ld _ rfl (.of t1.t.ld) (λnm nnm=>?_);rw [AgW];have s2:=(Ai.refl H1).upd (o:=.lst (X.S.lns.map λln=>V.str ln.num)) nnm;have e2:(upd H1 nm (.lst (X.S.lns.map λln=>V.str ln.num))) nm=some (.lst (X.S.lns.map λln=>V.str ln.num)):=Al;generalize upd H1 nm (.lst (X.S.lns.map λln=>V.str ln.num))=H2 at s2 e2 ⊢;have bZ:=s2 _ _ e1;walk_at"";refine ⟨⟨_,.of bZ⟩,λD nD=>?_⟩;refine LC (K:=K) (a:=l) (xs:=r.1) (λi σ B=>∃ x,σ=[x,some (.ref nm)]/\Ai H2 B/\B D=some (.lst ((r.1.take i).map (DN X.S)))) ⟨none,rfl,(Ai.refl H2).upd nD,Al⟩ (λi σ B _ ⟨_,_,L,_⟩=>.of (L _ _ bZ)) ?_ ?_
    .intro i x σ B hi O;replace O:=Av O;obtain ⟨x0,rfl,L,hL⟩:=O;have et:r.1.take (i+1)=r.1.take i++[x]:=by rw [VQ,hi];rfl
     have len:((r.1.take i).map (DN X.S)).length<sizeLine:=by rw [T7,VF,Uc];have:=rk.z;omega
     rcases ho1 x (Uw hi) with rfl | ⟨j,rfl,jl⟩
     .walk_at"";refine ⟨_,hL,len,_,rfl,L.cj nD,?_⟩;rw [Al,et,Uy];rfl
     .have hj:X.S.lns[j]?=some X.S.lns[j]:=Uu jl;have ej:DN X.S (.int j)=.str X.S.lns[j].num:=by
       show (match X.S.lns[((j:Nat):Int).toNat]? with | none=>V.aa | some ln=>.str ln.num)=_;rw [Xo,hj]
      walk_at"";refine Uh (Ao nm _ _ _ rfl rfl (.of (L _ _ e2)) (C4 (j:=j) (by rw [Uj,hj];rfl)) ?_);refine ⟨_,hL,len,_,rfl,L.cj nD,?_⟩;rw [Al,et,Uy];show some (HO.lst (_++[_]))=some (HO.lst (_++[DN X.S (.int j)]));rw [ej]
    .intro σ B O;replace O:=Av O;obtain ⟨x0,rfl,L,hL⟩:=O;rw [VL] at hL;have s3:Ai H B:=s1.trans (s2.trans L);have tF:=rk.same s3;obtain ⟨ou,fs3,tD,F33⟩:=AQ tF.ins;walk_at"";refine Ao p C ou fs3 rfl mC tD (F33.m _ (by decide)) ?_;refine Jn p C ra rb rc _ _ _ rfl ⟨tF,λJ u Y nu e4=>?_⟩;dsimp only [Cd];exact last B D _ s3 hL (by rw [if_pos z0]) J u Y e4
   .refine ED (decide_eq_false (λe=>z0 (V.str.inj e))) ?_;have jN:=rk.same s1;obtain ⟨dx1,fs1,iu,F31⟩:=AQ jN.ins;walk_at"";refine Ao p C dx1 fs1 rfl mC iu (F31.m _ (by decide)) ?_;refine Jn p C ra rb rc _ _ _ rfl ⟨jN,λJ u Y nu e4=>?_⟩;dsimp only [Cd];exact last H1 l r.1 s1 e1 (by rw [if_neg z0]) J u Y e4
noncomputable def BF (S:PS)(p:Str×Int):Option V:=(Cg S p.1).bind λhs=>if 0<=p.2 then hs[p.2.toNat]? else none
noncomputable def GO (w:Str)(i:Nat)(z:Str):V:=if w=Ud "" then .int i else .str z
theorem Ag3 {w:Str}{i j:Nat}{y z:Str}(n:i≠j)(m:y≠z):GO w i y≠GO w j z:=by
 unfold GO;split
 .exact λe=>n (Int.ofNat.inj (V.int.inj e))
 .exact λe=>m (V.str.inj e)
theorem GP {w:Str}{i:Nat}{z:Str}:GO w i z≠.aa:=by unfold GO;split<;>exact λe=>nomatch e
theorem R4 {S:PS}{p:Str×Int}{v:V}(e:BF S p=some v):0<=p.2:=by
 unfold BF at e;cases h:Cg S p.1 with
 | none=>rw [h] at e;cases e
 | some hs =>
  rw [h] at e;by_cases z:0<=p.2
  .exact z
  .rw [vZ,if_neg z] at e;cases e
theorem GQ {S:PS}{z:Str}{g:Gr}(e:Cf S z=some g):g∈S.aD/\g.pre=z:=⟨yi e,by have:=yj (show S.aD.find? (λg=>decide (g.pre=z))=some g from e);exact of_decide_eq_true this⟩
theorem R5 {hs:List V}{k:Int}{v:V}(e:(if 0<=k then hs[k.toNat]? else none)=some v):Cz k hs=true/\hs.getD k.toNat .aa=v:=by
 by_cases z:0<=k
 .rw [if_pos z] at e;have l:=(US.mp e).1;exact ⟨Ei.mpr ⟨z,by omega⟩,by rw [UM,e];rfl⟩
 .rw [if_neg z] at e;cases e
theorem Ag4 {S:PS}{p:Str×Int}{v:V}(e:BF S p=some v)(n:v≠.aa):D5 S p.1 p.2:=by
 unfold BF Cg at e;unfold D5;by_cases z:p.1=Ud ""
 .rw [if_pos z] at e ⊢;obtain ⟨a,b⟩:=R5 e;exact ⟨a,by rw [b];exact n⟩
 .rw [if_neg z] at e ⊢;cases h:Cf S p.1 with
  | none=>rw [h] at e;cases e
  | some g =>
   rw [h] at e;obtain ⟨a,b⟩:=R5 (hs:=g.hs) e;exact ⟨g,(GQ h).1,(GQ h).2,a,by rw [b];exact n⟩
theorem F7 {S:PS}{w z:Str}{h:Gr->Gr}(B:∀ g,(h g).pre=g.pre):Cf { S with aD:=S.aD.map λg=>if g.pre=w then h g else g } z=(Cf S z).map λg=>if z=w then h g else g:=by
 show (S.aD.map _).find? _=(S.aD.find? _).map _;induction S.aD with
 | nil=>rfl
 | cons y l ih =>
  rw [Vd,Wd,Wd];have e:(if y.pre=w then h y else y).pre=y.pre:=by split;exact B y;rfl
  rw [e];by_cases c:y.pre=z
  .rw [decide_eq_true c,<- c];rfl
  .rw [decide_eq_false c];exact ih
theorem R6 {S:PS}{p t:Str×Int}(g:0<=t.2)(n:p≠t):BF (aB S t.1 t.2) p=BF S p:=by
 have B:∀ hs:List V,p.1=t.1->(if 0<=p.2 then (hs.set t.2.toNat .aa)[p.2.toNat]? else none)=(if 0<=p.2 then hs[p.2.toNat]? else none):=λhs e=>by
  by_cases z:0<=p.2
  .rw [if_pos z,if_pos z,V5];intro D;exact n (Prod.ext e (by omega))
  .rw [if_neg z,if_neg z]
 unfold BF Cg aB;by_cases z:p.1=Ud ""
 .rw [if_pos z,if_pos z];by_cases y:t.1=Ud ""
  .rw [if_pos y];exact B _ (z.trans y.symm)
  .rw [if_neg y]
 .rw [if_neg z,if_neg z];by_cases y:t.1=Ud ""
  .rw [if_pos y];rfl
  .rw [if_neg y,F7 (h:=λg=>{ g with hs:=g.hs.set t.2.toNat .aa }) λ_=>rfl];cases Cf S p.1 with
   | none=>rfl
   | some g =>
    rw [Vw,Vw,vZ,Vw,vZ];by_cases e:p.1=t.1
    .rw [if_pos e];exact B _ e
    .rw [if_neg e]
theorem IC:∀{ts:List (Str×Int)}{S:PS}{p:Str×Int},(∀ t∈ts,0<=t.2)->p ∉ ts->BF (aq S ts) p=BF S p
 | [],_,_,_,_=>rfl
 | t :: ts,S,p,g,n=>(IC (λt m=>g t (UO _ m)) (λm=>n (UO _ m))).trans (R6 (g t UY) λe=>n (e▸UY))
theorem GR:∀{ts:List (Str×Int)}{S:PS},ts.Nodup->(∀ p∈ts,∃ v,BF S p=some v/\v≠.aa)->cA S ts
 | [],_,_,_=>trivial
 | t :: ts,S,B,h=>by
  obtain ⟨v,e,n⟩:=h t UY;have B:=UH.mp B;refine ⟨Ag4 e n,GR B.2 λp m=>?_⟩;obtain ⟨u,f,k⟩:=h p (UO _ m);exact ⟨u,by rw [R6 (R4 e) (λz=>B.1 (z▸m))];exact f,k⟩
def ID (ns:List Str)(g:Gr):Prop:=∀ v∈g.hs,v=.aa\/∃ z∈ns,v=.str z
structure WG (S:PS):Prop where
 num:(S.lns.map (·.num)).Nodup
 pre:(S.aD.map (·.pre)).Nodup
 ne:∀ g∈S.aD,g.pre≠Ud ""
 aE:S.lns.length<=60
 pos:0<S.lns.length
 dA:S.q.Nodup
 cC:∀ z∈S.q,z∈S.lns.map (·.num)
 m0:0<=S.sk.mark
 m1:S.sk.mark<S.sk.hs.length
 pl:S.sk.places=S.lns.length
 hs:IA S
 hg:∀ g∈S.aD,ID (S.lns.map (·.num)) g
 go:∀ g∈S.aD,FY g
 so:GJ S.sk
 tx:∀ z∈S.lns.map (·.num),Ok z/\0<z.length
 px:∀ g∈S.aD,Ok g.pre
 lo:2<=S.long
 hi:S.long<=9
 tl:∀ z∈S.lns.map (·.num),(z.length:Int)=S.long
 pz:∀ g∈S.aD,(g.pre.length:Int)<=S.long - 2
theorem IA.num {S S':PS}(h:IA S)(e:S'.sk.hs=S.sk.hs)(l:S'.lns.length=S.lns.length):IA S':=λv m=>by rw [l];exact h v (e▸m)
theorem Kn {l B:List Ln}(e:B.map (·.num)=l.map (·.num)):B.length=l.length:=by have:=congrArg V9 e;rwa [T7,T7] at this
theorem WG.lns {S:PS}(w:WG S){l:List Ln}(e:l.map (·.num)=S.lns.map (·.num)):WG { S with lns:=l } :=
 ⟨by show (l.map _).Nodup;rw [e];exact w.num,w.pre,w.ne,by show l.length<=60;rw [Kn e];exact w.aE,by show 0<l.length;rw [Kn e];exact w.pos,w.dA,λz m=>by show z∈l.map _;rw [e];exact w.cC z m,w.m0,w.m1,by show S.sk.places=(l.length:Int);rw [Kn e];exact w.pl,w.hs.num rfl (Kn e),(by show ∀ g∈S.aD,ID (l.map (·.num)) g;rw [e];exact w.hg),w.go,w.so,(by show ∀ z∈l.map (·.num),_;rw [e];exact w.tx),w.px,w.lo,w.hi,(by show ∀ z∈l.map (·.num),_;rw [e];exact w.tl),w.pz⟩
theorem WG.cM {S:PS}(w:WG S){q:List Str}(B:q.Nodup)(i:∀ z∈q,z∈S.lns.map (·.num)):WG { S with q:=q }:=⟨w.num,w.pre,w.ne,w.aE,w.pos,B,i,w.m0,w.m1,w.pl,w.hs,w.hg,w.go,w.so,w.tx,w.px,w.lo,w.hi,w.tl,w.pz⟩
theorem WG.oU {S:PS}(w:WG S){d:List V}:WG { S with dn:=d }:=⟨w.num,w.pre,w.ne,w.aE,w.pos,w.dA,w.cC,w.m0,w.m1,w.pl,w.hs,w.hg,w.go,w.so,w.tx,w.px,w.lo,w.hi,w.tl,w.pz⟩
theorem WG.oV {S:PS}(w:WG S){k:Sk}(p:k.places=S.sk.places)(B:0<=k.mark)(D:k.mark<k.hs.length)(h:∀ v∈k.hs,v=.aa\/∃ i:Nat,v=.int i/\i<S.lns.length)(H:GJ k):WG { S with sk:=k }:=⟨w.num,w.pre,w.ne,w.aE,w.pos,w.dA,w.cC,B,D,p.trans w.pl,h,w.hg,w.go,H,w.tx,w.px,w.lo,w.hi,w.tl,w.pz⟩
theorem WG.tG {S:PS}(w:WG S){z:Str}{h:Gr->Gr}(B:∀ g,(h g).pre=g.pre)(H:∀ g,ID (S.lns.map (·.num)) g->ID (S.lns.map (·.num)) (h g))(I:∀ g,FY g->FY (h g)):WG { S with aD:=S.aD.map λg=>if g.pre=z then h g else g }:=by
 have J:(S.aD.map λg=>if g.pre=z then h g else g).map (·.pre)=S.aD.map (·.pre):=by
  rw [UD];refine Wl λg _=>?_;show (if g.pre=z then h g else g).pre=g.pre;split
  .exact B g
  .rfl
 have all:∀{p:Gr->Prop},(∀ g,p g->p (h g))->(∀ g∈S.aD,p g)->∀ g∈(S.aD.map λg=>if g.pre=z then h g else g),p g:=λ{p} f a g m=>by
  obtain ⟨y,D,rfl⟩:=Ur.mp m;split
  .exact f y (a y D)
  .exact a y D
 exact ⟨w.num,by show (V4 _ (S.aD.map _)).Nodup;rw [J];exact w.pre,all (p:=λg=>g.pre≠Ud "") (λg n=>by rw [B];exact n) w.ne,w.aE,w.pos,w.dA,w.cC,w.m0,w.m1,w.pl,w.hs,all H w.hg,all I w.go,w.so,w.tx,all (p:=λg=>Ok g.pre) (λg n=>by rw [B];exact n) w.px,w.lo,w.hi,w.tl,all (p:=λg=>(g.pre.length:Int)<=S.long - 2) (λg n=>by rw [B];exact n) w.pz⟩
theorem F8 {α:Type}{l:List α}{i:Nat}{x y:α}(h:y∈l.set i x):y=x\/y∈l:=(vY h).symm
theorem WG.aB {S:PS}(w:WG S)(z:Str)(k:Int):WG (aB S z k):=by
 unfold Lw.aB;split
 .exact w.oV rfl w.m0 (by show _<((S.sk.hs.set _ _).length:Int);rw [UE];exact w.m1) (λv m=>(F8 m).elim .inl (w.hs v)) ⟨by rw [UE];exact w.so.lj,by rw [UE];exact w.so.lt,by rw [UE];exact w.so.ls,by rw [UE];exact w.so.lw,by rw [UE];exact w.so.z⟩
 .exact w.tG (h:=λg=>{ g with hs:=g.hs.set k.toNat .aa }) (λ_=>rfl) (λg a v m=>(F8 m).elim .inl (a v)) λg a=>⟨by rw [UE];exact a.lj,by rw [UE];exact a.lt,by rw [UE];exact a.z⟩
theorem WG.aq:∀(ts:List (Str×Int)){S:PS},WG S->WG (aq S ts)
 | [],_,w=>w
 | t :: ts,_,w=>WG.aq ts (w.aB t.1 t.2)
theorem WG.bf {S:PS}(w:WG S)(b:Bool)(z:Str)(k:Int):WG (BQ S b z k):=by
 unfold BQ;split
 .exact w.oV rfl w.m0 w.m1 w.hs ⟨by rw [UE];exact w.so.lj,w.so.lt,w.so.ls,w.so.lw,w.so.z⟩
 .exact w.tG (h:=λg=>{ g with js:=g.js.set k.toNat b }) (λ_=>rfl) (λg a=>a) λg a=>⟨by rw [UE];exact a.lj,a.lt,a.z⟩
theorem WG.aK {S:PS}(w:WG S){k:Int}{i:Nat}(B:i<S.lns.length):WG { S with sk:=aK S.sk k i }:=by
 have lt:((S.sk.hs.set k.toNat (.int i)).length:Int)=S.sk.hs.length:=by rw [UE]
 have D:=w.m0;have H:=w.m1;refine w.oV rfl (VI _ (by omega)) (by show (k+1) % (S.sk.hs.length:Int)<((S.sk.hs.set _ _).length:Int);rw [lt];exact VJ _ (by omega)) (λv m=>(F8 m).elim (λe=>.inr ⟨i,e,B⟩) (w.hs v)) ⟨?_,?_,?_,?_,?_⟩
 .show S.sk.js.length=(S.sk.hs.set _ _).length;rw [UE];exact w.so.lj
 .show (S.sk.ts.set _ _).length=(S.sk.hs.set _ _).length;rw [UE,UE];exact w.so.lt
 .show (S.sk.st.set _ _).length=(S.sk.hs.set _ _).length;rw [UE,UE];exact w.so.ls
 .show (S.sk.wt.set _ _).length=(S.sk.hs.set _ _).length;rw [UE,UE];exact w.so.lw
 .show (S.sk.hs.set _ _).length<=1000;rw [UE];exact w.so.z
inductive Bh where
 | rests | bF | cP | rings | cQ | dB | told
noncomputable def Bh.s:Bh->Str
 | .rests=>"rests" | .bF=>"waits" | .cP=>"dials" | .rings=>"rings" | .cQ=>"rung" | .dB=>"talks" | .told=>"told"
theorem Bh.ok (w:Bh):Ok w.s:=by cases w<;>exact ⟨by unfold Cq;decide +kernel,by decide +kernel⟩
theorem Bh.inj {v w:Bh}(e:v.s=w.s):v=w:=by cases v<;>cases w<;>first | rfl | exact absurd e (by decide +kernel)
def Zr (ln:Ln):Prop:=ln.ao=""/\ln.az=0/\ln.why=.none
def F9 (S:PS)(i:Nat)(ln:Ln)(o:Bh):Prop:=∃(j:Nat)(lo:Ln),S.lns[j]?=some lo/\j≠i/\ln.ag=some lo.num/\lo.ag=some ln.num/\lo.st=o.s
def Wy (S:PS)(i:Nat)(ln:Ln):Bh->Prop
 | .rests=>ln.held=[]/\ln.ag=none/\ln.num ∉ S.q/\Zr ln
 | .bF=>ln.held=[]/\ln.ag=none/\ln.num∈S.q/\Zr ln
 | .cP=>ln.ag=none/\ln.num ∉ S.q/\(0<=ln.az/\ln.az<=10)/\(ln.ao.length:Int)<S.long/\ln.held.length<=ln.ao.length+1
 | .told=>ln.held=[]/\ln.ag=none/\ln.num ∉ S.q
 | .rings=>ln.num ∉ S.q/\F9 S i ln .cQ
 | .cQ=>ln.held=[]/\ln.num ∉ S.q/\F9 S i ln .rings
 | .dB=>ln.num ∉ S.q/\F9 S i ln .dB
structure DF (S:PS)(i:Nat)(ln:Ln):Prop where
 nd:ln.held.Nodup
 ow:∀ p∈ln.held,BF S p=some (GO p.1 i ln.num)
 wy:∃ w:Bh,ln.st=w.s/\Wy S i ln w
structure WF (S:PS):Prop where
 g:WG S
 l:∀(i:Nat)(ln:Ln),S.lns[i]?=some ln->DF S i ln
section
variable {S S':PS}{i j:Nat}{ln lo lm:Ln}
theorem DF.way {w:Bh}(h:DF S i ln)(e:ln.st=w.s):Wy S i ln w:=by obtain ⟨v,B,D⟩:=h.wy;cases Bh.inj (e.symm.trans B);exact D
theorem WG.one (g:WG S)(D:S.lns[i]?=some ln)(B:S.lns[j]?=some lm)(e:ln.num=lm.num):i=j/\ln=lm:=by
 by_cases c:i=j
 .subst c;rw [D] at B;exact ⟨rfl,UK B⟩
 .exact absurd e (EO g.num D B c)
theorem WF.cA (w:WF S)(h:S.lns[i]?=some ln):cA S ln.held:=GR (w.l i ln h).nd λp m=>⟨_,(w.l i ln h).ow p m,GP⟩
theorem DF.ge (h:DF S i ln):∀ t∈ln.held,0<=t.2:=λt m=>R4 (h.ow t m)
theorem WF.apart (w:WF S)(B:S.lns[i]?=some ln)(D:S.lns[j]?=some lm)(n:j≠i){p:Str×Int}(m:p∈lm.held):p ∉ ln.held:=λH=>by
 have a:=(w.l i ln B).ow p H;rw [(w.l j lm D).ow p m] at a;exact Ag3 n (EO w.g.num D B n) (UK a)
theorem WF.chg (w:WF S)(g:WG S')(I:Nat->Prop)(D:∀ j,¬ I j->S'.lns[j]?=S.lns[j]?)(H:∀ (i:Nat) (ln:Ln),I i->S.lns[i]?=some ln->∀ z,ln.ag=some z->∃ (j:Nat) (lo:Ln),I j/\S.lns[j]?=some lo/\lo.num=z)(hq:∀ (j:Nat) (lm:Ln),¬ I j->S.lns[j]?=some lm->(lm.num∈S'.q↔lm.num∈S.q))(J:∀ (j:Nat) (lm:Ln),¬ I j->S.lns[j]?=some lm->∀ p∈lm.held,BF S' p=BF S p)(hw:S'.long=S.long)(O:∀ (i:Nat) (y:Ln),I i->S'.lns[i]?=some y->DF S' i y):WF S':=by
 refine ⟨g,λj lm B=>?_⟩;by_cases c:I j
 .exact O j lm c B
 rw [D j c] at B;have L:=w.l j lm B;obtain ⟨v,e,y⟩:=L.wy;have q:=hq j lm c B;have ag:∀ o,F9 S j lm o->F9 S' j lm o:=λo ⟨k,lo,hk,ne,f1,f2,V⟩=>by
  refine ⟨k,lo,(D k λY=>?_).trans hk,ne,f1,f2,V⟩;obtain ⟨i',lo',c',h',e'⟩:=H k lo Y hk lm.num f2;exact c (by rw [<- (w.g.one h' B e').1];exact c')
 refine ⟨L.nd,λp m=>(J j lm c B p m).trans (L.ow p m),v,e,?_⟩;cases v with
 | rests=>exact ⟨y.1,y.2.1,λz=>y.2.2.1 (q.mp z),y.2.2.2⟩
 | bF=>exact ⟨y.1,y.2.1,q.mpr y.2.2.1,y.2.2.2⟩
 | cP=>exact ⟨y.1,λz=>y.2.1 (q.mp z),y.2.2.1,by rw [hw];exact y.2.2.2.1,y.2.2.2.2⟩
 | told=>exact ⟨y.1,y.2.1,λz=>y.2.2 (q.mp z)⟩
 | rings=>exact ⟨λz=>y.1 (q.mp z),ag _ y.2⟩
 | cQ=>exact ⟨y.1,λz=>y.2.1 (q.mp z),ag _ y.2.2⟩
 | dB=>exact ⟨λz=>y.1 (q.mp z),ag _ y.2⟩
theorem WF.oX (w:WF S)(g:WG S'){y:Ln}(h:S.lns[i]?=some ln)(fn:ln.ag=none)(B:S'.lns=S.lns.set i y)(hq:∀ z,z≠ln.num->(z∈S'.q↔z∈S.q))(D:∀ (j:Nat) (lm:Ln),j≠i->S.lns[j]?=some lm->∀ p∈lm.held,BF S' p=BF S p)(hw:S'.long=S.long)(hy:DF S' i y):WF S':=by
 refine w.chg g (·=i) (λj n=>by rw [B,V5 (UQ n)]) (λk lk e hk z f=>?_) (λj lm n H=>hq _ (EO w.g.num H h n)) D hw λk z e hk=>?_
 .subst e;rw [h] at hk;cases hk;rw [fn] at f;cases f
 .subst e;rw [B,Cr h] at hk;cases hk;exact hy
theorem WF.tH (w:WF S)(g:WG S'){y z:Ln}(B:S.lns[i]?=some ln)(D:S.lns[j]?=some lo)(n:j≠i)(f1:∀ z,ln.ag=some z->z=lo.num)(f2:∀ z,lo.ag=some z->z=ln.num)(H:S'.lns=(S.lns.set i y).set j z)(hq:∀ x,x≠ln.num->x≠lo.num->(x∈S'.q↔x∈S.q))(I:∀ (k:Nat) (lm:Ln),k≠i->k≠j->S.lns[k]?=some lm->∀ p∈lm.held,BF S' p=BF S p)(hw:S'.long=S.long)(hy:DF S' i y)(J:DF S' j z):WF S':=by
 refine w.chg g (λk=>k=i\/k=j) (λk c=>by rw [H,V5 (λe=>c (.inr e.symm)),V5 (λe=>c (.inl e.symm))]) (λk lk e hk x f=>?_) (λk lm c hk=>hq _ (EO w.g.num hk B λe=>c (.inl e)) (EO w.g.num hk D λe=>c (.inr e))) (λk lm c hk=>I k lm (λe=>c (.inl e)) (λe=>c (.inr e)) hk) hw λk x e hk=>?_
 .rcases e with rfl | rfl
  .rw [B] at hk;cases hk;exact ⟨j,lo,.inr rfl,D,(f1 x f).symm⟩
  .rw [D] at hk;cases hk;exact ⟨i,ln,.inl rfl,B,(f2 x f).symm⟩
 .rcases e with rfl | rfl
  .rw [H,V5 n,Cr B] at hk;cases hk;exact hy
  .rw [H,Cr (x:=lo) (by rw [V5 (UQ n)];exact D)] at hk;cases hk;exact J
theorem Dv {y:Ln}(h:S.lns[i]?=some ln)(e:y.num=ln.num):(S.lns.set i y).map (·.num)=S.lns.map (·.num):=Du (f:=λx:Ln=>x.num) h e
theorem IE:∀(ts:List (Str×Int))(S:PS),(aq S ts).long=S.long
 | [],_=>rfl
 | t :: ts,S=>(IE ts _).trans (by unfold aB;split<;>rfl)
end
theorem R7:∀{l m:List Str},l.Nodup->(∀ z∈l,z∈m)->l.length<=m.length
 | [],_,_,_=>U1 _
 | a :: l,m,B,h=>by
  have B:=UH.mp B;have D:=h a UY;have:=R7 (l:=l) (m:=m.erase a) B.2 λz H=>(Z8 (λ(e:z=a)=>B.1 (e▸H))).mpr (h z (UO _ H));rw [xS D] at this;have:=Z9 D;rw [Vf];omega
section
variable {S:PS}{i j:Nat}{ln lo:Ln}
theorem DF.jO (h:DF S i ln)(m:ln.num∈S.q):ln.st=Bh.bF.s/\ln.held=[]/\ln.ag=none/\Zr ln:=by
 obtain ⟨v,e,y⟩:=h.wy;cases v with
 | rests=>exact absurd m y.2.2.1
 | bF=>exact ⟨e,y.1,y.2.1,y.2.2.2⟩
 | cP=>exact absurd m y.2.1
 | told=>exact absurd m y.2.2
 | rings=>exact absurd m y.1
 | cQ=>exact absurd m y.2.1
 | dB=>exact absurd m y.1
theorem WF.abr (w:WF S)(h:S.lns[i]?=some ln)(n:ln.st≠Bh.bF.s):ln.num ∉ S.q:=λm=>n ((w.l i ln h).jO m).1
theorem WG.at (g:WG S){z:Str}(m:z∈S.lns.map (·.num)):∃(i:Nat)(ln:Ln),S.lns[i]?=some ln/\ln.num=z:=by obtain ⟨ln,B,D⟩:=MB m;exact ⟨_,ln,B,D⟩
theorem WG.fm (g:WG S):S.q.length<=60:=by have:=R7 g.dA g.cC;rw [T7] at this;exact U7 this g.aE
theorem WF.cV (w:WF S):DE S:=by refine ⟨w.g.dA,λz m=>?_,w.g.num,w.g.m0,Y4 w.g.m1,by rw [w.g.pl];exact Int.ofNat_lt.mpr w.g.pos,U7 w.g.fm (by decide)⟩;obtain ⟨i,ln,h,rfl⟩:=w.g.at (w.g.cC z m);exact ⟨ln,Uw h,rfl,((w.l i ln h).jO m).2.1⟩
theorem WF.dn (w:WF S){d:List V}:WF { S with dn:=d }:=by refine ⟨w.g.oU,λi ln h=>⟨(w.l i ln h).nd,(w.l i ln h).ow,?_⟩⟩;obtain ⟨v,e,y⟩:=(w.l i ln h).wy;refine ⟨v,e,?_⟩;cases v<;>exact y
theorem R8 {q:List Str}{z:Str}(D:q.Nodup)(n:z ∉ q):(q++[z]).Nodup:=Wn.mpr ⟨D,UH.mpr ⟨by simp,.nil⟩,λa H b B e=>n (by rw [UL] at B;rw [<- B,<- e];exact H)⟩
theorem R9 {q ns:List Str}{z:Str}(h:∀ y∈q,y∈ns)(m:z∈ns):∀ y∈q++[z],y∈ns:=λy B=>(UU.mp B).elim (h y) λe=>by rw [UL.mp e];exact m
theorem Sa {q:List Str}{x z:Str}(n:x≠z):x∈q++[z]↔x∈q:=by simp [n]
theorem D6 (h:S.lns[i]?=some ln):ln.num∈S.lns.map (·.num):=Ur.mpr ⟨ln,Uw h,rfl⟩
theorem DF.none {y:Ln}(e:y.held=[])(w:∃ v:Bh,y.st=v.s/\Wy S i y v):DF S i y:=⟨by rw [e];exact .nil,(λp m=>by rw [e] at m;cases m),w⟩
theorem WF.wait (w:WF S)(h:S.lns[i]?=some ln)(B:ln.held=[])(fn:ln.ag=none)(D:ln.num ∉ S.q):WF (EN S i ln) :=
 w.oX (S':=EN S i ln) (y:=AI ln "waits") ((w.g.lns (Dv (y:=AI ln "waits") h rfl)).cM (R8 w.g.dA D) (R9 (λz m=>by show z∈(S.lns.set i (AI ln "waits")).map _;rw [Dv (y:=AI ln "waits") h rfl];exact w.g.cC z m) (by show _∈(S.lns.set i (AI ln "waits")).map _;rw [Dv (y:=AI ln "waits") h rfl];exact D6 h))) h fn rfl (λz n=>Sa n) (λ_ _ _ _ _ _=>rfl) rfl
  (.none B ⟨.bF,rfl,B,rfl,U0 _ (UL.mpr rfl),rfl,rfl,rfl⟩)
theorem GS (w:WF S)(h:S.lns[j]?=some lo):Bp S.lns lo.num=j:=MC w.g.num h
theorem Sb {z:Str}(hs:ln.st≠"rests")(f:ln.ag=some z)(B:S.lns[Bp S.lns z]?=some lo):BY S i ln=(.tuple [.str "talks",.str lo.num,.str ln.num],{ S with lns:=(S.lns.set (Bp S.lns z) { lo with st:="talks" }).set i { ln with st:="talks" } }):=by simp only [BY,if_neg hs,f,B]
theorem Bh.ne {v u:Bh}(e:ln.st=v.s)(n:v≠u):ln.st≠u.s:=λz=>n (Bh.inj (e.symm.trans z))
theorem WF.lift (w:WF S)(h:S.lns[i]?=some ln)(f:ln.st=Bh.rests.s\/ln.st=Bh.cQ.s):WF (BY S i ln).2/\MI S i ln:=by
 have L:=w.l i ln h;rcases f with f | f
 .obtain ⟨J,H,y3,_⟩:=L.way f;refine ⟨?_,.inl f⟩;rw [show BY S i ln=_ from if_pos f];exact w.wait h J H y3
 .obtain ⟨J,H,j,lo,B,D,f1,f2,f3⟩:=L.way f;have O:ln.st≠"rests":=Bh.ne (u:=.rests) f (λe=>nomatch e);refine ⟨?_,.inr ⟨O,j,lo,f1,B,D⟩⟩;have V:=GS w B;have I:=w.l j lo B;rw [Sb O f1 (by rw [V];exact B),V];have Y:(S.lns.set j { lo with st:="talks" })[i]?=some ln:=Fv h D;refine w.tH (i:=j) (j:=i) (y:={ lo with st:="talks" }) (z:={ ln with st:="talks" }) (w.g.lns (by rw [Du (f:=λx:Ln=>x.num) (y:={ ln with st:="talks" }) Y rfl];exact Dv (y:={ lo with st:="talks" }) B rfl)) B h D.symm (λz e=>by rw [f2] at e;exact (UK e).symm) (λz e=>by rw [f1] at e;exact (UK e).symm) rfl (λ_ _ _=>.rfl) (λ_ _ _ _ _ _ _=>rfl) rfl ⟨I.nd,I.ow,.dB,rfl,(I.way (w:=.rings) f3).1,i,{ ln with st:="talks" },Cr Y,D.symm,f2,f1,rfl⟩ ⟨L.nd,L.ow,.dB,rfl,H,j,{ lo with st:="talks" },?_,D,f1,f2,rfl⟩;exact Fv (Cr B) D.symm
end
section
variable {S:PS}{i j:Nat}{ln lo:Ln}
theorem Ag5 {z:Str}{h:Gr->Gr}(B:∀ g,(h g).pre=g.pre)(D:z≠Ud "")(p:Str×Int):BF { S with aD:=S.aD.map λg=>if g.pre=z then h g else g } p=if p.1=z then (Cf S z).bind λg=>if 0<=p.2 then (h g).hs[p.2.toNat]? else none else BF S p:=by
 unfold BF Cg;by_cases c:p.1=z
 .rw [if_pos c,c,if_neg D,F7 B];simp only [if_true];cases Cf S z<;>rfl
 .rw [if_neg c];by_cases y:p.1=Ud ""
  .rw [if_pos y,if_pos y]
  .rw [if_neg y,if_neg y,F7 B];simp only [if_neg c];cases Cf S p.1<;>rfl
theorem MU (p:Str×Int):BF (au S ln) p=BF S p:=by unfold au;split<;>rfl
theorem GU:(au S ln).lns=S.lns:=by unfold au;split<;>rfl
theorem Ag6:(au S ln).long=S.long:=by unfold au;split<;>rfl
theorem WF.au (w:WF S)(h:S.lns[i]?=some ln):WG (au S ln)/\ln.num ∉ (Lw.au S ln).q/\∀ z,z≠ln.num->(z∈(Lw.au S ln).q↔z∈S.q):=by
 unfold Lw.au;split
 .exact ⟨w.g.cM (w.g.dA.erase _) λz m=>w.g.cC z (List.mem_of_mem_erase m),λm=>((w.g.dA.mem_erase_iff).mp m).1 rfl,λz n=>Z8 n⟩
 .rename_i c
  exact ⟨w.g,w.abr h c,λ_ _=>.rfl⟩
theorem WG.aH {T:PS}(g:WG T)(h:T.lns[i]?=some ln):WG (aH T i ln):=(g.aq ln.held).lns (by rw [GK];exact Dv (y:=AI { ln with held:=[] } "rests") h rfl)
end
section
variable {S:PS}{i j:Nat}{ln lo:Ln}
theorem WF.oY (w:WF S)(h:S.lns[i]?=some ln)(fn:ln.ag=none)(hw:ln.st="waits"->ln.num∈S.q):WF (CW S i ln).2/\Iv S i ln:=by
 have L:=w.l i ln h;obtain ⟨g1,D,H⟩:=w.au h;have B:BU (Lw.au S ln) ln=([],Lw.au S ln):=by simp only [BU,fn]
 have eq:(aq (Lw.au S ln) ln.held).q=(Lw.au S ln).q:=El ..;refine ⟨?_,hw,λz e=>(by rw [fn] at e;cases e),by rw [B];exact GR L.nd λp m=>⟨_,(MU p).trans (L.ow p m),GP⟩⟩;unfold CW;rw [B];refine w.oX (S':=aH (Lw.au S ln) i ln) (y:=AI { ln with held:=[] } "rests") (g1.aH (by rw [GU];exact h)) h fn (by show (Lw.au S ln).lns.set i _=_;rw [GU]) (λz n=>by show z∈(aq (Lw.au S ln) ln.held).q↔_;rw [eq];exact H z n) (λk I n hk p m=>?_) ((IE ..).trans Ag6) (.none rfl ⟨.rests,rfl,rfl,rfl,by show ln.num ∉ (aq (Lw.au S ln) ln.held).q;rw [eq];exact D,rfl,rfl,rfl⟩);exact (IC L.ge (w.apart h hk n m)).trans (MU p)
theorem WF.left (w:WF S)(h:S.lns[j]?=some lo)(B:lo.num ∉ S.q):∃ y:Ln,y.num=lo.num/\y.held=[]/\y.ag=none/\(Bq S j lo).2.lns=S.lns.set j y/\(Bq S j lo).2.long=S.long/\WG (Bq S j lo).2/\(∀ p,p ∉ lo.held->BF (Bq S j lo).2 p=BF S p)/\(∀ x,x≠lo.num->(x∈(Bq S j lo).2.q↔x∈S.q))/\∀ U:PS,U.q=(Bq S j lo).2.q->∃ v:Bh,y.st=v.s/\Wy U j y v:=by
 have L:=w.l j lo h;have eq:(aq S lo.held).q=S.q:=El ..;have D:WG (BS S j lo):=(w.g.aq lo.held).lns (by rw [GK];exact Dv (y:={ lo with held:=[] }) h rfl);have H:(BS S j lo).lns[j]?=some { lo with held:=[] }:=Cr h;have own:∀ p,p ∉ lo.held->BF (aq S lo.held) p=BF S p:=λp n=>IC L.ge n;unfold Bq;split
 .refine ⟨AI { lo with held:=[] } "waits",rfl,rfl,rfl,Vx ..,IE ..,(D.lns (Dv (y:=AI { lo with held:=[] } "waits") H rfl)).cM ?_ ?_,own,λx n=>?_,λU e=>⟨.bF,rfl,rfl,rfl,?_,rfl,rfl,rfl⟩⟩
  .show ((aq S lo.held).q++[lo.num]).Nodup;rw [eq];exact R8 w.g.dA B
  .show ∀ z∈(aq S lo.held).q++[lo.num],z∈((BS S j lo).lns.set j (AI { lo with held:=[] } "waits")).map (·.num);rw [eq,Dv (y:=AI { lo with held:=[] } "waits") H rfl,show (BS S j lo).lns.map (·.num)=S.lns.map (·.num) from Dv (y:={ lo with held:=[] }) h rfl];exact R9 w.g.cC (D6 h)
  .show x∈(aq S lo.held).q++[lo.num]↔_;rw [eq];exact Sa n
  .rw [e];exact U0 _ (UL.mpr rfl)
 .refine ⟨AI { lo with held:=[] } "rests",rfl,rfl,rfl,rfl,IE ..,D.lns ?_,own,λx n=>?_,λU e=>⟨.rests,rfl,rfl,rfl,?_,rfl,rfl,rfl⟩⟩
  .rw [show (BS S j lo).lns.map (·.num)=S.lns.map (·.num) from Dv (y:={ lo with held:=[] }) h rfl];exact Dv (y:=AI { lo with held:=[] } "rests") h rfl
  .show x∈(aq S lo.held).q↔_;rw [eq]
  .rw [e];show lo.num ∉ (aq S lo.held).q;rw [eq];exact B
theorem WF.tI (w:WF S)(h:S.lns[i]?=some ln)(J:ln.st≠"waits")(B:S.lns[j]?=some lo)(D:j≠i)(f1:ln.ag=some lo.num)(f2:lo.ag=some ln.num)(nq:ln.num ∉ S.q)(mq:lo.num ∉ S.q):WF (CW S i ln).2/\Iv S i ln:=by
 have L:=w.l i ln h;have H:Lw.au S ln=S:=if_neg J;have ei:=GS w B;have O:BU S ln=([(Bq S j lo).1],(Bq S j lo).2):=by simp only [BU,f1,ei,B]
 obtain ⟨y,y1,y2,y3,V,y5,y6,Y,y8,y9⟩:=w.left B mq;have eq:(aq (Bq S j lo).2 ln.held).q=(Bq S j lo).2.q:=El ..;have hi:(Bq S j lo).2.lns[i]?=some ln:=by rw [V];exact Fv h D
 refine ⟨?_,λe=>absurd e J,λz e=>?_,?_⟩
 .unfold CW;rw [H,O];refine w.tH (S':=aH (Bq S j lo).2 i ln) (i:=j) (j:=i) (y:=y) (z:=AI { ln with held:=[] } "rests") (y6.aH hi) B h D.symm (λz e=>by rw [f2] at e;exact (UK e).symm) (λz e=>by rw [f1] at e;exact (UK e).symm) (by show (Bq S j lo).2.lns.set i _=_;rw [V]) (λx I n2=>by show x∈(aq (Bq S j lo).2 ln.held).q↔_;rw [eq];exact y8 x I) (λk lm I n2 hk p m=>(IC L.ge (w.apart h hk n2 m)).trans (Y p (w.apart B hk I m))) ((IE ..).trans y5) (.none y2 (y9 _ eq)) (.none rfl ⟨.rests,rfl,rfl,rfl,?_,rfl,rfl,rfl⟩);show ln.num ∉ (aq (Bq S j lo).2 ln.held).q;rw [eq];exact λm=>nq ((y8 _ (EO w.g.num h B D.symm)).mp m)
 .rw [f1] at e;cases e;exact ⟨j,lo,B,rfl,D,by rw [H];exact w.cA B⟩
 .rw [H,O];exact GR L.nd λp m=>⟨_,(Y p (w.apart B h D.symm m)).trans (L.ow p m),GP⟩
theorem WF.bz (w:WF S)(h:S.lns[i]?=some ln)(f:ln.st∈LW.bz.cv):WF (CW S i ln).2/\Iv S i ln:=by
 have L:=w.l i ln h;obtain ⟨v,e,y⟩:=L.wy;have no:∀ u:Bh,u.s ∉ LW.bz.cv->v≠u:=λu n z=>n (by rw [<- z,<- e];exact f);cases v with
 | rests=>exact absurd rfl (no .rests (by decide +kernel))
 | cQ=>exact absurd rfl (no .cQ (by decide +kernel))
 | bF=>exact w.oY h y.2.1 λ_=>y.2.2.1
 | cP=>exact w.oY h y.1 λz=>absurd z (Bh.ne (u:=.bF) e λz=>nomatch z)
 | told=>exact w.oY h y.2.1 λz=>absurd z (Bh.ne (u:=.bF) e λz=>nomatch z)
 | rings =>
  obtain ⟨q,j,lo,B,D,f1,f2,H⟩:=y;exact w.tI h (Bh.ne (u:=.bF) e λz=>nomatch z) B D f1 f2 q ((w.l j lo B).way (w:=.cQ) H).2.1
 | dB =>
  obtain ⟨q,j,lo,B,D,f1,f2,H⟩:=y;exact w.tI h (Bh.ne (u:=.bF) e λz=>nomatch z) B D f1 f2 q ((w.l j lo B).way (w:=.dB) H).1
theorem WF.gO (w:WF S){x:PyData×PS}(e:Dk S=some x):WF x.2:=by
 obtain ⟨z,r,k,ln,H,e2,B,J,e5,rfl⟩:=MD w.cV e;generalize Bp S.lns z=i at B ⊢;have il:=(US.mp B).1;obtain ⟨⟨k0,k1⟩,L⟩:=Ii w.g.m0 (Y4 w.g.m1) e2;have O:k.toNat<S.sk.hs.length:=by omega
 obtain ⟨l1,l2,l3,l4⟩:=(w.l i ln B).jO (by rw [J,H];exact UY);have nd:=w.g.dA;rw [H] at nd;obtain ⟨zr,om⟩:=UH.mp nd;have free:BF S ((Ud ""),k)=some .aa:=by show (if 0<=k then S.sk.hs[k.toNat]? else none)=_;unfold Cc at L;rw [Wj,decide_eq_true_eq,UM,Uu O] at L;rw [if_pos k0,Uu O];exact congrArg some L.1
 have own:∀(T:PS),T.aD=S.aD->T.sk.hs=S.sk.hs.set k.toNat (.int i)->∀ p:Str×Int,p≠((Ud ""),k)->BF T p=BF S p:=λT eg es p n=>by
  unfold BF Cg Cf;rw [eg,es];by_cases c:p.1=Ud ""
  .rw [if_pos c,if_pos c];show (if 0<=p.2 then (S.sk.hs.set k.toNat _)[p.2.toNat]? else none)=if 0<=p.2 then S.sk.hs[p.2.toNat]? else none
   by_cases I:0<=p.2
   .rw [if_pos I,if_pos I,V5];intro e;exact n (Prod.ext c (by show p.2=k;omega))
   .rw [if_neg I,if_neg I]
  .rw [if_neg c,if_neg c]
 have nw:∀(j:Nat)(D:Ln),S.lns[j]?=some D->∀ p∈D.held,p≠((Ud ""),k):=λj D V p m c=>by
  have a:=(w.l j D V).ow p m;rw [c,free] at a;exact GP (UK a).symm
 dsimp only;refine w.oX (y:={ AI ln "dials" with held:=ln.held++[((Ud ""),k)] }) (((w.g.aK (k:=k) il).lns (Dv (S:=S) (y:={ AI ln "dials" with held:=ln.held++[((Ud ""),k)] }) B rfl)).cM om λy my=>?_) B l3 rfl (λx n=>?_) (λj D n V p m=>by refine own _ ?_ ?_ p λc=>?_;rfl;rfl;exact nw j D V p m c) rfl ?_
 .show y∈(S.lns.set i _).map _;rw [Dv (y:={ AI ln "dials" with held:=ln.held++[((Ud ""),k)] }) B rfl];exact w.g.cC y (by rw [H];exact UO _ my)
 .show x∈r↔_;rw [J] at n;rw [H,Uo];exact ⟨.inr,λc=>c.resolve_left n⟩
 .have Y:ln.held++[((Ud ""),k)]=[((Ud ""),k)]:=by rw [l2];rfl
  have lo:=w.g.lo;refine ⟨by show (ln.held++_).Nodup;rw [Y];exact UH.mpr ⟨by simp,.nil⟩,λp m=>?_,.cP,rfl,rfl,?_,⟨Int.le_refl 0,by show (0:Int)<=10;decide⟩,?_,?_⟩
  .have m:p∈ln.held++[((Ud ""),k)]:=m;rw [Y] at m;rw [UL.mp m];show (if 0<=k then (S.sk.hs.set k.toNat (.int i))[k.toNat]? else none)=some (.int i);rw [if_pos k0,Xy O]
  .show ln.num ∉ r;rw [J];exact zr
  .show ((Ud "").length:Int)<S.long;have:(Ud "").length=0:=rfl;omega
  .show (ln.held++_).length<=(Ud "").length+1;rw [Y];exact Nat.le_add_left 1 _
theorem WF.aC:∀(n:Nat){S:PS},WF S->WF (aC n S).2
 | 0,_,w=>w
 | n+1,S,w=>by
  unfold Lw.aC;split
  .exact w
  .rename_i e
   exact WF.aC n (w.gO e)
theorem WF.abt (w:WF S):WF (B3 S).2:=WF.aC _ w
def A8.txt:A8->Prop
 | .bf _ w _=>Ok w
 | .line _ z=>Ok z
theorem LW.in {d:LW}(f:d.fits ln=true):ln.st∈d.cv:=by unfold LW.fits at f;rw [Wj,decide_eq_true_eq] at f;exact f.1
theorem WF.go (w:WF S)(h:S.lns[i]?=some ln){d:LW}(f:d.fits ln=true):WF (d.go S i ln).2/\d.ok S i ln:=by
 cases d with
 | lift =>
  refine w.lift h ?_;have:=LW.in f;rcases Uo.mp this with e | e
  .exact .inl e
  .exact .inr (UL.mp e)
 | bz=>exact w.bz h (LW.in f)
end
noncomputable def CG (z:Str):Ln:=⟨z,"rests","",0,none,.none,[]⟩
noncomputable def Ct (p:Str×Int):Gr:=⟨p.1,Ug p.2.toNat .aa,Ug p.2.toNat false,Ug p.2.toNat 0⟩
noncomputable def Ga (n places:Int):Sk:=⟨Ug n.toNat .aa,Ug n.toNat false,Ug n.toNat 0,places,0,Ug n.toNat 0,Ug n.toNat 0⟩
noncomputable def dC (long:Int)(zs:List Str)(n:Int)(gs:List (Str×Int)):PS:=⟨long,zs.map CG,gs.map Ct,Ga n zs.length,[],[]⟩
theorem At.init {H B:Hp}{p:Addr}{o o':HO}{C N:AH}(t:At H ((p,o) :: C))(s:CA [p] H B)(ep:B p=some o')(D:∀ c∈N,H c.1=none/\B c.1=some c.2)(V:(N.map (·.1)).Nodup):At B ((p,o') :: (N++C)):=by
 have I:=UH.mp t.nd;refine ⟨λc m=>?_,UH.mpr ⟨λm=>?_,?_⟩⟩
 .rcases Uo.mp m with rfl | m
  .exact ep
  .rcases UU.mp m with m | m
   .exact (D c m).2
   .exact s _ _ (λz=>I.1 (Ur.mpr ⟨c,m,UL.mp z⟩)) (t.at_ c (UO _ m))
 .obtain ⟨c,mc,L⟩:=Ag (Ur.mp m);rcases UU.mp mc with mc | mc
  .have:=(D c mc).1;rw [show c.1=p from L,t.hd] at this;cases this
  .exact I.1 (Ur.mpr ⟨c,mc,L⟩)
 .rw [Uy];refine Wn.mpr ⟨V,I.2,λx hx y hy e=>?_⟩;obtain ⟨c,mc,rfl⟩:=Ag (Ur.mp hx);obtain ⟨Y,J,rfl⟩:=Ag (Ur.mp hy);have O:=(D c mc).1;rw [e,t.at_ Y (UO _ J)] at O;cases O
structure Ko (a:Aq)(H:Hp)(D:Addr)(zs:List Str)(i:Nat)(L:List LX)(C:AH):Prop where
 t:At H ((D,.dK (L.map λx=>(.inr x.l.num,.ref x.p))) :: (L.flatMap (B8 a)++C))
 len:L.length=i
 l:L.map (·.l)=(zs.take i).map CG
 x:∀(j:Nat)(x:LX),L[j]?=some x->x.i=j/\x.hv=[]/\x.wv=.aa
theorem Ko.push {a:Aq}{H B:Hp}{D x dx l:Addr}{zs:List Str}{i:Nat}{L:List LX}{C:AH}{z:Str}(m:Ko a H D zs i L C)(O:zs[i]?=some z)(nd:zs.Nodup)(s:Ai H B)(nx:B x=none)(cW:B dx=none)(fo:dx≠x)(nl:(upd (upd B dx (.own x)) x (.ins a.Line dx [])) l=none) :
  Ko a (upd (upd (upd (upd (upd B dx (.own x)) x (.ins a.Line dx [])) l (.lst [])) x (.ins a.Line dx (CF z i l "rests" "" 0 .aa .aa))) D (.dK (AX (L.map λx=>((.inr x.l.num:Ar),V.ref x.p)) (.inr z) (.ref x)))) D zs (i+1) (L++[⟨x,dx,l,i,.aa,[],CG z⟩]) C:=by
 have no:z ∉ L.map (·.l.num):=λh=>by
  have e:L.map (·.l.num)=zs.take i:=by have:=congrArg (V4 Ln.num) m.l;rw [UD,UD] at this;rw [show (λx:LX=>x.l.num)=Ln.num∘(λx:LX=>x.l) from rfl,this,show Ln.num∘CG=id from rfl,Yr]
  rw [e] at h;obtain ⟨j,I,J⟩:=Wc h;rw [VF] at I;have bQ:zs[j]?=some z:=by rw [yu] at J;rw [Uu (by omega),J]
  exact Ek nd bQ O (by omega) rfl
 have s1:Ai B (upd B dx (.own x)):=(Ai.refl B).upd cW;have t1:=(m.t.same (λb o e=>s1 _ _ (s _ _ e))).new (b:=x) (u:=.ins a.Line dx []) (by rw [Au fo.symm];exact nx);have t2:=t1.new (u:=.lst []) nl;have t3:=At.set (P:=[_]) (o':=.ins a.Line dx (CF z i l "rests" "" 0 .aa .aa)) t2;have t4:=At.set (P:=[_,_]) (o':=.dK (AX (L.map λx=>((.inr x.l.num:Ar),V.ref x.p)) (.inr z) (.ref x))) t3;have t5:=At.perm (C':=(x,.ins a.Line dx (CF z i l "rests" "" 0 .aa .aa)) :: (l,.lst []) :: _) t4 (.swap _ _ _);have Y:=At.swap (P:=[_,_]) (M:=(D,_) :: L.flatMap (B8 a)) (R:=C) t5;refine ⟨?_,by rw [U2,m.len];rfl,?_,λj y I=>?_⟩
 .have ek:AX (L.map λx=>((.inr x.l.num:Ar),V.ref x.p)) (.inr z) (.ref x)=(L.map λx=>((.inr x.l.num:Ar),V.ref x.p))++[(.inr z,.ref x)]:=GB _ (FZ (f:=λx:LX=>x.l.num) (v:=λx=>V.ref x.p) no);rw [ek] at Y ⊢;rw [Yq,Uy,Uv];exact Y
 .rw [Uy,m.l,VQ,O,Uy];rfl
 .by_cases lt:j<L.length
  .rw [wI lt] at I;exact m.x j y I
  .have jl:=(US.mp I).1;rw [U2,Vv] at jl;have J:j=L.length:=by omega
   subst J;rw [List.getElem?_concat_length] at I;cases I;exact ⟨m.len.symm,rfl,rfl⟩
structure Kp (a:Aq)(H:Hp)(G:Addr)(gs:List (Str×Int))(i:Nat)(L:List RX)(C:AH):Prop where
 t:At H ((G,.dK (L.map λx=>(.inr x.g.pre,.ref x.p))) :: (L.flatMap (BX a)++C))
 len:L.length=i
 g:L.map (·.g)=(gs.take i).map Ct
theorem Kp.push {a:Aq}{H J:Hp}{G p dx B D I:Addr}{O:List (Str×Int)}{i:Nat}{L:List RX}{C:AH}{q:Str×Int}(m:Kp a H G O i L C)(Y:O[i]?=some q)(nd:(O.map (·.1)).Nodup)(np:H p=none)(cW:H dx=none)(fo:dx≠p)(s:CA [p] (upd (upd H dx (.own p)) p (.ins a.aR dx [])) J)(ep:J p=some (.ins a.aR dx (FV B D I)))(na:(upd (upd H dx (.own p)) p (.ins a.aR dx [])) B=none)(nb:(upd (upd H dx (.own p)) p (.ins a.aR dx [])) D=none)(nc:(upd (upd H dx (.own p)) p (.ins a.aR dx [])) I=none)(ea:J B=some (.lst (Ct q).hs))(eb:J D=some (.lst ((Ct q).js.map V.bl)))(ec:J I=some (.lst ((Ct q).ts.map V.int)))(ab:B≠D)(ac:B≠I)(bc:D≠I) :
  Kp a (upd J G (.dK (AX (L.map λx=>((.inr x.g.pre:Ar),V.ref x.p)) (.inr q.1) (.ref p)))) G O (i+1) (L++[⟨p,dx,B,D,I,Ct q⟩]) C:=by
 have no:q.1 ∉ L.map (·.g.pre):=λh=>by
  have e:L.map (·.g.pre)=(O.take i).map (·.1):=by have:=congrArg (V4 Gr.pre) m.g;rw [UD,UD] at this;exact this
  rw [e,List.map_take] at h;obtain ⟨j,hj,ej⟩:=Wc h;rw [VF,T7] at hj;have bQ:(O.map (·.1))[j]?=some q.1:=by rw [yu] at ej;rw [Uu (by rw [T7];omega),ej]
  exact Ek nd bQ (j:=i) (y:=q.1) (by rw [Uj,Y];rfl) (by omega) rfl
 have s1:Ai H (upd H dx (.own p)):=(Ai.refl H).upd cW;have t1:=(m.t.same s1).new (b:=p) (u:=.ins a.aR dx []) (by rw [Au fo.symm];exact np);have t2:=t1.init (N:=[(B,.lst (Ct q).hs),(D,.lst ((Ct q).js.map V.bl)),(I,.lst ((Ct q).ts.map V.int))]) s ep (λc mc=>by
  simp only [Uo,UZ,or_false] at mc;rcases mc with rfl | rfl | rfl
  .exact ⟨na,ea⟩
  .exact ⟨nb,eb⟩
  .exact ⟨nc,ec⟩) (by simp [ab,ac,bc])
 have t3:=At.set (P:=[_,_,_,_]) (o':=.dK (AX (L.map λx=>((.inr x.g.pre:Ar),V.ref x.p)) (.inr q.1) (.ref p))) t2;have t4:=At.swap (P:=[_,_,_,_]) (M:=(G,_) :: L.flatMap (BX a)) (R:=C) t3;refine ⟨?_,by rw [U2,m.len];rfl,?_⟩
 .have ek:AX (L.map λx=>((.inr x.g.pre:Ar),V.ref x.p)) (.inr q.1) (.ref p)=(L.map λx=>((.inr x.g.pre:Ar),V.ref x.p))++[(.inr q.1,.ref p)]:=GB _ (FZ (f:=λx:RX=>x.g.pre) (v:=λx=>V.ref x.p) no);rw [ek] at t4 ⊢;rw [Yq,Uy,Uv];exact t4
 .rw [Uy,m.g,VQ,Y,Uy];rfl
def Sd (K:T3)(a:Aq):Sp:=λvs H Q _=>∃(h dx pl bE lt gt:Addr)(long n:Int)(zs:List Str)(ts:List Pr)(R:AH),vs=[.ref h,.ref pl]/\At H ((h,.ins a.ae dx []) :: R)/\(pl,.ins a.Plan bE (J6 long lt n gt))∈R/\J5 K a.Plan/\H lt=some (.tup (zs.map V.str))/\H gt=some (.tup (ts.map A6))/\C9 H ts/\zs.Nodup/\(ts.map (·.2.1)).Nodup/\(∀ t∈ts,t.2.1≠Ud ""/\0<=t.2.2/\t.2.2<=1000)/\ts.length<=1000/\zs.length<=60/\0<=n/\n<=60 /\
 ∀ H' X,X.h=h->X.S=dC long zs n (ts.map (·.2))->HT K a H' X R->Ah H H'->Q .aa H'
theorem Ag7:AR ["self","plan"] ["self","plan"] (Ab (Af (top 28) 0)):=.of
theorem GV:Nm (Ab (Af (top 28) 0)) "self":=.of
theorem IF:Nm (Ab (Af (top 28) 0)) "plan":=.of
theorem Ag8:Gm (Ab (Af (top 28) 0)) "AT_SEEKERS":=.of
theorem Ag9:Gm (Ab (Af (top 28) 0)) "Seekers":=.of
theorem Aha:Gm (Ab (Af (top 28) 0)) "len":=.of
theorem Ahb:Gm (Ab (Af (top 28) 0)) "enumerate":=.of
noncomputable def Kq:Scope:={ kind:=.function,names:=[(".0",.local),("prefix",.local),("many",.local),("Group",.globalImplicit)],isGenerator:=false,isCoroutine:=false,more:=[] }
theorem MV:BE Kq (Ab (Af (top 28) 0)) ["prefix","many"] ["self","plan"] [none,none]:=BE.mk' rfl (by decide +kernel) (by decide +kernel) (by decide +kernel) (by decide +kernel) rfl (by decide +kernel)
theorem Se:Nm Kq "prefix":=.of
theorem Sf:Nm Kq "many":=.of
theorem Ahc:Gm Kq "Group":=.of
noncomputable def Kr:Scope:={ kind:=.function,names:=[(".0",.local),("place",.local),("number",.local),("Line",.globalImplicit)],isGenerator:=false,isCoroutine:=false,more:=[] }
theorem MW:BE Kr (Ab (Af (top 28) 0)) ["place","number"] ["self","plan"] [none,none]:=BE.mk' rfl (by decide +kernel) (by decide +kernel) (by decide +kernel) (by decide +kernel) rfl (by decide +kernel)
theorem Sg:Nm Kr "place":=.of
theorem MX:Nm Kr "number":=.of
theorem Ahd:Gm Kr "Line":=.of
theorem Ahe (F:AM K "__init__" "Hall.__init__" (Af (top 28) 0) f fd)(T:TxtH P w K mg a)(abu:Fm P w K mg base AB 2 a.Line "Line" ["self","number","place"] (Rf a))(abv:Fm P w K mg base AB 2 a.aR "Group" ["self","many"] (JT K a))(abw:Fm P w K mg base AB 2 a.aF "Seekers" ["self","many","places"] (QK K a)):AF P w K mg base AB 4 f fd ["self","plan"] (Sd K a):=by
 refine F.ok Ag7 λah A outer s H vs Q E hr h=>?_
 .obtain ⟨h,dx,pl,bE,lt,gt,long,n,zs,ts,R,rfl,t,lp,pc,ak,lq,lay,nz,ng,gk,gz,zl,n0,n1,q⟩:=h;have hu:=hr.units;refine ⟨_,(@Aj _ _ _ _ _ (BR (Aa 0 GV) (AN (Aa 1 IF) rfl) rfl)
    (Aj (BR (Aa 0 GV) (P7 rfl MW (Ad1 Ahb T.kM (Ac (AN (Aa 1 IF) rfl) Ae)) (λcl C fp pins s₂ H₂=>(JC (X:=A4 _ _ _ cl C fp pins s₂ H₂) K rfl 2 rfl (B9 (Bo 0 MW.nd Sg.comp) (B9 (Bo 1 MW.nd MX.comp) DT)) rfl rfl)) (λcl C fp pins s₂ H₂=>FQ) (λcl C fp pins s₂ H₂=>(Aa 1 MX.comp)) (λcl C fp pins s₂ H₂=>(HM abu Ahd.comp hr.d A3 (Ac (Aa 1 MX.comp) (Ac (Aa 0 Sg.comp) Ae))))) rfl)
    (Aj (BR (Aa 0 GV) (P7 rfl MV (Og (AN (Aa 1 IF) rfl)) (λcl C fp pins s₂ H₂=>(JC (X:=A4 _ _ _ cl C fp pins s₂ H₂) K rfl 2 rfl (B9 (Bo 0 MV.nd Se.comp) (B9 (Bo 1 MV.nd Sf.comp) DT)) rfl rfl)) (λcl C fp pins s₂ H₂=>FQ) (λcl C fp pins s₂ H₂=>(Aa 0 Se.comp)) (λcl C fp pins s₂ H₂=>(HM abv Ahc.comp hr.d A3 (Ac (Aa 1 Sf.comp) Ae)))) rfl)
    (Aj (CD (U5 (Vb (by decide) _) hu) (AN (Aa 0 GV) rfl) (GG Ag8 T.iq) (HM abw Ag9 hr.d A3 (Ac (AN (Aa 1 IF) rfl) (Ac (BG Cp Aha T.n_len Ca (Ac (AN (Aa 1 IF) rfl) Ae)) Ae))) rfl)
    (Aj (BR (Aa 0 GV) (A0 Ae) rfl)
    (An (BR (Aa 0 GV) (A0 Ae) rfl))))))),?_⟩
  try dsimp only [av,aw]
  walk_at"";refine A7 pl a.Plan bE _ _ rfl (t.tl.get lp) pc.cls pc.l rfl ?_;walk_at"";refine Bn h a.ae dx _ rfl t.hd T.hc.cls T.hc.lo (Vo rfl) ?_;have t1:=t.ik (o':=.ins a.ae dx (Aw "long" (.int long) []));have p1:Ah H (upd H h (.ins a.ae dx (Aw "long" (.int long) []))):=.chg t.hd rfl;generalize upd H h (.ins a.ae dx (Aw "long" (.int long) []))=H1 at t1 p1 ⊢;walk_at"";refine A7 pl a.Plan bE _ _ rfl (t1.tl.get lp) pc.cls pc.n rfl ?_;walk_at"";refine AU lt _ rfl (.of (p1.t ak)) (λD nD=>?_);refine Ad2 (xs:=zs.map V.str) (λi σ H2=>∃ x y L,σ=[x,y]/\Ko a H2 D zs i L ((h,.ins a.ae dx (Aw "long" (.int long) [])) :: R)/\Ah H H2) ⟨none,none,[],rfl,⟨t1.new nD,rfl,rfl,λj x h=>by simp at h⟩,p1.trans (.new nD)⟩ (λi σ H2 _ ⟨_,_,_,_,_,p⟩=>.of (p.t ak)) ?_ ?_
  .rintro i v tt σ H2 hx ⟨x0,y0,L,rfl,m,p2⟩ nt;rw [Uj] at hx;obtain ⟨z,hz,rfl⟩:=Ag (UX.mp hx);have s3:=(Ai.refl H2).upd (o:=.tup [.int i,.str z]) nt;have e3:(upd H2 tt (.tup [.int i,.str z])) tt=some (.tup [.int i,.str z]):=Al;generalize upd H2 tt (.tup [.int i,.str z])=H3 at s3 e3 ⊢;walk_at"";refine CV tt _ rfl (.of e3) rfl ?_;walk_at"";intro x I nx cW fo;refine Hz x I z i rfl ⟨Al,λl nl=>⟨rfl,?_⟩⟩;have jr:H3 l=none:=by
    have z1:∀{G:Hp}{b c:Addr}{o:HO},(upd G b o) c=none->G c=none:=λ{G b c o} e=>by
     by_cases z:c=b
     .rw [z,Al] at e;cases e
     .rw [Au z] at e;exact e
    exact z1 (z1 nl)
   have sC:Ai H3 (upd (upd (upd (upd H3 I (.own x)) x (.ins a.Line I [])) l (.lst [])) x (.ins a.Line I (CF z i l "rests" "" 0 .aa .aa))):=λb o e=>by
    rw [Au (B6 e nx),Au (B6 e jr),Au (B6 e nx),Au (B6 e cW)];exact e
   have r:=m.push hz nz s3 nx cW fo nl;have hD:=sC _ _ (s3 _ _ m.t.hd);walk_at"";refine DB _ (.inr z) rfl ⟨hD,?_,_,_,_,rfl,r,p2.trans ((Ah.of s3).trans ((Ah.of sC).trans (.chg hD rfl)))⟩;rw [Uc,T7,m.len];have:=(US.mp hz).1;omega
  .intro σ H2 zq;replace zq:=BI zq;obtain ⟨x0,y0,L,rfl,m,p2⟩:=zq;rw [T7] at m;have ml:=m.l;rw [VL] at ml;have lu:H2 h=some (.ins a.ae dx (Aw "long" (.int long) [])):=m.t.get (by simp);walk_at"";refine Bn h a.ae dx _ rfl lu T.hc.cls T.hc.li (Vo rfl) ?_;have t3:=At.set (P:=(D,_) :: L.flatMap (B8 a)) (o':=.ins a.ae dx (Aw "lines" (.ref D) (Aw "long" (.int long) []))) m.t;have p3:Ah H (upd H2 h (.ins a.ae dx (Aw "lines" (.ref D) (Aw "long" (.int long) [])))):=p2.trans (.chg lu rfl);generalize upd H2 h (.ins a.ae dx (Aw "lines" (.ref D) (Aw "long" (.int long) [])))=H3 at t3 p3 ⊢;have abx:H3 pl=some (.ins a.Plan bE (J6 long lt n gt)):=t3.get (U0 _ (UO _ lp));walk_at"";refine A7 pl a.Plan bE _ _ rfl abx pc.cls pc.g rfl ?_;refine DY gt rfl ⟨_,.of (p3.t lq)⟩ (λG nG=>?_);refine Ad3 (xs:=ts.map A6) (λi σ H4=>∃ x y B,σ=[x,y]/\Kp a H4 G (ts.map (·.2)) i B ((D,.dK (L.map λx=>(.inr x.l.num,.ref x.p))) :: L.flatMap (B8 a)++(h,.ins a.ae dx (Aw "lines" (.ref D) (Aw "long" (.int long) []))) :: R)/\Ah H H4) ⟨none,none,[],rfl,⟨t3.new nG,rfl,rfl⟩,p3.trans (.new nG)⟩ (λi σ H4 _ ⟨_,_,_,_,_,p⟩=>.of (p.t lq)) ?_ ?_
   .intro i v σ H4 hx zq;replace zq:=BI zq;obtain ⟨x0,y0,B,rfl,dZ,p4⟩:=zq;rw [Uj] at hx;obtain ⟨J,g9,rfl⟩:=Ag (UX.mp hx);have g3:=gk J (Uw g9);have etp:=p4.t (lay J (Uw g9));walk_at"";refine ⟨J.1,_,rfl,.of etp,rfl,?_⟩;walk_at"";intro x I nx cW fo;refine ⟨x,J.2.2,a.aR,I,rfl,Al,T.gc,g3.2.1,g3.2.2,λH5 ra rb rc s5 e5 na nb nc ea eb ec ab ac bc=>⟨rfl,?_⟩⟩;have r:=dZ.push (q:=J.2) (by rw [Uj,g9];rfl) (by rw [UD];exact ng) nx cW fo s5 e5 na nb nc ea eb ec ab ac bc;have s4:Ai H4 H5:=λb o e=>s5 b o (λz=>by rw [UL.mp z,nx] at e;cases e) (by rw [Au (B6 e nx),Au (B6 e cW)];exact e);have hG:=s4 _ _ dZ.t.hd;walk_at"";refine ⟨_,.inr J.2.1,rfl,hG,?_,_,_,_,rfl,r,p4.trans ((Ah.of s4).trans (.chg hG rfl))⟩;rw [Uc,T7,dZ.len];have:=(US.mp g9).1;omega
   .intro σ H4 zq;replace zq:=BI zq;obtain ⟨x0,y0,B,rfl,dZ,p4⟩:=zq;rw [T7] at dZ;have gl:=dZ.g;rw [show (ts.map (·.2)).take ts.length=ts.map (·.2) by rw [YN (by rw [T7];exact Uq _)]] at gl;have t4:=dZ.t;have tJ:H4 h=some (.ins a.ae dx (Aw "lines" (.ref D) (Aw "long" (.int long) []))):=t4.get (by simp);generalize hdl:(HO.dK (L.map λx=>((.inr x.l.num:Ar),V.ref x.p)))=dl at t4;walk_at"";refine Bn h a.ae dx _ rfl tJ T.hc.cls T.hc.sw (Vo rfl) ?_;have oZ:At H4 (((G,.dK (B.map λx=>(.inr x.g.pre,.ref x.p))) :: (B.flatMap (BX a)++((D,dl) :: L.flatMap (B8 a))))++(h,.ins a.ae dx (Aw "lines" (.ref D) (Aw "long" (.int long) []))) :: R):=by
     rw [WY,Uv];exact t4
    have t5:=At.set (o':=.ins a.ae dx (Aw "switches" (.ref G) (Aw "lines" (.ref D) (Aw "long" (.int long) [])))) oZ;have p5:Ah H (upd H4 h (.ins a.ae dx (Aw "switches" (.ref G) (Aw "lines" (.ref D) (Aw "long" (.int long) []))))):=p4.trans (.chg tJ rfl);generalize upd H4 h (.ins a.ae dx (Aw "switches" (.ref G) (Aw "lines" (.ref D) (Aw "long" (.int long) []))))=H5 at t5 p5 ⊢;have tK:H5 pl=some (.ins a.Plan bE (J6 long lt n gt)):=t5.get (U0 _ (UO _ lp));walk_at"";refine A7 pl a.Plan bE _ _ rfl tK pc.cls pc.s rfl ?_;walk_at"";refine A7 pl a.Plan bE _ _ rfl tK pc.cls pc.n rfl ?_;walk_at"";refine Ue (AU lt _ rfl (.inr (.of (p5.t ak))) ?_);walk_at"";rw [T7];intro x I nx cW fo;have t6:=(t5.same ((Ai.refl H5).upd (o:=.own x) cW)).new (b:=x) (u:=.ins a.aF I []) (by rw [Au fo.symm];exact nx);refine A7 x n zs.length a.aF I rfl Al T.sc n0 (by omega) (λH7 ra rb rc rs bp x7 k7 na nb nc ns nw=>⟨rfl,?_⟩);have s7:Ai H5 H7:=λb o e=>x7 b o (λz=>by rw [UL.mp z,nx] at e;cases e) (by rw [Au (B6 e nx),Au (B6 e cW)];exact e);obtain ⟨kdx,ke⟩:=k7.ins;obtain ⟨Y,lA⟩:∃ Y:SX,Y=⟨x,kdx,ra,rb,rc,rs,bp,Ga n zs.length⟩:=⟨_,rfl⟩;have t7:At H7 (BP a Y++(((G,.dK (B.map λx=>(.inr x.g.pre,.ref x.p))) :: (B.flatMap (BX a)++((D,dl) :: L.flatMap (B8 a))))++(h,.ins a.ae dx (Aw "switches" (.ref G) (Aw "lines" (.ref D) (Aw "long" (.int long) [])))) :: R)):=by
     rw [lA];exact t6.init (N:=[(ra,.lst (Ug n.toNat .aa)),(rb,.lst ((Ug n.toNat false).map V.bl)),(rc,.lst ((Ug n.toNat 0).map V.int)),(rs,.lst ((Ug n.toNat 0).map V.int)),(bp,.lst ((Ug n.toNat 0).map V.int))]) x7 ke (λc mc=>by
      simp only [Uo,UZ,or_false] at mc;rcases mc with rfl | rfl | rfl | rfl | rfl
      .exact ⟨na,k7.ha⟩
      .exact ⟨nb,k7.hb⟩
      .exact ⟨nc,k7.hc⟩
      .exact ⟨ns,k7.gG⟩
      .exact ⟨nw,k7.hw⟩) k7.ap
    have hh7:=s7 _ _ (t5.get (U0 _ UY));have tL:=s7 _ _ (t5.get (Yv _ UY));walk_at"";refine A7 h a.ae dx _ _ rfl hh7 T.hc.cls T.hc.sw rfl ?_;walk_at"";refine AU G _ rfl (.inl ⟨_,.inr "",tL,rfl,(by rw [T7,dZ.len,Uc];omega),rfl⟩) ?_;have nos:AS (B.map λx=>((.inr x.g.pre:Ar),V.ref x.p)) (.inr (Ud ""))=none:=FZ (f:=λx:RX=>x.g.pre) (v:=λx=>V.ref x.p) λmm=>by
     have e:B.map (·.g.pre)=ts.map (·.2.1):=by have:=congrArg (V4 Gr.pre) gl;rw [UD,UD,UD] at this;exact this
     rw [e] at mm;obtain ⟨J,mt,et⟩:=Ag (Ur.mp mm);exact (gk J mt).1 et
    rw [GB _ nos];have t8:=At.set (P:=BP a Y) (o':=.dK ((B.map λx=>((.inr x.g.pre:Ar),V.ref x.p))++[(.inr (Ud ""),.ref x)])) t7;have p8:Ah H (upd H7 G (.dK ((B.map λx=>((.inr x.g.pre:Ar),V.ref x.p))++[(.inr (Ud ""),.ref x)]))):=p5.trans ((Ah.of s7).trans (.chg tL rfl));generalize upd H7 G (.dK ((B.map λx=>((.inr x.g.pre:Ar),V.ref x.p))++[(.inr (Ud ""),.ref x)]))=H8 at t8 p8 ⊢;generalize hkv:HO.dK ((B.map λx=>((.inr x.g.pre:Ar),V.ref x.p))++[(.inr (Ud ""),.ref x)])=lB at t8;have t9:At H8 ((h,.ins a.ae dx (Aw "switches" (.ref G) (Aw "lines" (.ref D) (Aw "long" (.int long) [])))) :: (D,dl) :: (G,lB) :: (BP a Y++(B.flatMap (BX a)++(L.flatMap (B8 a)++R)))):=by
     have u1:At H8 ((BP a Y++((G,lB) :: (B.flatMap (BX a)++((D,dl) :: L.flatMap (B8 a)))))++(h,.ins a.ae dx (Aw "switches" (.ref G) (Aw "lines" (.ref D) (Aw "long" (.int long) [])))) :: R):=by rw [Uv];exact t8
     have u2:=u1.front;have u3:At H8 (((h,.ins a.ae dx (Aw "switches" (.ref G) (Aw "lines" (.ref D) (Aw "long" (.int long) [])))) :: (BP a Y++((G,lB) :: B.flatMap (BX a))))++(D,dl) :: (L.flatMap (B8 a)++R)):=by rw [Uv,WY,Uv,WY] at u2;rw [WY,Uv,WY];exact u2
     have u4:=u3.front;have u5:At H8 (((D,dl) :: (h,.ins a.ae dx (Aw "switches" (.ref G) (Aw "lines" (.ref D) (Aw "long" (.int long) [])))) :: BP a Y)++(G,lB) :: (B.flatMap (BX a)++(L.flatMap (B8 a)++R))):=by rw [WY,Uv,WY] at u4;exact u4
     have u6:=u5.front;exact u6.perm (((v8 _ _ _).trans (List.Perm.cons _ (v8 _ _ _))).trans (v8 _ _ _))
    walk_at"";refine ⟨Ax,λO jP=>?_⟩;have ta:=t9.new (u:=.lst (([]:List Str).map V.str)) jP;have pa:Ah H (upd H8 O (.lst [])):=p8.trans (.new jP);change At (upd H8 O (.lst [])) _ at ta;generalize upd H8 O (.lst [])=Ha at ta pa ⊢;walk_at"";refine Bn h a.ae dx _ rfl ta.tl.hd T.hc.cls T.hc.qu (Vo rfl) ?_;have tb:=At.set (P:=[_]) (o':=.ins a.ae dx (Aw "queue" (.ref O) (Aw "switches" (.ref G) (Aw "lines" (.ref D) (Aw "long" (.int long) []))))) ta;have pb:=pa.trans (Ah.chg (u:=.ins a.ae dx (Aw "queue" (.ref O) (Aw "switches" (.ref G) (Aw "lines" (.ref D) (Aw "long" (.int long) []))))) ta.tl.hd rfl);generalize upd Ha h (.ins a.ae dx (Aw "queue" (.ref O) (Aw "switches" (.ref G) (Aw "lines" (.ref D) (Aw "long" (.int long) [])))))=Hb at tb pb ⊢;walk_at"";refine ⟨Ax,λda jQ=>?_⟩;have tc:=tb.new (u:=.lst []) jQ;have tM:Ah H (upd Hb da (.lst [])):=pb.trans (.new jQ);generalize upd Hb da (.lst [])=Hc at tc tM ⊢;walk_at"";refine Bn h a.ae dx _ rfl tc.tl.tl.hd T.hc.cls T.hc.dn (Vo rfl) ?_;have td:=At.set (P:=[_,_]) (o':=.ins a.ae dx (FX long D G O da)) tc;have pd:=tM.trans (Ah.chg (u:=.ins a.ae dx (FX long D G O da)) tc.tl.tl.hd rfl);change At (upd Hc h (.ins a.ae dx (Aw "done" (.ref da) (Aw "queue" (.ref O) (Aw "switches" (.ref G) (Aw "lines" (.ref D) (Aw "long" (.int long) []))))))) _ at td;change Ah H (upd Hc h (.ins a.ae dx (Aw "done" (.ref da) (Aw "queue" (.ref O) (Aw "switches" (.ref G) (Aw "lines" (.ref D) (Aw "long" (.int long) []))))))) at pd;generalize upd Hc h (.ins a.ae dx (Aw "done" (.ref da) (Aw "queue" (.ref O) (Aw "switches" (.ref G) (Aw "lines" (.ref D) (Aw "long" (.int long) []))))))=Hd at td pd ⊢;have te:=At.swap (P:=[_,_]) (M:=[_,_,_]) (At.perm (C':=(O,_) :: (da,_) :: _) td (.swap _ _ _));have eS:(⟨h,dx,D,G,O,da,long,L,B,Y,[],[]⟩:HX).S=dC long zs n (ts.map (·.2)):=by show (⟨long,L.map (·.l),B.map (·.g),Y.k,[],[]⟩:PS)=_;rw [ml,gl,lA];rfl
    refine q Hd ⟨h,dx,D,G,O,da,long,L,B,Y,[],[]⟩ rfl eS ⟨?_,?_⟩ pd
    .subst lA;rw [<- hkv,<- hdl] at te;exact te
    .have en:L.map (·.l.num)=zs:=by
      have:=congrArg (V4 Ln.num) ml;rw [UD,UD,show Ln.num∘CG=id from rfl,Yr] at this;exact this
     have eg:B.map (·.g.pre)=ts.map (·.2.1):=by have:=congrArg (V4 Gr.pre) gl;rw [UD,UD,UD] at this;exact this
     have one:∀ g∈B,∃ J∈ts,g.g=Ct J.2:=λg jR=>by
      have:g.g∈(ts.map (·.2)).map Ct:=by rw [<- gl];exact Ur.mpr ⟨g,jR,rfl⟩
      obtain ⟨q2,m2,e2⟩:=Ag (Ur.mp this);obtain ⟨J,m3,e3⟩:=Ag (Ur.mp m2);exact ⟨J,m3,by rw [e3,e2]⟩
     refine ⟨by show (L.map (·.l.num)).Nodup;rw [en];exact nz,by show (B.map (·.g.pre)).Nodup;rw [eg];exact ng,λg jR=>?_,λj y hj=>?_,λg jR=>?_,?_⟩
     .obtain ⟨J,m3,e3⟩:=Ag (one g jR);rw [e3];exact (gk J m3).1
     .obtain ⟨y1,y2,y3⟩:=AD (m.x j y hj);have:y.l∈zs.map CG:=by rw [<- ml];exact Ur.mpr ⟨y,Uw hj,rfl⟩
      obtain ⟨z,_,ez⟩:=Ag (Ur.mp this);exact ⟨y1,by rw [y2,<- ez];trivial,by rw [y3,<- ez];exact .aa,by rw [<- ez];rfl,by rw [<- ez];exact U1 _⟩
     .obtain ⟨J,m3,e3⟩:=Ag (one g jR);have:=gk J m3;rw [e3];exact ⟨by simp [Ct],by simp [Ct],by simp only [Ct,Vi];omega⟩
     .show GJ Y.k;rw [lA];exact ⟨by simp [Ga],by simp [Ga],by simp [Ga],by simp [Ga],by simp only [Ga,Vi];omega⟩
section
variable {S:PS}{i j:Nat}{ln lo:Ln}
theorem MY:∀(ts:List (Str×Int))(S:PS),(aq S ts).dn=S.dn
 | [],_=>rfl
 | t :: ts,S=>(MY ts _).trans (by unfold aB;split<;>rfl)
theorem Ahf:(Bq S j lo).2.dn=S.dn:=by unfold Bq;split<;>exact MY ..
theorem LW.aby (d:LW):(d.go S i ln).2.dn=S.dn/\(d.go S i ln).1.length<=10:=by
 cases d with
 | lift =>
  refine ⟨?_,by show 1<=10;decide⟩;show (BY S i ln).2.dn=_;unfold BY;split
  .rfl
  .split
   .rfl
   .split<;>rfl
 | bz =>
  have B:(au S ln).dn=S.dn:=by unfold au;split<;>rfl
  have D:(BU (au S ln) ln).2.dn=S.dn/\(BU (au S ln) ln).1.length<=1:=by
   unfold BU;split
   .exact ⟨B,U1 _⟩
   .split
    .exact ⟨B,U1 _⟩
    .exact ⟨Ahf.trans B,Uq _⟩
  refine ⟨(MY ..).trans D.1,?_⟩;show (BU (au S ln) ln).1.length+1<=10;omega
theorem Ahg {b:Bool}{z:Str}{k:Int}(p:Str×Int):BF (BQ S b z k) p=BF S p:=by
 unfold BQ;by_cases c:z=Ud ""
 .rw [if_pos c];rfl
 .rw [if_neg c];refine (Ag5 (h:=λg=>{ g with js:=g.js.set k.toNat b }) (λ_=>rfl) c p).trans ?_;by_cases e:p.1=z
  .rw [if_pos e];unfold BF Cg;rw [e,if_neg c];cases Cf S z<;>rfl
  .rw [if_neg e]
theorem Gb {b:Bool}{z:Str}{k:Int}:(BQ S b z k).lns=S.lns/\(BQ S b z k).q=S.q/\(BQ S b z k).long=S.long/\(BQ S b z k).dn=S.dn:=by unfold BQ;split<;>exact ⟨rfl,rfl,rfl,rfl⟩
theorem WF.bf (w:WF S)(b:Bool)(z:Str)(k:Int):WF (BQ S b z k) :=
 w.chg (w.g.bf b z k) (λ_=>False) (λ_ _=>by rw [Gb.1]) (λ_ _ f=>f.elim) (λ_ _ _ _=>by rw [Gb.2.1]) (λ_ _ _ _ p _=>Ahg p) Gb.2.2.1 λ_ _ f=>f.elim
theorem WF.res (w:WF S){d:A8}{r:List PyData×PS}(e:d.res S=.inr r):WF r.2/\r.2.dn=S.dn/\r.1.length<=10:=by
 cases d with
 | bf b z k =>
  unfold A8.res at e;dsimp only at e;split at e
  .cases e
  .split at e
   .cases e;exact ⟨w.bf b z k,Gb.2.2.2,U1 _⟩
   .cases e
 | line d z =>
  unfold A8.res at e;dsimp only at e;split at e
  .cases e
  .split at e
   .rename_i ln h f
    cases e;exact ⟨(w.go h f).1,d.aby⟩
   .cases e
theorem WF.pre (w:WF S){d:A8}(t:d.txt):d.pre S:=by
 cases d with
 | bf b z k=>exact t
 | line d z =>
  refine ⟨t,λln h=>⟨?_,trivial,λf=>(w.go h f).2⟩⟩
  .obtain ⟨v,e,_⟩:=(w.l _ ln h).wy;rw [e];exact v.ok
theorem WF.next (w:WF S){d:A8}{r:List PyData×PS}(e:d.res S=.inr r)(dd:Addr):WF (B3 (Cs r.2 dd)).2:=WF.abt (S:=Cs r.2 dd) ((w.res e).1.dn (d:=r.2.dn++[V.ref dd]))
theorem Sh:∀(n:Nat)(S:PS),(aC n S).2.dn=S.dn
 | 0,_=>rfl
 | n+1,S=>by
  unfold aC;split
  .rfl
  .rename_i x e
   refine (Sh n _).trans ?_;unfold Dk at e;split at e
   .cases e
   .split at e
    .cases e
    .split at e
     .cases e
     .cases e;rfl
theorem WF.abz (w:WF S){d:A8}{r:List PyData×PS}(e:d.res S=.inr r)(dd:Addr):(B3 (Cs r.2 dd)).2.dn=S.dn++[.ref dd]:=(Sh ..).trans (by show r.2.dn++_=_;rw [(w.res e).2.1])
end
theorem WF.dC {long n:Int}{zs:List Str}{B:List (Str×Int)}(J:2<=long)(L:long<=9)(O:zs.Nodup)(Y:0<zs.length)(z1:zs.length<=60)(n0:1<=n)(n1:n<=60)(ng:(B.map (·.1)).Nodup)(I:∀ p∈B,p.1≠Ud ""/\0<=p.2/\p.2<=10)(zk:∀ z∈zs,Ok z/\0<z.length)(pk:∀ p∈B,Ok p.1)(zl:∀ z∈zs,(z.length:Int)=long)(pl:∀ p∈B,(p.1.length:Int)<=long - 2):WF (dC long zs n B):=by
 have H:((zs.map CG).map (·.num))=zs:=by rw [UD];exact Yr zs
 have ep:((B.map Ct).map (·.pre))=B.map (·.1):=by rw [UD];rfl
 have D:∀{α:Type}(x:α),(Ug n.toNat x).length=n.toNat:=λx=>Vi;have all:∀{p:Gr->Prop},(∀ y∈B,p (Ct y))->∀ g∈B.map Ct,p g:=λh g m=>by
  obtain ⟨y,my,rfl⟩:=Ur.mp m;exact h y my
 refine ⟨⟨by show ((zs.map CG).map _).Nodup;rw [H];exact O,by show ((B.map Ct).map _).Nodup;rw [ep];exact ng,all (p:=λg=>g.pre≠Ud "") λy m=>(I y m).1,by show (zs.map CG).length<=60;rw [T7];exact z1,by show 0<(zs.map CG).length;rw [T7];exact Y,.nil,(λz m=>nomatch m),Int.le_refl 0,?_,by show (zs.length:Int)=((zs.map CG).length:Nat);rw [T7],λv m=>.inl (yv.mp m).2,all (p:=ID _) λy m v mv=>.inl (yv.mp mv).2,all (p:=FY) λy m=>⟨?_,?_,?_⟩,⟨?_,?_,?_,?_,?_⟩,(by show ∀ z∈(zs.map CG).map (·.num),_;rw [H];exact zk),all (p:=λg=>Ok g.pre) λy m=>pk y m,J,L,(by show ∀ z∈(zs.map CG).map (·.num),_;rw [H];exact zl),all (p:=λg=>(g.pre.length:Int)<=long - 2) λy m=>pl y m⟩,λi ln h=>?_⟩
 .show (0:Int)<((Ug n.toNat V.aa).length:Nat);rw [D];omega
 .show (Ug _ _).length=(Ug _ _).length;rw [Vi,Vi]
 .show (Ug _ _).length=(Ug _ _).length;rw [Vi,Vi]
 .show (Ug _ _).length<=1000;rw [Vi];have:=(I y m).2.2;omega
 .show (Ug _ _).length=(Ug _ _).length;rw [D,D]
 .show (Ug _ _).length=(Ug _ _).length;rw [D,D]
 .show (Ug _ _).length=(Ug _ _).length;rw [D,D]
 .show (Ug _ _).length=(Ug _ _).length;rw [D,D]
 .show (Ug _ _).length<=1000;rw [D];omega
 .have h:(zs.map CG)[i]?=some ln:=h;rw [Uj] at h;obtain ⟨z,_,rfl⟩:=UX.mp h;exact .none rfl ⟨.rests,rfl,rfl,rfl,(λm=>nomatch m),rfl,rfl,rfl⟩
structure B4 where
 (z:Str) (a:Addr) (vs:List V)
structure AA where
 (w:Str) (ha ja sa:Addr) (hs js ss:List V)
structure VW where
 (w ln q dn way ao az bo ag why bV bJ shr sp st:Addr) (long mark:Int) (lns qs:List Str) (ds:List V) (zs:List Str) (ay aZ ba aW aU:Str->V) (tr:List B4) (rk:List AA) (bI cf:List Int)
noncomputable def dS (zs:List Str)(f:Str->V):List (Ar×V):=zs.map λz=>(.inr z,f z)
noncomputable def Bd (f:Str->V)(z:Str)(v:V):Str->V:=λy=>if y=z then v else f y
noncomputable def VW.kv (W:VW):List (Ar×V):=[(.inr "long",.int W.long),(.inr "lines",.ref W.ln),(.inr "queue",.ref W.q),(.inr "mark",.int W.mark),(.inr "done",.ref W.dn),(.inr "way",.ref W.way),(.inr "figures",.ref W.ao),(.inr "many",.ref W.az),(.inr "train",.ref W.bo),(.inr "end",.ref W.ag),(.inr "why",.ref W.why),(.inr "held",.ref W.bV),(.inr "stuck",.ref W.bJ),(.inr "shares",.ref W.shr),(.inr "spots",.ref W.sp),(.inr "steps",.ref W.st)]
def Br (l:List B4):List (Ar×V):=l.map λe=>(.inr e.z,.ref e.a)
def A9 (f:AA->Addr)(l:List AA):List (Ar×V):=l.map λe=>(.inr e.w,.ref (f e))
noncomputable def VW.top (W:VW):AH:=[(W.w,.dK W.kv),(W.way,.dK (dS W.zs W.ay)),(W.ao,.dK (dS W.zs W.aZ)),(W.az,.dK (dS W.zs W.ba)),(W.bo,.dK (Br W.tr)),(W.ag,.dK (dS W.zs W.aW)),(W.why,.dK (dS W.zs W.aU)),(W.ln,.lst (W.lns.map V.str)),(W.q,.lst (W.qs.map V.str)),(W.dn,.lst W.ds),(W.bV,.dK (A9 AA.ha W.rk)),(W.bJ,.dK (A9 AA.ja W.rk)),(W.shr,.dK (A9 AA.sa W.rk)),(W.sp,.lst (W.bI.map V.int)),(W.st,.lst (W.cf.map V.int))]
noncomputable def BH (e:B4):AH:=[(e.a,.lst e.vs)]
noncomputable def Ci (e:AA):AH:=[(e.ha,.lst e.hs),(e.ja,.lst e.js),(e.sa,.lst e.ss)]
noncomputable def VW.C (W:VW)(R:AH):AH:=W.top++(W.tr.flatMap BH++(W.rk.flatMap Ci++R))
theorem D7 {f:Str->V}{z:Str}:∀{zs:List Str},z∈zs->AS (dS zs f) (.inr z)=some (f z)
 | y :: zs,m=>by
  by_cases e:y=z
  .subst e;exact Eh rfl
  .exact (DD (λc=>e (VX c))).trans (D7 ((Uo.mp m).resolve_left λc=>e c.symm))
theorem MZ {f:Str->V}{z:Str}:∀{zs:List Str},z ∉ zs->AS (dS zs f) (.inr z)=none
 | [],_=>rfl
 | y :: zs,m=>(DD (λc=>m (by rw [<- VX c];exact UY))).trans (MZ λc=>m (UO _ c))
theorem ET {f:Str->V}{z:Str}{zs:List Str}(m:z∈zs)(v:V):AX (dS zs f) (.inr z) v=dS zs (Bd f z v):=by
 unfold AX;rw [HQ,D7 m,if_pos (by rfl)];show V4 _ (V4 _ zs)=V4 _ zs;rw [UD];refine Wl λy _=>?_;show (if (UR y:Ar)=.inr z then _ else _)=((UR y:Ar),Bd f z v y);unfold Bd;by_cases e:y=z
 .rw [if_pos (congrArg _ e),if_pos e]
 .rw [if_neg (λc=>e (VX c)),if_neg e]
theorem Ks {α:Type}{n:α->Str}{g:α->V}:∀{l:List α}{i:Nat}{x:α},(l.map n).Nodup->l[i]?=some x->AS (l.map λe=>((.inr (n e):Ar),g e)) (.inr (n x))=some (g x)
 | y :: l,0,x,_,h=>by
  have e:y=x:=by simpa using h
  subst e;exact Eh rfl
 | y :: l,i+1,x,B,h=>by
  have B:=UH.mp B;have h:l[i]?=some x:=by simpa using h
  exact (DD (λc=>B.1 (by rw [VX c];exact Ur.mpr ⟨x,Uw h,rfl⟩))).trans (Ks B.2 h)
theorem Kt {α:Type}{n:α->Str}{g:α->V}{z:Str}:∀{l:List α},z ∉ l.map n->AS (l.map λe=>((.inr (n e):Ar),g e)) (.inr z)=none
 | [],_=>rfl
 | y :: l,m=>(DD (λc=>m (by rw [<- VX c];exact UY))).trans (Kt λc=>m (UO _ c))
theorem Si {α:Type}{n:α->Str}{g:α->V}{l:List α}{i:Nat}{x y:α}(B:(l.map n).Nodup)(h:l[i]?=some x)(e:n y=n x):AX (l.map λe=>((.inr (n e):Ar),g e)) (.inr (n x)) (g y)=(l.set i y).map λe=>((.inr (n e):Ar),g e):=by
 unfold AX;rw [HQ,Ks B h,if_pos (by rfl),UD];refine List.ext_getElem? λj=>?_;rw [Uj,Uj,vX];have D:=(US.mp h).1;by_cases c:i=j
 .subst c;rw [if_pos rfl,if_pos D,h];show some (if (UR (n x):Ar)=.inr (n x) then _ else _)=some ((UR (n y):Ar),g y);rw [if_pos rfl,e]
 .rw [if_neg c];cases hj:l[j]? with
  | none=>rfl
  | some u =>
   show some (if (UR (n u):Ar)=.inr (n x) then _ else _)=some ((UR (n u):Ar),g u);rw [if_neg (λd=>Ek B (i:=i) (j:=j) (by rw [Uj,h];rfl) (by rw [Uj,hj];rfl) c (VX d).symm)]
section
variable {H H':Hp}{W:VW}{R:AH}{i:Nat}
theorem At.vw (t:At H (W.C R)):H W.w=some (.dK W.kv):=t.get (by simp [VW.C,VW.top])
theorem At.lC (t:At H (W.C R)):H W.ln=some (.lst (W.lns.map V.str)):=t.get (by simp [VW.C,VW.top])
theorem At.vq (t:At H (W.C R)):H W.q=some (.lst (W.qs.map V.str)):=t.get (by simp [VW.C,VW.top])
theorem At.tN (t:At H (W.C R)):H W.dn=some (.lst W.ds):=t.get (by simp [VW.C,VW.top])
theorem At.dD (t:At H (W.C R)):H W.way=some (.dK (dS W.zs W.ay)):=t.get (by simp [VW.C,VW.top])
theorem At.o6 (t:At H (W.C R)):H W.ao=some (.dK (dS W.zs W.aZ)):=t.get (by simp [VW.C,VW.top])
theorem At.tO (t:At H (W.C R)):H W.az=some (.dK (dS W.zs W.ba)):=t.get (by simp [VW.C,VW.top])
theorem At.fS (t:At H (W.C R)):H W.bo=some (.dK (Br W.tr)):=t.get (by simp [VW.C,VW.top])
theorem At.jS (t:At H (W.C R)):H W.ag=some (.dK (dS W.zs W.aW)):=t.get (by simp [VW.C,VW.top])
theorem At.o7 (t:At H (W.C R)):H W.why=some (.dK (dS W.zs W.aU)):=t.get (by simp [VW.C,VW.top])
theorem At.fT (t:At H (W.C R)):H W.bV=some (.dK (A9 AA.ha W.rk)):=t.get (by simp [VW.C,VW.top])
theorem At.o8 (t:At H (W.C R)):H W.bJ=some (.dK (A9 AA.ja W.rk)):=t.get (by simp [VW.C,VW.top])
theorem At.tP (t:At H (W.C R)):H W.shr=some (.dK (A9 AA.sa W.rk)):=t.get (by simp [VW.C,VW.top])
theorem At.tQ (t:At H (W.C R)):H W.sp=some (.lst (W.bI.map V.int)):=t.get (by simp [VW.C,VW.top])
theorem At.tR (t:At H (W.C R)):H W.st=some (.lst (W.cf.map V.int)):=t.get (by simp [VW.C,VW.top])
theorem At.abA (t:At H (W.C R))(k:Int):At (upd H W.w (.dK { W with mark:=k }.kv)) (VW.C { W with mark:=k } R):=At.set (P:=[]) t
theorem At.sQ (t:At H (W.C R))(q:List Str):At (upd H W.q (.lst (q.map V.str))) (VW.C { W with qs:=q } R):=At.set (P:=[_,_,_,_,_,_,_,_]) t
theorem At.sDn (t:At H (W.C R))(q:List V):At (upd H W.dn (.lst q)) (VW.C { W with ds:=q } R):=At.set (P:=[_,_,_,_,_,_,_,_,_]) t
theorem At.tS (t:At H (W.C R))(f:Str->V):At (upd H W.way (.dK (dS W.zs f))) (VW.C { W with ay:=f } R):=At.set (P:=[_]) t
theorem At.abB (t:At H (W.C R))(f:Str->V):At (upd H W.ao (.dK (dS W.zs f))) (VW.C { W with aZ:=f } R):=At.set (P:=[_,_]) t
theorem At.abC (t:At H (W.C R))(f:Str->V):At (upd H W.az (.dK (dS W.zs f))) (VW.C { W with ba:=f } R):=At.set (P:=[_,_,_]) t
theorem At.abD (t:At H (W.C R))(f:Str->V):At (upd H W.ag (.dK (dS W.zs f))) (VW.C { W with aW:=f } R):=At.set (P:=[_,_,_,_,_]) t
theorem At.abE (t:At H (W.C R))(f:Str->V):At (upd H W.why (.dK (dS W.zs f))) (VW.C { W with aU:=f } R):=At.set (P:=[_,_,_,_,_,_]) t
theorem At.sSp (t:At H (W.C R))(l:List Int):At (upd H W.sp (.lst (l.map V.int))) (VW.C { W with bI:=l } R):=At.set (P:=[_,_,_,_,_,_,_,_,_,_,_,_,_]) t
theorem At.sSt (t:At H (W.C R))(l:List Int):At (upd H W.st (.lst (l.map V.int))) (VW.C { W with cf:=l } R):=At.set (P:=[_,_,_,_,_,_,_,_,_,_,_,_,_,_]) t
theorem At.bW (t:At H (W.C R)):At H R:=t.right.right.right
theorem At.lD {b:Addr}{u:HO}(t:At H (W.C R))(n:H b=none):At (upd H b u) (W.C ((b,u) :: R)):=by have:=t.new (u:=u) n;unfold VW.C at this ⊢;rw [<- Uv,<- Uv] at this ⊢;exact this.back
theorem At.abF {r:Addr}{o o':HO}(t:At H (W.C ((r,o) :: R))):At (upd H r o') (W.C ((r,o') :: R)):=by unfold VW.C at t ⊢;rw [<- Uv,<- Uv] at t ⊢;exact t.set
theorem At.o9 {e:B4}(t:At H (W.C R))(h:W.tr[i]?=some e):H e.a=some (.lst e.vs):=(At.pick (P:=W.top) t h).get (by simp [BH])
theorem At.iB {e:AA}(t:At H (W.C R))(h:W.rk[i]?=some e):At H (Ci e++((W.top++W.tr.flatMap BH)++((W.rk.take i).flatMap Ci++((W.rk.drop (i+1)).flatMap Ci++R)))):=by refine At.pick (P:=W.top++W.tr.flatMap BH) ?_ h;rw [Uv];exact t
theorem At.tT {e e':B4}(t:At H (W.C R))(h:W.tr[i]?=some e)(n:H e'.a=none):At (upd (upd H e'.a (.lst e'.vs)) W.bo (.dK (Br (W.tr.set i e')))) (VW.C { W with tr:=W.tr.set i e' } R):=by have B:At H (BH e++(W.top++((W.tr.take i).flatMap BH++((W.tr.drop (i+1)).flatMap BH++(W.rk.flatMap Ci++R))))):=At.pick (P:=W.top) t h;have D:=(B.tl).new (u:=.lst e'.vs) n;have I:At _ (W.top++((W.tr.set i e').flatMap BH++(W.rk.flatMap Ci++R))):=At.put (f:=BH) (P:=W.top) (y:=e') D (US.mp h).1;exact At.set (P:=[_,_,_,_]) I
theorem VW.abG {e e':AA}(h:W.rk[i]?=some e)(D:e'.ha=e.ha)(I:e'.ja=e.ja)(J:e'.sa=e.sa)(B:e'.w=e.w):VW.top { W with rk:=W.rk.set i e' }=W.top:=by unfold VW.top;rw [show A9 AA.ha (W.rk.set i e')=A9 AA.ha W.rk from Du (f:=λe:AA=>((.inr e.w:Ar),V.ref e.ha)) h (by rw [D,B]),show A9 AA.ja (W.rk.set i e')=A9 AA.ja W.rk from Du (f:=λe:AA=>((.inr e.w:Ar),V.ref e.ja)) h (by rw [I,B]),show A9 AA.sa (W.rk.set i e')=A9 AA.sa W.rk from Du (f:=λe:AA=>((.inr e.w:Ar),V.ref e.sa)) h (by rw [J,B])];rfl
theorem At.pe {e e':AA}(h:W.rk[i]?=some e)(D:e'.ha=e.ha)(I:e'.ja=e.ja)(J:e'.sa=e.sa)(L:e'.w=e.w)(t:At H' (Ci e'++((W.top++W.tr.flatMap BH)++((W.rk.take i).flatMap Ci++((W.rk.drop (i+1)).flatMap Ci++R))))):At H' (VW.C { W with rk:=W.rk.set i e' } R):=by have B:=At.put (f:=Ci) (P:=W.top++W.tr.flatMap BH) (y:=e') t (US.mp h).1;unfold VW.C;rw [VW.abG h D I J L];rw [Uv] at B;exact B
theorem At.gP {e:AA}(t:At H (W.C R))(h:W.rk[i]?=some e):H e.ha=some (.lst e.hs):=(t.iB h).get (by simp [Ci])
theorem At.lE {e:AA}(t:At H (W.C R))(h:W.rk[i]?=some e):H e.ja=some (.lst e.js):=(t.iB h).get (by simp [Ci])
theorem At.tU {e:AA}(t:At H (W.C R))(h:W.rk[i]?=some e):H e.sa=some (.lst e.ss):=(t.iB h).get (by simp [Ci])
theorem At.tV {e:AA}(t:At H (W.C R))(h:W.rk[i]?=some e)(l:List V):At (upd H e.ha (.lst l)) (VW.C { W with rk:=W.rk.set i { e with hs:=l } } R):=At.pe (e':={ e with hs:=l }) h rfl rfl rfl rfl (At.set (P:=[]) (t.iB h))
theorem At.sJs {e:AA}(t:At H (W.C R))(h:W.rk[i]?=some e)(l:List V):At (upd H e.ja (.lst l)) (VW.C { W with rk:=W.rk.set i { e with js:=l } } R):=At.pe (e':={ e with js:=l }) h rfl rfl rfl rfl (by have f:=t.iB h;exact At.set (P:=[_]) f)
theorem At.sSs {e:AA}(t:At H (W.C R))(h:W.rk[i]?=some e)(l:List V):At (upd H e.sa (.lst l)) (VW.C { W with rk:=W.rk.set i { e with ss:=l } } R):=At.pe (e':={ e with ss:=l }) h rfl rfl rfl rfl (by have f:=t.iB h;exact At.set (P:=[_,_]) f)
end
noncomputable def CY (S:PS)(w:Str)(hs:List V):List V:=if w=Ud "" then hs.map (DN S) else hs
structure IG (K:T3)(H:Hp)(fa fb fc fd fe:Str->V)(tr:List B4)(ln:Ln):Prop where
 way:fa ln.num=.str ln.st
 ao:fb ln.num=.str ln.ao
 az:fc ln.num=.int ln.az
 ag:fd ln.num=Ce ln.ag
 why:Is K H (fe ln.num) ln.why
 wt:Dj ln.why=true
 tr:∀ e∈tr,e.z=ln.num->∃ as,e.vs=as.map V.ref/\CK H as ln.held
structure BA (K:T3)(H:Hp)(W:VW)(S:PS):Prop where
 lo:W.long=S.long
 ma:W.mark=S.sk.mark
 q:W.qs=S.q
 ds:W.ds=S.dn
 sp:W.bI=S.sk.st
 st:W.cf=S.sk.wt
 ln:W.lns=S.lns.map (·.num)
 nn:(S.lns.map (·.num)).Nodup
 zs:∀ z,z∈W.zs↔z∈S.lns.map (·.num)
 zl:W.zs.length<=1000
 tz:W.tr.map (·.z)=W.zs
 tn:W.zs.Nodup
 l:∀(i:Nat)(ln:Ln),S.lns[i]?=some ln->IG K H W.ay W.aZ W.ba W.aW W.aU W.tr ln
 rn:(W.rk.map (·.w)).Nodup
 rz:∀ w,w∈W.rk.map (·.w)↔(Bc S w).isSome=true
 rl:W.rk.length<64
 r:∀ e∈W.rk,∀ r,Bc S e.w=some r->e.hs=CY S e.w r.1/\e.js=r.2.1.map V.bl/\e.ss=r.2.2.map V.int
structure WT (K:T3)(H:Hp)(W:VW)(S:PS)(R:AH):Prop where
 t:At H (W.C R)
 ok:BA K H W S
section
variable {K:T3}{H H':Hp}{W:VW}{S S':PS}{R:AH}{i j:Nat}{ln y:Ln}{e e':AA}
theorem IG.ai {fa fb fc fd fe:Str->V}{tr:List B4}(l:IG K H fa fb fc fd fe tr ln)(s:Ah H H'):IG K H' fa fb fc fd fe tr ln :=
 ⟨l.way,l.ao,l.az,l.ag,Is.ai _ l.wt l.why s,l.wt,λe m z=>let ⟨B,a,b⟩:=l.tr e m z;⟨B,a,b.ai s⟩⟩
theorem BA.ai (k:BA K H W S)(s:Ah H H'):BA K H' W S:=⟨k.lo,k.ma,k.q,k.ds,k.sp,k.st,k.ln,k.nn,k.zs,k.zl,k.tz,k.tn,λi ln h=>(k.l i ln h).ai s,k.rn,k.rz,k.rl,k.r⟩
theorem WT.same (t:WT K H W S R)(s:Ai H H'):WT K H' W S R:=⟨t.t.same s,t.ok.ai (.of s)⟩
theorem WT.new {b:Addr}{u:HO}(t:WT K H W S R)(n:H b=none):WT K (upd H b u) W S ((b,u) :: R):=⟨t.t.lD n,t.ok.ai (.new n)⟩
theorem WT.set {r:Addr}{o o':HO}(t:WT K H W S ((r,o) :: R))(k:Ik o=false):WT K (upd H r o') W S ((r,o') :: R)/\Ah H (upd H r o'):=by have B:Ah H (upd H r o'):=.chg t.t.bW.hd k;exact ⟨⟨t.t.abF,t.ok.ai B⟩,B⟩
theorem WT.sub {R':AH}(t:WT K H W S R)(s:R'.Sublist R):WT K H W S R':=⟨t.t.sub ((VR _).append ((VR _).append ((VR _).append s))),t.ok⟩
theorem Ahh (e:S'.lns.map (·.num)=S.lns.map (·.num))(v:V):DN S' v=DN S v:=by
 cases v with
 | int k =>
  have h:(S'.lns.map (·.num))[k.toNat]?=(S.lns.map (·.num))[k.toNat]?:=by rw [e]
  rw [Uj,Uj] at h;show (match S'.lns[k.toNat]? with | none=>V.aa | some ln=>.str ln.num)=(match S.lns[k.toNat]? with | none=>V.aa | some ln=>.str ln.num);cases h1:S'.lns[k.toNat]? with
  | none =>
   cases h2:S.lns[k.toNat]? with
   | none=>rfl
   | some _=>rw [h1,h2] at h;cases h
  | some a =>
   cases h2:S.lns[k.toNat]? with
   | none=>rw [h1,h2] at h;cases h
   | some b=>rw [h1,h2] at h;exact congrArg V.str (UK h)
 | _=>rfl
theorem Sj (e:S'.lns.map (·.num)=S.lns.map (·.num))(w:Str)(hs:List V):CY S' w hs=CY S w hs:=by
 unfold CY;split
 .exact Wl λv _=>Ahh e v
 .rfl
theorem BA.cM (k:BA K H W S)(q:List Str):BA K H { W with qs:=q } { S with q:=q }:=⟨k.lo,k.ma,rfl,k.ds,k.sp,k.st,k.ln,k.nn,k.zs,k.zl,k.tz,k.tn,k.l,k.rn,k.rz,k.rl,k.r⟩
theorem BA.oU (k:BA K H W S)(d:List V):BA K H { W with ds:=d } { S with dn:=d }:=⟨k.lo,k.ma,k.q,rfl,k.sp,k.st,k.ln,k.nn,k.zs,k.zl,k.tz,k.tn,k.l,k.rn,k.rz,k.rl,k.r⟩
theorem BA.bU (k:BA K H W S)(s:Ah H H')(h:S.lns[i]?=some ln)(O:y.num=ln.num){fa fb fc fd fe:Str->V}{B:List B4}(Y:B.map (·.z)=W.tr.map (·.z))(lG:∀ z,z≠ln.num->fa z=W.ay z/\fb z=W.aZ z/\fc z=W.ba z/\fd z=W.aW z/\fe z=W.aU z)(J:∀ e∈B,e.z≠ln.num->e∈W.tr)(hy:IG K H' fa fb fc fd fe B y) :
  BA K H' { W with ay:=fa,aZ:=fb,ba:=fc,aW:=fd,aU:=fe,tr:=B } { S with lns:=S.lns.set i y }:=by
 have D:(S.lns.set i y).map (·.num)=S.lns.map (·.num):=Dv h O;have il:=(US.mp h).1;refine ⟨k.lo,k.ma,k.q,k.ds,k.sp,k.st,k.ln.trans D.symm,by show ((S.lns.set i y).map _).Nodup;rw [D];exact k.nn,λz=>?_,k.zl,Y.trans k.tz,k.tn,λj L I=>?_,k.rn,k.rz,k.rl,λe m r er=>?_⟩
 .show z∈W.zs↔z∈(S.lns.set i y).map (·.num);rw [D];exact k.zs z
 .rcases (Ke il).mp I with ⟨_,rfl⟩ | ⟨ne,I⟩
  .exact hy
  .have l:=(k.l j L I).ai s;have n:=EO k.nn I h (UQ ne);obtain ⟨o1,o2,o3,o4,o5⟩:=lG _ n;exact ⟨o1.trans l.way,o2.trans l.ao,o3.trans l.az,o4.trans l.ag,by show Is K H' (fe L.num) _;rw [o5];exact l.why,l.wt,λe m z=>l.tr e (J e m (by rw [z];exact n)) z⟩
 .rw [Sj (S:=S) (S':={ S with lns:=S.lns.set i y }) D];exact k.r e m r er
theorem BA.gI (k:BA K H W S)(h:W.rk[j]?=some e)(J:e'.w=e.w)(L:S'.lns=S.lns)(hq:S'.q=S.q)(hd:S'.dn=S.dn)(ho:S'.long=S.long){mk:Int}{sp st:List Int}(hm:mk=S'.sk.mark)(hs:sp=S'.sk.st)(ht:st=S'.sk.wt){r:List V×List Bool×List Int}(O:Bc S' e.w=some r)(Y:∀ w,w≠e.w->Bc S' w=Bc S w)(he:e'.hs=CY S e.w r.1/\e'.js=r.2.1.map V.bl/\e'.ss=r.2.2.map V.int) :
  BA K H { W with rk:=W.rk.set j e',mark:=mk,bI:=sp,cf:=st } S':=by
 have en:(W.rk.set j e').map (·.w)=W.rk.map (·.w):=Du (f:=λe:AA=>e.w) h J;have jl:=(US.mp h).1;have B:S'.lns.map (·.num)=S.lns.map (·.num):=by rw [L]
 refine ⟨k.lo.trans ho.symm,hm,k.q.trans hq.symm,k.ds.trans hd.symm,hs,ht,k.ln.trans B.symm,by rw [B];exact k.nn,λz=>by rw [B];exact k.zs z,k.zl,k.tz,k.tn,λi ln h=>k.l i ln (by rw [<- L];exact h),by show ((W.rk.set j e').map _).Nodup;rw [en];exact k.rn,λw=>?_,by show (W.rk.set j e').length<64;rw [UE];exact k.rl,λu mu r' D=>?_⟩
 .show w∈(W.rk.set j e').map _↔_;rw [en,k.rz];by_cases c:w=e.w
  .rw [c,O,<- k.rz];exact ⟨λ_=>rfl,λ_=>Ur.mpr ⟨e,Uw h,rfl⟩⟩
  .rw [Y w c]
 .rw [Sj B];obtain ⟨n,I⟩:=XI.mp mu;rcases (Ke jl).mp I with ⟨_,rfl⟩ | ⟨ne,I⟩
  .rw [J,O] at D;cases D;rw [J];exact he
  .have c:u.w≠e.w:=Ek k.rn (i:=n) (j:=j) (by rw [Uj,I];rfl) (by rw [Uj,h];rfl) (UQ ne);rw [Y _ c] at D;exact k.r u (Uw I) r' D
theorem BA.find (k:BA K H W S){w:Str}{r:List V×List Bool×List Int}(B:Bc S w=some r):∃(j:Nat)(e:AA),W.rk[j]?=some e/\e.w=w/\e.hs=CY S w r.1/\e.js=r.2.1.map V.bl/\e.ss=r.2.2.map V.int:=by obtain ⟨e,m,D⟩:=Ur.mp ((k.rz w).mpr (by rw [B];rfl));obtain ⟨j,h⟩:=XI.mp m;subst D;exact ⟨j,e,h,rfl,k.r e m r B⟩
theorem BA.lI (k:BA K H W S)(h:S.lns[i]?=some ln):∃(j:Nat)(e:B4)(as:List Addr),W.tr[j]?=some e/\e.z=ln.num/\e.vs=as.map V.ref/\CK H as ln.held:=by
 have m:ln.num∈W.tr.map (·.z):=by rw [k.tz,k.zs];exact D6 h
 obtain ⟨e,me,B⟩:=Ur.mp m;obtain ⟨j,D⟩:=XI.mp me;obtain ⟨as,a,b⟩:=(k.l i ln h).tr e me B;exact ⟨j,e,as,D,B,a,b⟩
theorem BA.fU (k:BA K H W S)(h:S.lns[i]?=some ln):ln.num∈W.zs:=(k.zs _).mpr (D6 h)
theorem BA.lJ (k:BA K H W S):(W.tr.map (·.z)).Nodup:=by rw [k.tz];exact k.tn
theorem BA.others (k:BA K H W S){B te':B4}(h:W.tr[j]?=some B)(D:te'.z=B.z):(W.tr.set j te').map (·.z)=W.tr.map (·.z)/\∀ e∈W.tr.set j te',e.z≠B.z->e∈W.tr:=by refine ⟨Du (f:=λe:B4=>e.z) h D,λe m n=>(F8 m).resolve_left λc=>n (by rw [c,D])⟩
theorem BA.tW (k:BA K H W S){B te':B4}(h:W.tr[j]?=some B)(I:te'.z=B.z){e:B4}(m:e∈W.tr.set j te')(z:e.z=B.z):e=te':=by
 obtain ⟨n,D⟩:=XI.mp m;rcases (Ke (US.mp h).1).mp D with ⟨_,c⟩ | ⟨ne,D⟩
 .exact c.symm
 .exact absurd z (Ek k.lJ (i:=n) (j:=j) (by rw [Uj,D];rfl) (by rw [Uj,h];rfl) (UQ ne))
end
theorem GW {f:Str->V}{z:Str}{v:V}:Bd f z v z=v:=if_pos rfl
theorem GX {f:Str->V}{y z:Str}{v:V}(n:y≠z):Bd f z v y=f y:=if_neg n
theorem Ahi {S:PS}{w:Str}{k:Int}{r:List V×List Bool×List Int}(B:Bc S w=some r):Bc (aB S w k) w=some (r.1.set k.toNat .aa,r.2.1,r.2.2)/\∀ u,u≠w->Bc (aB S w k) u=Bc S u:=by
 unfold Bc at B ⊢;unfold aB;by_cases c:w=Ud ""
 .rw [if_pos c] at B;cases B;refine ⟨by rw [if_pos c,if_pos c],λu n=>?_⟩;rw [if_pos c,if_neg (λd=>n (d.trans c.symm)),if_neg (λd=>n (d.trans c.symm))];rfl
 .rw [if_neg c] at B;obtain ⟨g,D,rfl⟩:=UX.mp B;refine ⟨?_,λu n=>?_⟩
  .rw [if_neg c,if_neg c,F7 (h:=λg=>{ g with hs:=g.hs.set k.toNat .aa }) λ_=>rfl,D];simp only [Vw,if_true]
  .rw [if_neg c,F7 (h:=λg=>{ g with hs:=g.hs.set k.toNat .aa }) λ_=>rfl];by_cases d:u=Ud ""
   .rw [if_pos d,if_pos d]
   .rw [if_neg d,if_neg d];cases Cf S u with
    | none=>rfl
    | some g=>rw [Vw,if_neg n]
section
variable {P:Ub}{w:T6}{K:T3}{mg:Str->Option Value}{base:Heap}{a:Aq}{H H':Hp}{W:VW}{S S':PS}{R:AH}{i j:Nat}{ln y:Ln}
theorem EU:AS W.kv (.inr "way")=some (.ref W.way):=rfl
theorem Sl:AS W.kv (.inr "figures")=some (.ref W.ao):=rfl
theorem Ahj:AS W.kv (.inr "many")=some (.ref W.az):=rfl
theorem IH:AS W.kv (.inr "train")=some (.ref W.bo):=rfl
theorem Ku:AS W.kv (.inr "end")=some (.ref W.ag):=rfl
theorem Sn:AS W.kv (.inr "why")=some (.ref W.why):=rfl
theorem Fx:AS W.kv (.inr "held")=some (.ref W.bV):=rfl
theorem M0:AS W.kv (.inr "stuck")=some (.ref W.bJ):=rfl
theorem So:AS W.kv (.inr "shares")=some (.ref W.shr):=rfl
theorem Gd:AS W.kv (.inr "queue")=some (.ref W.q):=rfl
theorem II:AS W.kv (.inr "lines")=some (.ref W.ln):=rfl
theorem Sq:AS W.kv (.inr "done")=some (.ref W.dn):=rfl
theorem M3:AS W.kv (.inr "spots")=some (.ref W.sp):=rfl
theorem Sr:AS W.kv (.inr "steps")=some (.ref W.st):=rfl
theorem Ahk:AS W.kv (.inr "mark")=some (.int W.mark):=rfl
theorem Em {zs:List Str}{f:Str->V}(h:zs.length<=1000):(dS zs f).length<sizeLine:=by show (zs.map _).length<_;rw [T7,Uc];omega
theorem WT.lK (t:WT K H W S R)(h:S.lns[i]?=some ln)(v:Str):WT K (upd H W.way (.dK (dS W.zs (Bd W.ay ln.num (.str v))))) { W with ay:=Bd W.ay ln.num (.str v) } { S with lns:=S.lns.set i { ln with st:=v } } R/\Ah H (upd H W.way (.dK (dS W.zs (Bd W.ay ln.num (.str v))))):=by have B:Ah H (upd H W.way (.dK (dS W.zs (Bd W.ay ln.num (.str v))))):=.chg t.t.dD rfl;have l:=(t.ok.l i ln h).ai B;exact ⟨⟨t.t.tS _,t.ok.bU (y:={ ln with st:=v }) B h rfl rfl (λz n=>⟨GX n,rfl,rfl,rfl,rfl⟩) (λ_ m _=>m) ⟨GW,l.ao,l.az,l.ag,l.why,l.wt,l.tr⟩⟩,B⟩
theorem WT.abH (t:WT K H W S R)(h:S.lns[i]?=some ln)(v:Str):WT K (upd H W.ao (.dK (dS W.zs (Bd W.aZ ln.num (.str v))))) { W with aZ:=Bd W.aZ ln.num (.str v) } { S with lns:=S.lns.set i { ln with ao:=v } } R/\Ah H (upd H W.ao (.dK (dS W.zs (Bd W.aZ ln.num (.str v))))):=by have B:Ah H (upd H W.ao (.dK (dS W.zs (Bd W.aZ ln.num (.str v))))):=.chg t.t.o6 rfl;have l:=(t.ok.l i ln h).ai B;exact ⟨⟨t.t.abB _,t.ok.bU (y:={ ln with ao:=v }) B h rfl rfl (λz n=>⟨rfl,GX n,rfl,rfl,rfl⟩) (λ_ m _=>m) ⟨l.way,GW,l.az,l.ag,l.why,l.wt,l.tr⟩⟩,B⟩
theorem WT.abI (t:WT K H W S R)(h:S.lns[i]?=some ln)(v:Int):WT K (upd H W.az (.dK (dS W.zs (Bd W.ba ln.num (.int v))))) { W with ba:=Bd W.ba ln.num (.int v) } { S with lns:=S.lns.set i { ln with az:=v } } R/\Ah H (upd H W.az (.dK (dS W.zs (Bd W.ba ln.num (.int v))))):=by have B:Ah H (upd H W.az (.dK (dS W.zs (Bd W.ba ln.num (.int v))))):=.chg t.t.tO rfl;have l:=(t.ok.l i ln h).ai B;exact ⟨⟨t.t.abC _,t.ok.bU (y:={ ln with az:=v }) B h rfl rfl (λz n=>⟨rfl,rfl,GX n,rfl,rfl⟩) (λ_ m _=>m) ⟨l.way,l.ao,GW,l.ag,l.why,l.wt,l.tr⟩⟩,B⟩
theorem WT.abJ (t:WT K H W S R)(h:S.lns[i]?=some ln)(v:Option Str):WT K (upd H W.ag (.dK (dS W.zs (Bd W.aW ln.num (Ce v))))) { W with aW:=Bd W.aW ln.num (Ce v) } { S with lns:=S.lns.set i { ln with ag:=v } } R/\Ah H (upd H W.ag (.dK (dS W.zs (Bd W.aW ln.num (Ce v))))):=by have B:Ah H (upd H W.ag (.dK (dS W.zs (Bd W.aW ln.num (Ce v))))):=.chg t.t.jS rfl;have l:=(t.ok.l i ln h).ai B;exact ⟨⟨t.t.abD _,t.ok.bU (y:={ ln with ag:=v }) B h rfl rfl (λz n=>⟨rfl,rfl,rfl,GX n,rfl⟩) (λ_ m _=>m) ⟨l.way,l.ao,l.az,GW,l.why,l.wt,l.tr⟩⟩,B⟩
theorem WT.abK (t:WT K H W S R)(h:S.lns[i]?=some ln){v:V}{d:PyData}(I:Is K H v d)(D:Dj d=true):WT K (upd H W.why (.dK (dS W.zs (Bd W.aU ln.num v)))) { W with aU:=Bd W.aU ln.num v } { S with lns:=S.lns.set i { ln with why:=d } } R/\Ah H (upd H W.why (.dK (dS W.zs (Bd W.aU ln.num v)))):=by have B:Ah H (upd H W.why (.dK (dS W.zs (Bd W.aU ln.num v)))):=.chg t.t.o7 rfl;have l:=(t.ok.l i ln h).ai B;exact ⟨⟨t.t.abE _,t.ok.bU (y:={ ln with why:=d }) B h rfl rfl (λz n=>⟨rfl,rfl,rfl,rfl,GX n⟩) (λ_ m _=>m) ⟨l.way,l.ao,l.az,l.ag,by show Is K _ (Bd W.aU ln.num v ln.num) d;rw [GW];exact Is.ai _ D I B,D,l.tr⟩⟩,B⟩
theorem WT.tX (t:WT K H W S R)(h:S.lns[i]?=some ln){Y:B4}(I:W.tr[j]?=some Y)(B:Y.z=ln.num){l:Addr}(L:H l=none){as:List Addr}{hd:List (Str×Int)}(pr:CK H as hd) :
  WT K (upd (upd H l (.lst (as.map V.ref))) W.bo (.dK (Br (W.tr.set j ⟨ln.num,l,as.map V.ref⟩)))) { W with tr:=W.tr.set j ⟨ln.num,l,as.map V.ref⟩ } { S with lns:=S.lns.set i { ln with held:=hd } } R/\Ah H (upd (upd H l (.lst (as.map V.ref))) W.bo (.dK (Br (W.tr.set j ⟨ln.num,l,as.map V.ref⟩))))/\AX (Br W.tr) (.inr ln.num) (.ref l)=Br (W.tr.set j ⟨ln.num,l,as.map V.ref⟩):=by
 have O:H W.bo≠none:=by rw [t.t.fS];exact λe=>nomatch e
 have J:Ah H (upd (upd H l (.lst (as.map V.ref))) W.bo (.dK (Br (W.tr.set j ⟨ln.num,l,as.map V.ref⟩)))):=(Ah.new L).trans (.chg (o:=.dK (Br W.tr)) (by rw [Au (λe=>O (by rw [e];exact L))];exact t.t.fS) rfl);have D:=(t.ok.l i ln h).ai J;obtain ⟨o1,o2⟩:=t.ok.others (te':=⟨ln.num,l,as.map V.ref⟩) I B.symm;refine ⟨⟨t.t.tT (e':=⟨ln.num,l,as.map V.ref⟩) I L,t.ok.bU (y:={ ln with held:=hd }) J h rfl o1 (λz n=>⟨rfl,rfl,rfl,rfl,rfl⟩) (λe m n=>o2 e m (by rw [B];exact n)) ⟨D.way,D.ao,D.az,D.ag,D.why,D.wt,λe m z=>?_⟩⟩,J,?_⟩
 .rw [t.ok.tW (te':=⟨ln.num,l,as.map V.ref⟩) I B.symm m (by rw [B];exact z)];exact ⟨as,rfl,pr.ai J⟩
 .have:=Si (n:=B4.z) (g:=λe=>V.ref e.a) (y:=(⟨ln.num,l,as.map V.ref⟩:B4)) t.ok.lJ I B.symm;rw [B] at this;exact this
end
def Ahl (K:T3):Sp:=λvs H Q _=>∃(W:VW)(S:PS)(R:AH)(i:Nat)(ln:Ln)(st:Str),vs=[.ref W.w,.str ln.num,.str st]/\WT K H W S R/\S.lns[i]?=some ln /\
 ∀ H' W',WT K H' W' { S with lns:=S.lns.set i { AI ln st with held:=[] } } R->W'.w=W.w->Ah H H'->Q .aa H'
noncomputable def VW.bu (W:VW):List (Ar×V):=[(.inr "long",.int W.long),(.inr "lines",.ref W.ln),(.inr "queue",.ref W.q),(.inr "mark",.int W.mark),(.inr "done",.ref W.dn),(.inr "way",.ref W.way),(.inr "figures",.ref W.ao),(.inr "many",.ref W.az),(.inr "train",.ref W.bo),(.inr "end",.ref W.ag),(.inr "why",.ref W.why),(.inr "held",.ref W.bV),(.inr "stuck",.ref W.bJ),(.inr "shares",.ref W.shr)]
noncomputable def VW.dE (W:VW):AH:=[(W.w,.dK W.bu),(W.way,.dK (dS W.zs W.ay)),(W.ao,.dK (dS W.zs W.aZ)),(W.az,.dK (dS W.zs W.ba)),(W.bo,.dK (Br W.tr)),(W.ag,.dK (dS W.zs W.aW)),(W.why,.dK (dS W.zs W.aU))]
noncomputable def VW.t7 (W:VW)(d1 d2 d3 d4 d5 d6:List (Ar×V))(C:AH):AH:=(W.w,.dK W.bu) :: (W.way,.dK d1) :: (W.ao,.dK d2) :: (W.az,.dK d3) :: (W.bo,.dK d4) :: (W.ag,.dK d5) :: (W.why,.dK d6) :: C
noncomputable def VW.C0 (W:VW)(R:AH):AH:=W.dE++(W.tr.flatMap BH++R)
theorem Ahm {f:Str->V}{z:Str}{zs:List Str}(n:z ∉ zs):AX (dS zs f) (.inr z) (f z)=dS (zs++[z]) f:=by rw [GB _ (MZ n)];show _=V4 _ (zs++[z]);rw [Uy];rfl
theorem At.mid {H:Hp}{P M R:AH}{l:Addr}{u:HO}(t:At H (P++(M++R)))(n:H l=none):At (upd H l u) (P++((M++[(l,u)])++R)):=by have:=t.new (u:=u) n;rw [<- Uv] at this;have:=this.back;rw [Uv] at this;rw [Uv];exact this
def Ahn:Sp:=λvs H Q _=>∃(W:VW)(R:AH)(z:Str),vs=[.ref W.w,.str z,.str "rests"]/\At H (W.C0 R)/\z ∉ W.zs/\W.tr.map (·.z)=W.zs/\W.zs.length<=100/\W.ay z=.str "rests"/\W.aZ z=.str ""/\W.ba z=.int 0/\W.aW z=.aa/\W.aU z=.aa /\
 ∀ H' l,At H' (VW.C0 { W with zs:=W.zs++[z],tr:=W.tr++[⟨z,l,[]⟩] } R)->Ah H H'->Q .aa H'
def M4 (K:T3):Sp:=λvs H Q E=>Ahn vs H Q E\/Ahl K vs H Q E
theorem Aho:AR ["world","line","way"] ["world","line","way"] (Ab (top 46)):=.of
theorem GY:Nm (Ab (top 46)) "world":=.of
theorem GZ:Nm (Ab (top 46)) "line":=.of
theorem Ahp:Nm (Ab (top 46)) "way":=.of
theorem Ahq (F:AM K "_law_begin" "_law_begin" (top 46) f fd):AF P w K mg base AB 1 f fd ["world","line","way"] (M4 K):=by
 refine F.ok Aho (λah A outer s H vs Q E hr h=>?_) (λvs H Q E h=>by rcases h with ⟨W,R,z,rfl,_⟩ | ⟨W,S,R,i,ln,st,rfl,_⟩<;>rfl)
 .have hu:=hr.units;refine ⟨_,(@Aj _ _ _ _ _ (CD (U5 (Vb (by decide) _) hu) (Az P w K (Aa 0 GY) Ak) (Aa 1 GZ) (Aa 2 Ahp) rfl)
    (Aj (CD (U5 (Vb (by decide) _) hu) (Az P w K (Aa 0 GY) Ak) (Aa 1 GZ) Ak rfl)
    (Aj (CD (U5 (Vb (by decide) _) hu) (Az P w K (Aa 0 GY) Ak) (Aa 1 GZ) Am rfl)
    (Aj (CD (U5 (Vb (by decide) _) hu) (Az P w K (Aa 0 GY) Ak) (Aa 1 GZ) (A0 Ae) rfl)
    (Aj (CD (U5 (Vb (by decide) _) hu) (Az P w K (Aa 0 GY) Ak) (Aa 1 GZ) Ck rfl)
    (An (CD (U5 (Vb (by decide) _) hu) (Az P w K (Aa 0 GY) Ak) (Aa 1 GZ) Ck rfl))))))),?_⟩
  try dsimp only [av,aw]
  rcases h with ⟨W,R,z,rfl,t,nz,ez,fz,f1,f2,f3,f4,f5,q⟩ | ⟨W,S,R,i,ln,st,rfl,t,h,q⟩
  .have B:∀{f:Str->V},(dS W.zs f).length<sizeLine:=Em (by omega);have t:At H (W.t7 (dS W.zs W.ay) (dS W.zs W.aZ) (dS W.zs W.ba) (Br W.tr) (dS W.zs W.aW) (dS W.zs W.aU) (W.tr.flatMap BH++R)):=t;have put:∀{f:Str->V}{v:V},f z=v->AX (dS W.zs f) (.inr z) v=dS (W.zs++[z]) f:=λe=>by rw [<- e];exact Ahm nz
   walk_at"";refine Ao W.w _ (.inr "way") _ rfl rfl (.of t.hd) (rfl:AS W.bu (.inr "way")=some (.ref W.way)) ?_;walk_at"";refine AU W.way _ rfl (.k (k:=.inr z) (t.get (o:=.dK (dS W.zs W.ay)) (by simp [VW.t7])) B) ?_;rw [put f1];have c1:At (upd H W.way (.dK (dS (W.zs++[z]) W.ay))) (W.t7 (dS (W.zs++[z]) W.ay) (dS W.zs W.aZ) (dS W.zs W.ba) (Br W.tr) (dS W.zs W.aW) (dS W.zs W.aU) (W.tr.flatMap BH++R)):=At.set (P:=[_]) t;have p1:Ah H (upd H W.way (.dK (dS (W.zs++[z]) W.ay))):=.chg (t.get (o:=.dK (dS W.zs W.ay)) (by simp [VW.t7])) rfl;generalize upd H W.way (.dK (dS (W.zs++[z]) W.ay))=D at c1 p1 ⊢;walk_at"";refine Ao W.w _ (.inr "figures") _ rfl rfl (.of c1.hd) (rfl:AS W.bu (.inr "figures")=some (.ref W.ao)) ?_;walk_at"";refine AU W.ao _ rfl (.k (k:=.inr z) (c1.get (o:=.dK (dS W.zs W.aZ)) (by simp [VW.t7])) B) ?_;rw [put f2];have c2:At (upd D W.ao (.dK (dS (W.zs++[z]) W.aZ))) (W.t7 (dS (W.zs++[z]) W.ay) (dS (W.zs++[z]) W.aZ) (dS W.zs W.ba) (Br W.tr) (dS W.zs W.aW) (dS W.zs W.aU) (W.tr.flatMap BH++R)):=At.set (P:=[_,_]) c1;have p2:Ah D (upd D W.ao (.dK (dS (W.zs++[z]) W.aZ))):=.chg (c1.get (o:=.dK (dS W.zs W.aZ)) (by simp [VW.t7])) rfl;generalize upd D W.ao (.dK (dS (W.zs++[z]) W.aZ))=I at c2 p2 ⊢;walk_at"";refine Ao W.w _ (.inr "many") _ rfl rfl (.of c2.hd) (rfl:AS W.bu (.inr "many")=some (.ref W.az)) ?_;walk_at"";refine AU W.az _ rfl (.k (k:=.inr z) (c2.get (o:=.dK (dS W.zs W.ba)) (by simp [VW.t7])) B) ?_;rw [put f3];have c3:At (upd I W.az (.dK (dS (W.zs++[z]) W.ba))) (W.t7 (dS (W.zs++[z]) W.ay) (dS (W.zs++[z]) W.aZ) (dS (W.zs++[z]) W.ba) (Br W.tr) (dS W.zs W.aW) (dS W.zs W.aU) (W.tr.flatMap BH++R)):=At.set (P:=[_,_,_]) c2;have p3:Ah I (upd I W.az (.dK (dS (W.zs++[z]) W.ba))):=.chg (c2.get (o:=.dK (dS W.zs W.ba)) (by simp [VW.t7])) rfl;generalize upd I W.az (.dK (dS (W.zs++[z]) W.ba))=J at c3 p3 ⊢;walk_at"";refine ⟨Ax,λl nl=>?_⟩;have jT:At (upd J l (.lst [])) (W.t7 (dS (W.zs++[z]) W.ay) (dS (W.zs++[z]) W.aZ) (dS (W.zs++[z]) W.ba) (Br W.tr) (dS W.zs W.aW) (dS W.zs W.aU) ((W.tr++[(⟨z,l,[]⟩:B4)]).flatMap BH++R)):=by rw [Yq];exact At.mid (P:=[_,_,_,_,_,_,_]) (M:=W.tr.flatMap BH) (R:=R) (u:=.lst []) c3 nl
   have tY:Ah J (upd J l (.lst [])):=.new nl;generalize upd J l (.lst [])=L at jT tY ⊢;have nt:AS (Br W.tr) (.inr z)=none:=Kt (n:=B4.z) (g:=λe=>V.ref e.a) (by rw [ez];exact nz);walk_at"";refine Ao W.w _ (.inr "train") _ rfl rfl (.of jT.hd) (rfl:AS W.bu (.inr "train")=some (.ref W.bo)) ?_;walk_at"";refine AU W.bo _ rfl (.k (k:=.inr z) (jT.get (o:=.dK (Br W.tr)) (by simp [VW.t7])) ?_) ?_
   .show (W.tr.map _).length<_;have z1:=congrArg V9 ez;rw [T7] at z1;rw [T7,Uc];omega
   rw [GB _ nt,show Br W.tr++[((.inr z:Ar),V.ref l)]=Br (W.tr++[⟨z,l,[]⟩]) by unfold Br;rw [Uy];rfl];have c4:At (upd L W.bo (.dK (Br (W.tr++[⟨z,l,[]⟩])))) (W.t7 (dS (W.zs++[z]) W.ay) (dS (W.zs++[z]) W.aZ) (dS (W.zs++[z]) W.ba) (Br (W.tr++[⟨z,l,[]⟩])) (dS W.zs W.aW) (dS W.zs W.aU) ((W.tr++[(⟨z,l,[]⟩:B4)]).flatMap BH++R)):=At.set (P:=[_,_,_,_]) jT;have O:Ah L (upd L W.bo (.dK (Br (W.tr++[⟨z,l,[]⟩])))):=.chg (jT.get (o:=.dK (Br W.tr)) (by simp [VW.t7])) rfl;generalize upd L W.bo (.dK (Br (W.tr++[⟨z,l,[]⟩])))=Y at c4 O ⊢;walk_at"";refine Ao W.w _ (.inr "end") _ rfl rfl (.of c4.hd) (rfl:AS W.bu (.inr "end")=some (.ref W.ag)) ?_;walk_at"";refine AU W.ag _ rfl (.k (k:=.inr z) (c4.get (o:=.dK (dS W.zs W.aW)) (by simp [VW.t7])) B) ?_;rw [put f4];have c5:At (upd Y W.ag (.dK (dS (W.zs++[z]) W.aW))) (W.t7 (dS (W.zs++[z]) W.ay) (dS (W.zs++[z]) W.aZ) (dS (W.zs++[z]) W.ba) (Br (W.tr++[⟨z,l,[]⟩])) (dS (W.zs++[z]) W.aW) (dS W.zs W.aU) ((W.tr++[(⟨z,l,[]⟩:B4)]).flatMap BH++R)):=At.set (P:=[_,_,_,_,_]) c4;have p5:Ah Y (upd Y W.ag (.dK (dS (W.zs++[z]) W.aW))):=.chg (c4.get (o:=.dK (dS W.zs W.aW)) (by simp [VW.t7])) rfl;generalize upd Y W.ag (.dK (dS (W.zs++[z]) W.aW))=H6 at c5 p5 ⊢;walk_at"";refine Ao W.w _ (.inr "why") _ rfl rfl (.of c5.hd) (rfl:AS W.bu (.inr "why")=some (.ref W.why)) ?_;walk_at"";refine AU W.why _ rfl (.k (k:=.inr z) (c5.get (o:=.dK (dS W.zs W.aU)) (by simp [VW.t7])) B) ?_;rw [put f5];have c6:At (upd H6 W.why (.dK (dS (W.zs++[z]) W.aU))) (W.t7 (dS (W.zs++[z]) W.ay) (dS (W.zs++[z]) W.aZ) (dS (W.zs++[z]) W.ba) (Br (W.tr++[⟨z,l,[]⟩])) (dS (W.zs++[z]) W.aW) (dS (W.zs++[z]) W.aU) ((W.tr++[(⟨z,l,[]⟩:B4)]).flatMap BH++R)):=At.set (P:=[_,_,_,_,_,_]) c5;have p6:Ah H6 (upd H6 W.why (.dK (dS (W.zs++[z]) W.aU))):=.chg (c5.get (o:=.dK (dS W.zs W.aU)) (by simp [VW.t7])) rfl;exact q _ l c6 (p1.trans (p2.trans (p3.trans (tY.trans (O.trans (p5.trans p6))))))
  have B:=t.ok.zl;have mz:ln.num∈W.zs:=t.ok.fU h;walk_at"";refine Ao W.w _ (.inr "way") _ rfl rfl (.of t.t.vw) EU ?_;walk_at"";refine AU W.way _ rfl (.k (k:=.inr ln.num) t.t.dD (Em B)) ?_;rw [ET mz];obtain ⟨t1,p1⟩:=t.lK h st;have h1:(S.lns.set i { ln with st:=st })[i]?=some { ln with st:=st }:=Cr h;generalize upd H W.way (.dK (dS W.zs (Bd W.ay ln.num (.str st))))=D at t1 p1 ⊢;have w1:D W.w=some (.dK W.kv):=t1.t.vw;walk_at"";refine Ao W.w _ (.inr "figures") _ rfl rfl (.of w1) Sl ?_;walk_at"";refine AU W.ao _ rfl (.k (k:=.inr ln.num) t1.t.o6 (Em B)) ?_;rw [ET mz];obtain ⟨t2,p2⟩:=t1.abH h1 "";have h2:((S.lns.set i { ln with st:=st }).set i { ln with st:=st,ao:="" })[i]?=some { ln with st:=st,ao:="" }:=Cr h1;generalize upd D W.ao (.dK (dS W.zs (Bd W.aZ ln.num (.str ""))))=I at t2 p2 ⊢;have w2:I W.w=some (.dK W.kv):=t2.t.vw;walk_at"";refine Ao W.w _ (.inr "many") _ rfl rfl (.of w2) Ahj ?_;walk_at"";refine AU W.az _ rfl (.k (k:=.inr ln.num) t2.t.tO (Em B)) ?_;rw [ET mz];obtain ⟨t3,p3⟩:=t2.abI h2 0;simp only [Vx] at t3;have h3:(S.lns.set i { ln with st:=st,ao:="",az:=0 })[i]?=some { ln with st:=st,ao:="",az:=0 }:=Cr h;generalize upd I W.az (.dK (dS W.zs (Bd W.ba ln.num (.int 0))))=J at t3 p3 ⊢;have w3:J W.w=some (.dK W.kv):=t3.t.vw;walk_at"";refine ⟨Ax,λl nl=>?_⟩;obtain ⟨j,te,as,ht,ez,_,_⟩:=BI (t3.ok.lI h3);obtain ⟨t4,O,e4⟩:=AD (t3.tX h3 ht ez nl (as:=[]) (hd:=[]) trivial);simp only [Vx,XD] at t4 O;have h4:(S.lns.set i { ln with st:=st,ao:="",az:=0,held:=[] })[i]?=some { ln with st:=st,ao:="",az:=0,held:=[] }:=Cr h;have n3:=(t3.t.lD (u:=.lst []) nl);walk_at"";refine Ao W.w _ (.inr "train") _ rfl rfl (.of n3.vw) IH ?_;walk_at"";refine AU W.bo _ rfl (.k (k:=.inr ln.num) n3.fS ?_) ?_
  .show (W.tr.map _).length<_;have:=congrArg V9 t.ok.tz;rw [T7] at this;rw [T7,this,Uc];omega
  rw [show AX (Br W.tr) (.inr ln.num) (.ref l)=Br (W.tr.set j ⟨ln.num,l,[]⟩) from e4];generalize upd (upd J l (.lst [])) W.bo (.dK (Br (W.tr.set j ⟨ln.num,l,[]⟩)))=L at t4 O ⊢;have w4:L W.w=some (.dK W.kv):=t4.t.vw;walk_at"";refine Ao W.w _ (.inr "end") _ rfl rfl (.of w4) Ku ?_;walk_at"";refine AU W.ag _ rfl (.k (k:=.inr ln.num) t4.t.jS (Em B)) ?_;rw [ET mz];obtain ⟨t5,p5⟩:=t4.abJ h4 none;simp only [Vx,Ce] at t5 p5;have h5:(S.lns.set i { ln with st:=st,ao:="",az:=0,held:=[],ag:=none })[i]?=some { ln with st:=st,ao:="",az:=0,held:=[],ag:=none }:=Cr h;generalize upd L W.ag (.dK (dS W.zs (Bd W.aW ln.num .aa)))=Y at t5 p5 ⊢;have w5:Y W.w=some (.dK W.kv):=t5.t.vw;walk_at"";refine Ao W.w _ (.inr "why") _ rfl rfl (.of w5) Sn ?_;walk_at"";refine AU W.why _ rfl (.k (k:=.inr ln.num) t5.t.o7 (Em B)) ?_;rw [ET mz];obtain ⟨t6,p6⟩:=t5.abK h5 (v:=.aa) (d:=.none) .aa rfl;simp only [Vx] at t6;exact q _ _ t6 rfl (p1.trans (p2.trans (p3.trans (O.trans (p5.trans p6)))))
theorem G0 {n:Nat}{k:Int}(B:0<=k)(D:k<n):DJ n k=some k.toNat:=by unfold DJ;rw [if_pos B,if_pos D]
theorem Ahr {S:PS}{w:Str}{hs:List V}{k:Nat}:(CY S w hs).set k .aa=CY S w (hs.set k .aa):=by
 unfold CY;split
 .rw [Vn];rfl
 .rfl
theorem Kv {S:PS}{w:Str}{hs:List V}:(CY S w hs).length=hs.length:=by unfold CY;split<;>simp
theorem WG.gr {S:PS}(g:WG S){z:Str}{x:Gr}(m:x∈S.aD)(e:x.pre=z):Cf S z=some x:=by obtain ⟨i,h⟩:=XI.mp m;rw [<- e];exact Kh g.pre h
theorem Ahs {S:PS}(g:WG S){w:Str}{k:Int}(h:D5 S w k):∃ r,Bc S w=some r/\0<=k/\k<r.1.length:=by
 unfold D5 at h;unfold Bc;by_cases c:w=Ud ""
 .rw [if_pos c] at h ⊢;exact ⟨_,rfl,Ei.mp h.1⟩
 .rw [if_neg c] at h ⊢;obtain ⟨x,m,e,B,_⟩:=Av h;rw [g.gr m e];exact ⟨_,rfl,Ei.mp B⟩
theorem M5 {S:PS}(g:WG S){w:Str}{r:List V×List Bool×List Int}(B:Bc S w=some r){n:Nat}{v:V}(h:r.1[n]?=some v):∃ D,(CY S w r.1)[n]?=some D/\((v=.aa/\D=.aa)\/v≠.aa/\∃ z,D=.str z/\0<z.length/\Ok z):=by
 unfold Bc at B;unfold CY;by_cases c:w=Ud ""
 .rw [if_pos c] at B;cases B;rw [if_pos c,Uj,h];refine CC _ rfl ?_;rcases g.hs v (Uw h) with rfl | ⟨i,rfl,I⟩
  .exact .inl ⟨rfl,rfl⟩
  .have e:S.lns[i]?=some S.lns[i]:=Uu I;have:=g.tx _ (D6 e);refine .inr ⟨(λe=>nomatch e),S.lns[i].num,?_,this.2,this.1⟩;show (match S.lns[((i:Nat):Int).toNat]? with | none=>V.aa | some ln=>.str ln.num)=_;rw [Xo,e]
 .rw [if_neg c] at B ⊢;obtain ⟨x,ex,rfl⟩:=Ag (UX.mp B);refine ⟨v,h,?_⟩;rcases g.hg x (GQ ex).1 v (Uw h) with rfl | ⟨z,H,rfl⟩
  .exact .inl ⟨rfl,rfl⟩
  .exact .inr ⟨(λe=>nomatch e),z,rfl,(g.tx z H).2,(g.tx z H).1⟩
theorem M6 {S:PS}(g:WG S){w:Str}{r:List V×List Bool×List Int}(B:Bc S w=some r):r.2.1.length=r.1.length/\r.2.2.length=r.1.length/\r.1.length<=1000:=by
 unfold Bc at B;by_cases c:w=Ud ""
 .rw [if_pos c] at B;cases B;exact ⟨g.so.lj,g.so.lt,g.so.z⟩
 .rw [if_neg c] at B;obtain ⟨x,ex,rfl⟩:=Ag (UX.mp B);have:=g.go x (GQ ex).1;exact ⟨this.lj,this.lt,this.z⟩
theorem Aht (S:PS)(w:Str)(k:Int):(aB S w k).q=S.q/\(aB S w k).dn=S.dn/\(aB S w k).long=S.long/\(aB S w k).sk.mark=S.sk.mark/\(aB S w k).sk.st=S.sk.st/\(aB S w k).sk.wt=S.sk.wt:=by unfold aB;split<;>exact ⟨rfl,rfl,rfl,rfl,rfl,rfl⟩
section
variable {K:T3}{H H':Hp}{W:VW}{S S':PS}{R:AH}{i j:Nat}{ln y:Ln}
theorem D8 (t:WT K H W S R){e:AA}(h:W.rk[j]?=some e)(f:AA->Addr):AS (A9 f W.rk) (.inr e.w)=some (.ref (f e)):=Ks (n:=AA.w) (g:=λe=>V.ref (f e)) t.ok.rn h
theorem Ss (t:WT K H W S R){e:B4}(h:W.tr[j]?=some e):AS (Br W.tr) (.inr e.z)=some (.ref e.a):=Ks (n:=B4.z) (g:=λe=>V.ref e.a) t.ok.lJ h
theorem WT.free (t:WT K H W S R)(g:WG S){w:Str}{k:Int}(hw:D5 S w k):∃(j:Nat)(e:AA),W.rk[j]?=some e/\e.w=w/\0<=k/\k<e.hs.length/\WT K (upd H e.ha (.lst (e.hs.set k.toNat .aa))) { W with rk:=W.rk.set j { e with hs:=e.hs.set k.toNat .aa } } (aB S w k) R/\Ah H (upd H e.ha (.lst (e.hs.set k.toNat .aa))):=by obtain ⟨r,D,L,O⟩:=Av (Ahs g hw);obtain ⟨j,e,B,rfl,I,V,Y⟩:=Dl (t.ok.find D);obtain ⟨r1,r2⟩:=Ahi (k:=k) D;obtain ⟨f1,f2,f3,f4,f5,f6⟩:=AD (Aht S e.w k);have J:Ah H (upd H e.ha (.lst (e.hs.set k.toNat .aa))):=.chg (t.t.gP B) rfl;exact ⟨j,e,B,rfl,L,by rw [I,Kv];exact O,⟨t.t.tV B _,(t.ok.ai J).gI (e':={ e with hs:=e.hs.set k.toNat .aa }) B rfl (Rl ..) f1 f2 f3 (t.ok.ma.trans f4.symm) (t.ok.sp.trans f5.symm) (t.ok.st.trans f6.symm) r1 r2 ⟨by rw [I];exact Ahr,V,Y⟩⟩,J⟩
end
def Su (K:T3):Sp:=λvs H Q _=>∃(W:VW)(S:PS)(R:AH)(i:Nat)(ln:Ln),vs=[.ref W.w,.str ln.num]/\WT K H W S R/\WG S/\S.lns[i]?=some ln/\cA S ln.held /\
 ∀ H' W',WT K H' W' (BS S i ln) R->W'.w=W.w->Ah H H'->Q .aa H'
def Sv (K:T3):Sp:=λvs H Q _=>∃(W:VW)(S:PS)(R:AH)(u:Str)(k:Int)(r:List V×List Bool×List Int),vs=[.ref W.w,.str u,.int k]/\WT K H W S R/\WG S/\Bc S u=some r/\0<=k/\k<r.1.length/\Q (.bl (Cc r.1 r.2.1 k)) H
theorem Sw:AR ["world","line","where","k"] ["world","line"] (Ab (top 47)):=.of
theorem M7:Nm (Ab (top 47)) "world":=.of
theorem Sx:Nm (Ab (top 47)) "line":=.of
theorem Sy:Nm (Ab (top 47)) "where":=.of
theorem Sz:Nm (Ab (top 47)) "k":=.of
theorem Ahu (F:AM K "_law_freed" "_law_freed" (top 47) f fd):AF P w K mg base AB 1 f fd ["world","line"] (Su K):=by
 refine F.ok Sw λah A outer s H vs Q E hr h=>?_
 .replace h:=Dm h;obtain ⟨W,S,R,i,ln,rfl,t,g,h,ha,q⟩:=h
  have hu:=hr.units;have nd:=Sw.nd;obtain ⟨j,J,as,Y,ez,ev,pr⟩:=BI (t.ok.lI h);have tv:=Ss t Y;rw [ez] at tv;have tl:H J.a=some (.lst (as.map V.ref)):=by rw [<- ev];exact t.t.o9 Y
  refine ⟨_,(@Aj _ _ _ _ _ (CO Vp rfl (Df (Az P w K (Az P w K (Aa 0 M7) Ak) (Aa 1 Sx))) (Fb rfl (B9 (Bo 2 nd Sy) (B9 (Bo 3 nd Sz) DT))) (An (DU Ck (EA (Az P w K (Az P w K (Aa 0 M7) Ak) (Aa 2 Sy)) (Aa 3 Sz) DA))))
    (An (CD (U5 (Vb (by decide) _) hu) (Az P w K (Aa 0 M7) Ak) (Aa 1 Sx) (A0 Ae) rfl))),?_⟩
  try dsimp only [av,aw]
  walk_at"";refine Ao W.w _ (.inr "train") _ rfl rfl (.of t.t.vw) IH ?_;walk_at"";refine Ao W.bo _ (.inr ln.num) _ rfl rfl (.of t.t.fS) tv ?_;refine CC J.a rfl ⟨⟨_,.of tl⟩,DW (K:=K) (a:=J.a) (xs:=as.map V.ref) (λn σ L=>∃ u v B,σ=[some (.ref W.w),some (.str ln.num),u,v]/\WT K L B (aq S (ln.held.take n)) R/\B.w=W.w/\B.tr=W.tr/\Ah H L) ⟨none,none,W,rfl,t,rfl,rfl,.refl⟩ (λn σ L _ ⟨_,_,B,_,D,_,O,_⟩=>?_) ?_ ?_⟩
  .have z:L J.a=some (.lst J.vs):=D.t.o9 (i:=j) (by rw [O];exact Y);rw [ev] at z;exact .of z
  .intro n v σ L hn I;replace I:=BZ I;obtain ⟨u0,v0,B,rfl,D,e1,O,tp⟩:=I;rw [Uj] at hn;obtain ⟨pt,hp,rfl⟩:=Ag (UX.mp hn);obtain ⟨p,hk,et⟩:=Ag ((pr.ai tp).at hp);have hw:=Mx ha hk;obtain ⟨m,e,hm,ew,k0,k1,t3,gK⟩:=Dl (D.free (g.aq _) hw);rw [<- e1];have rv:=D8 D hm AA.ha;rw [ew] at rv;walk_at"";refine CV pt _ rfl (.of et) rfl ?_;walk_at"";refine Ao B.w _ (.inr "held") _ rfl rfl (.of D.t.vw) Fx ?_;walk_at"";refine ⟨B.bV,_,.inr p.1,_,rfl,rfl,.of D.t.fT,rv,?_⟩;walk_at"";refine ⟨e.ha,_,p.2,_,rfl,rfl,D.t.gP hm,G0 k0 k1,?_⟩;have oi:ln.held.take (n+1)=ln.held.take n++[p]:=by rw [VQ,hk];rfl
   exact ⟨_,_,{ B with rk:=B.rk.set m { e with hs:=e.hs.set p.2.toNat .aa } },rfl,by rw [oi,Mw];exact t3,rfl,O,tp.trans gK⟩
  .intro σ L I;replace I:=BZ I;obtain ⟨u0,v0,B,rfl,D,e1,O,tp⟩:=I;rw [T7,pr.len,VL] at D;have h2:(aq S ln.held).lns[i]?=some ln:=by rw [GK];exact h
   rw [<- e1];walk_at"";refine ⟨Ax,λl nl=>?_⟩;have ht2:B.tr[j]?=some J:=by rw [O];exact Y
   obtain ⟨t3,p3,e3⟩:=AD (D.tX h2 ht2 ez nl (as:=[]) (hd:=[]) trivial);simp only [XD] at t3 p3;have n3:=D.t.lD (u:=.lst []) nl;walk_at"";refine Ao B.w _ (.inr "train") _ rfl rfl (.of n3.vw) IH ?_;walk_at"";refine AU B.bo _ rfl (.k (k:=.inr ln.num) n3.fS ?_) ?_
   .show (B.tr.map _).length<_;have:=congrArg V9 D.ok.tz;rw [T7] at this;have:=D.ok.zl;rw [T7,Uc];omega
   rw [show AX (Br B.tr) (.inr ln.num) (.ref l)=Br (B.tr.set j ⟨ln.num,l,[]⟩) from e3];refine q _ { B with tr:=B.tr.set j ⟨ln.num,l,[]⟩ } ?_ e1 (tp.trans p3);have:BS S i ln={ aq S ln.held with lns:=(aq S ln.held).lns.set i { ln with held:=[] } }:=by rw [GK];rfl
   rw [this];exact t3
theorem Ahv:AR ["world","where","k"] ["world","where","k"] (Ab (top 48)):=.of
theorem SA:Nm (Ab (top 48)) "world":=.of
theorem SD:Nm (Ab (top 48)) "where":=.of
theorem SE:Nm (Ab (top 48)) "k":=.of
theorem Ahw (F:AM K "_law_free_at" "_law_free_at" (top 48) f fd):AF P w K mg base AB 1 f fd ["world","where","k"] (Sv K):=by
 refine F.ok Ahv λah A outer s H vs Q E hr h=>?_
 .replace h:=Aaa h;obtain ⟨W,S,R,u,k,r,rfl,t,g,D,k0,k1,q⟩:=h
  obtain ⟨j,e,B,rfl,O,Y,e3⟩:=Dl (t.ok.find D);obtain ⟨l1,_,_⟩:=AD (M6 g D);have kn:k.toNat<r.1.length:=by omega
  have ek:((k.toNat:Nat):Int)=k:=by omega
  obtain ⟨v,hv⟩:∃ v,r.1[k.toNat]?=some v:=⟨_,Uu kn⟩;obtain ⟨b,hb⟩:∃ b,r.2.1[k.toNat]?=some b:=⟨_,Uu (by omega)⟩;have J:∀{l:List V}{x:V},l[k.toNat]?=some x->Cu l k=some x:=λh=>by have:=C4 h;rwa [ek] at this
  obtain ⟨v',a1,a2⟩:=Ag (M5 g D hv);have L:Cc r.1 r.2.1 k=(decide (v=.aa) && !b):=by unfold Cc;rw [UM,UM,hv,hb];rfl
  refine ⟨_,(@An _ _ _ (AO (N6 (Gp FG (AK AL (Az P w K (Az P w K (Aa 0 SA) Ak) (Aa 1 SD)) (Aa 2 SE) (λ_ _=>rfl)) Ck (Bb _)) (K1 (N7 (AK AL (Az P w K (Az P w K (Aa 0 SA) Ak) (Aa 1 SD)) (Aa 2 SE) (λ_ _=>rfl))))))),?_⟩;try dsimp only [av,aw]
  walk_at"";refine Ao W.w _ (.inr "held") _ rfl rfl (.of t.t.vw) Fx ?_;walk_at"";refine Ao W.bV _ (.inr e.w) _ rfl rfl (.of t.t.fT) (D8 t B AA.ha) ?_;walk_at"";refine Uh (Ao e.ha _ k v' rfl rfl (.of (t.t.gP B)) (by rw [O];exact J a1) ?_);have rb:Cu e.js k=some (.bl b):=by rw [Y];exact J (by rw [Uj,hb];rfl)
  rcases a2 with ⟨I,rfl⟩ | ⟨I,z,rfl,_⟩
  .walk_at"";refine Ao W.w _ (.inr "stuck") _ rfl rfl (.of t.t.vw) M0 ?_;walk_at"";refine Ao W.bJ _ (.inr e.w) _ rfl rfl (.of t.t.o8) (D8 t B AA.ja) ?_;walk_at"";refine Uh (Bw (.of (t.t.lE B)) rb ?_);rw [L,I] at q;exact ⟨_,rfl,q⟩
  .rw [L,decide_eq_false I] at q;walk_at"";rw [if_neg (λc=>absurd (of_decide_eq_true c) (λe=>nomatch e))];exact q
def SF (K:T3):Sp:=λvs H Q _=>∃(W:VW)(S:PS)(R:AH)(u:Str)(r:List V×List Bool×List Int),vs=[.ref W.w,.str u]/\WT K H W S R/\WG S/\Bc S u=some r/\∀ H' t,Ai H H'->H' t=some (.tup (Kl S u r))->Q (.ref t) H'
theorem SG:AR ["world","where","told","k","word"] ["world","where"] (Ab (top 50)):=.of
theorem M8:Nm (Ab (top 50)) "world":=.of
theorem M9:Nm (Ab (top 50)) "where":=.of
theorem Na:Nm (Ab (top 50)) "told":=.of
theorem Nb:Nm (Ab (top 50)) "k":=.of
theorem SH:Nm (Ab (top 50)) "word":=.of
theorem Ahx:Gm (Ab (top 50)) "tuple":=.of
theorem Ahy:Gm (Ab (top 50)) "range":=.of
theorem Ahz:Gm (Ab (top 50)) "len":=.of
theorem AhA:Gm (Ab (top 50)) "int":=.of
theorem AhB (F:AM K "_law_paper" "_law_paper" (top 50) f fd)(T:TxtH P w K mg a):AF P w K mg base AB 1 f fd ["world","where"] (SF K):=by
 refine F.ok SG λah A outer s H vs Q E hr h=>?_
 .replace h:=Et h;obtain ⟨W,S,R,u,r,rfl,t,g,er,q⟩:=h
  have hu:=hr.units;have nd:=SG.nd;obtain ⟨j,e,J,rfl,e1,e2,e3⟩:=Dl (t.ok.find er);obtain ⟨l1,_,l3⟩:=AD (M6 g er);have hl:e.hs.length=r.1.length:=by rw [e1,Kv]
  refine ⟨_,(@Aj _ _ _ _ _ (A1 2 nd Na (A0 Ae))
    (Aj (CO Vp rfl (GA Ahy T.dW (Ac (BG Cp Ahz T.n_len Ca (Ac (Az P w K (Az P w K (Aa 0 M8) Ak) (Aa 1 M9)) Ae)) Ae)) (Bo 3 nd Nb) (Aj (A1 4 nd SH (AK AL (A0 (Ac Ak (Ac Ak Ae))) (Cw LB AhA T.kL Lg (Ac (AK AL (Az P w K (Az P w K (Aa 0 M8) Ak) (Aa 1 M9)) (Aa 3 Nb) (λ_ _=>rfl)) Ae)) (λ_ _=>rfl)))
     (An (Bi (Cm Ve Vy Vz C7 (Aa 2 Na) (Ac (Ad9 (AK AL (Az P w K (Az P w K (Aa 0 M8) Ak) (Aa 1 M9)) (Aa 3 Nb) (λ_ _=>rfl)) (K1 (Aa 4 SH))) Ae))))))
    (An (AO (Cw Jk Ahx T.ia Jt (Ac (Aa 2 Na) Ae)))))),?_⟩
  try dsimp only [av,aw]
  have aS:AW ["world","where","told","k","word"] [V.ref W.w,V.str e.w]=[some (.ref W.w),some (.str e.w),none,none,none]:=rfl;simp only [aS,VM,VN];walk_at"";refine ⟨Ax,λl nl=>?_⟩;have s1:=(Ai.refl H).upd (o:=.lst []) nl;have t1:=t.same s1;walk_at"";refine Ao W.w _ (.inr "held") _ rfl rfl (.of t1.t.vw) Fx ?_;walk_at"";refine Ao W.bV _ (.inr e.w) _ rfl rfl (.of t1.t.fT) (D8 t J AA.ha) ?_;walk_at"";refine Ue (AU _ _ rfl (.inl (.of (t1.t.gP J))) ?_);walk_at"";refine ⟨by omega,by omega,Hr (n:=e.hs.length) (λi σ L=>∃ x y,σ=[some (.ref W.w),some (.str e.w),some (.ref l),x,y]/\Ai H L/\L l=some (.lst (CS e.hs (λk=>r.2.1.getD k false) i))) ⟨none,none,rfl,s1,Al⟩ ?_ ?_⟩
  .intro i σ L hi I;replace I:=AY I;obtain ⟨x,y,rfl,Y,hL⟩:=I;simp only [Yp];have D:(CS e.hs (λk=>r.2.1.getD k false) i).length=i:=by unfold CS;rw [T7,WS]
   have t2:=t.same Y;obtain ⟨v,hv⟩:∃ v,r.1[i]?=some v:=⟨_,Uu (by omega)⟩;obtain ⟨b,hb⟩:∃ b,r.2.1[i]?=some b:=⟨_,Uu (by omega)⟩;obtain ⟨v',a1,a2⟩:=Ag (M5 g er hv);rw [<- e1] at a1;have rb:e.js[i]?=some (.bl b):=by rw [e2,Uj,hb];rfl
   have gv:e.hs.getD i .aa=v':=by rw [UM,a1];rfl
   have gb:r.2.1.getD i false=b:=by rw [UM,hb];rfl
   walk_at"";refine ⟨Ax,λl2 n2=>?_⟩;have cL:=Y.upd (o:=.lst [.str "free",.str "stuck"]) n2;have bO:=((Ai.refl L).upd (o:=.lst [.str "free",.str "stuck"]) n2) l _ hL;have ef:(upd L l2 (.lst [.str "free",.str "stuck"])) l2=some (.lst [.str "free",.str "stuck"]):=Al;generalize upd L l2 (.lst [.str "free",.str "stuck"])=H2 at cL bO ef ⊢;have O:=t.same cL;walk_at"";refine Ao W.w _ (.inr "stuck") _ rfl rfl (.of O.t.vw) M0 ?_;walk_at"";refine Ao W.bJ _ (.inr e.w) _ rfl rfl (.of O.t.o8) (D8 t J AA.ja) ?_;walk_at"";refine Uh (Bw (.of (O.t.lE J)) (C4 rb) ?_);walk_at"";refine Uh (CC b rfl ?_);walk_at"";refine Uh (Ao l2 _ _ (.str (if b then "stuck" else "free")) rfl rfl (.of ef) (by cases b<;>rfl) ?_);walk_at"";refine ⟨.inl ⟨rfl,_,.of bO⟩,?_⟩;walk_at"";refine Ao W.w _ (.inr "held") _ rfl rfl (.of O.t.vw) Fx ?_;walk_at"";refine Ao W.bV _ (.inr e.w) _ rfl rfl (.of O.t.fT) (D8 t J AA.ha) ?_;walk_at"";refine Uh (Bw (.of (O.t.gP J)) (C4 a1) ?_);have B:Ai H (upd H2 l (.lst (CS e.hs (λk=>r.2.1.getD k false) (i+1)))):=cL.cj nl;rw [Ih,gv,gb] at B;rcases a2 with ⟨z1,rfl⟩ | ⟨z1,z,rfl,z0,zk⟩
   .rw [if_pos rfl] at B;refine CC false rfl ?_;rw [if_neg UT];walk_at"";refine B1 l _ _ rfl rfl bO (by rw [D,Uc];omega) ?_;refine AU _ _ rfl (by cases b<;>exact B) ?_;rw [Al,Ih,gv,gb,if_pos rfl];cases b<;>rfl
   .rw [if_neg (λe=>nomatch e)] at B;refine ⟨true,⟨by have z20:=zk.2;rw [Uc];omega,by have:((z.length:Int) != 0)=true:=(bne_iff_ne ..).mpr (by omega);exact this.symm⟩,?_⟩;rw [if_pos rfl];walk_at"";refine B1 l _ _ rfl rfl bO (by rw [D,Uc];omega) ?_;refine AU _ _ rfl B ?_;rw [Al,Ih,gv,gb,if_neg (λe=>nomatch e)]
  .intro σ H2 I;replace I:=AY I;obtain ⟨x,y,rfl,Y,hL⟩:=I;walk_at"";refine DB l _ rfl (.inl ⟨.of hL,λtt nt=>q _ tt (Y.upd nt) ?_⟩);rw [Al,hl,e1];rfl
theorem AhC (n m:Nat)(h:m<=n):(Vj n).map (λ(f:Nat)=>((m:Int)+(f:Int)) % (n:Int))=BM m n++BM 0 m:=by
 obtain ⟨d,rfl⟩:∃ d,n=m+d:=⟨n - m,by omega⟩;have D:BM (m:Int) ((m+d:Nat):Int)=(Vj d).map λ(f:Nat)=>(m:Int)+(f:Int):=by
  unfold BM;have:(((m+d:Nat):Int) - (m:Int)).toNat=d:=by omega
  rw [this]
 have H:BM 0 (m:Int)=(Vj m).map λ(f:Nat)=>(f:Int):=by
  unfold BM;have:((m:Int) - 0).toNat=m:=by omega
  rw [this];exact Wl λk _=>by omega
 rw [D,H,Nat.add_comm m d,List.range_add,Uy,UD];congr 1
 .refine Wl λf B=>?_;have:=Vr.mp B;rw [yw (by omega) (by omega)]
 .refine Wl λf B=>?_;have:=Vr.mp B;show ((m:Int)+((d+f:Nat):Int)) % ((d+m:Nat):Int)=(f:Int);have e:(m:Int)+((d+f:Nat):Int)=(f:Int)+((d+m:Nat):Int):=by omega
  rw [e,Int.add_emod_right,yw (by omega) (by omega)]
theorem AhD {α:Type}(p:α->Bool)(l:List α)(i:Nat)(v:α)(h:l[i]?=some v):(l.take (i+1)).filter p=(l.take i).filter p++(if p v=true then [v] else []):=by
 rw [VQ,h,vQ];congr 1
 show List.filter p [v]=_;rw [vR,vS]
theorem Nc:∀(ns:List Int),XJ (ns.map Wr)=true/\Xb (ns.map Wr)<=1
 | []=>⟨rfl,by decide⟩
 | z :: zs=>by
  obtain ⟨B,D⟩:=Nc zs;refine ⟨?_,?_⟩
  .show (XM (.int z) && XJ _)=true;rw [B];rfl
  .show max (VS (.int z)) (Xb _)<=1;refine v9.mpr ⟨?_,D⟩;simp [VS]
theorem G1 {K:T3}{H:Hp}:∀ zs:List Int,aX K H (zs.map V.int) (zs.map Wr)
 | []=>.nil
 | z :: zs=>.cons (.int z) (G1 zs)
theorem SI (ds:List PyData):VS (.tuple ds)=Xb ds+1:=by simp [VS]
theorem Kw (ds:List PyData):VS (.list ds)=Xb ds+1:=by simp [VS]
theorem SJ {z:Str}(h:Cq z):XM (.str z)=true:=by show PyData.strOk z=true;unfold PyData.strOk;rw [<- ym,V3];intro c hc;have:=h c hc;simp only [decide_eq_true_eq];omega
theorem Nd:∀{zs:List Str},(∀ z∈zs,Cq z)->XJ (zs.map WA)=true/\Xb (zs.map WA)<=1
 | [],_=>⟨rfl,by decide⟩
 | z :: zs,h=>by
  obtain ⟨B,D⟩:=Nd λy hy=>h y (UO _ hy);refine ⟨?_,?_⟩
  .show (XM _ && XJ _)=true;rw [SJ (h z UY),B];rfl
  .show max (VS (.str z)) (Xb _)<=1;refine v9.mpr ⟨?_,D⟩;simp [VS]
theorem G2 {K:T3}{H:Hp}:∀ zs:List Str,aX K H (zs.map V.str) (zs.map WA)
 | []=>.nil
 | z :: zs=>.cons (.str z) (G2 zs)
theorem SK (x y:Str):CU (.str x) (.str y)=decide (x=y):=by
 by_cases h:x=y
 .subst h;simp [CU]
 .simp [CU,h]
theorem AhE {S:PS}{i:Nat}{ln:Ln}(h:S.lns[i]?=some ln):DN S (.int i)=.str ln.num:=by show (match S.lns[((i:Nat):Int).toNat]? with | none=>V.aa | some ln=>V.str ln.num)=_;rw [Xo,h]
theorem BA.gO {K:T3}{H D:Hp}{W:VW}{S:PS}(k:BA K H W S)(s:Ah H D){i j m:Nat}{ln:Ln}{e:AA}{te:B4}(h:S.lns[i]?=some ln)(hh:ln.held=[])(O:Zr ln)(fn:ln.ag=none)(hj:W.rk[j]?=some e)(B:e.w=Ud "")(hm:W.tr[m]?=some te)(I:te.z=ln.num){l u:Addr}{n:Int}(eu:D u=some (.tup [.str "",.int n]))(q:List Str) :
  BA K D { W with qs:=q,rk:=W.rk.set j { e with hs:=e.hs.set n.toNat (.str ln.num),ss:=e.ss.set n.toNat (.int (S.sk.ts.getD n.toNat 0+1)) },mark:=(aK S.sk n i).mark,bI:=(aK S.sk n i).st,cf:=(aK S.sk n i).wt,ay:=Bd W.ay ln.num (.str "dials"),tr:=W.tr.set m ⟨ln.num,l,[.ref u]⟩ }
   { S with q:=q,lns:=S.lns.set i { AI ln "dials" with held:=ln.held++[((Ud ""),n)] },sk:=aK S.sk n i }:=by
 have er:Bc S e.w=some (S.sk.hs,S.sk.js,S.sk.ts):=if_pos B;obtain ⟨f1,f2,f3⟩:=k.r e (Uw hj) _ er;have k1:=(k.ai s).cM q;have eh:e.hs.set n.toNat (.str ln.num)=CY S e.w (S.sk.hs.set n.toNat (.int i)):=by rw [f1];unfold CY;rw [if_pos B,if_pos B,Vn,AhE h]
 have J:=k1.gI (S':={ S with q:=q,sk:=aK S.sk n i }) (e':={ e with hs:=e.hs.set n.toNat (.str ln.num),ss:=e.ss.set n.toNat (.int (S.sk.ts.getD n.toNat 0+1)) }) hj rfl rfl rfl rfl rfl (mk:=(aK S.sk n i).mark) (sp:=(aK S.sk n i).st) (st:=(aK S.sk n i).wt) rfl rfl rfl (r:=((aK S.sk n i).hs,S.sk.js,(aK S.sk n i).ts)) (if_pos B) (λw c=>by unfold Bc;rw [if_neg (λd=>c (d.trans B.symm)),if_neg (λd=>c (d.trans B.symm))];rfl) ⟨eh,f2,by show e.ss.set _ _=(S.sk.ts.set _ _).map V.int;rw [Vn,f3]⟩;have L:=J.l i ln h;obtain ⟨o1,o2⟩:=J.others (te':=⟨ln.num,l,[.ref u]⟩) hm I.symm;refine J.bU (y:={ AI ln "dials" with held:=ln.held++[((Ud ""),n)] }) .refl h rfl (fa:=Bd W.ay ln.num (.str "dials")) (fb:=W.aZ) (fc:=W.ba) (fd:=W.aW) (fe:=W.aU) o1 (λz c=>⟨GX c,rfl,rfl,rfl,rfl⟩) (λx Y c=>o2 x Y (by rw [I];exact c)) ⟨GW,L.ao.trans (congrArg V.str O.1),L.az.trans (congrArg V.int O.2.1),L.ag.trans (by rw [fn];rfl),?_,rfl,λx Y zx=>?_⟩
 .have:=L.why;rw [O.2.2] at this;exact this
 .rw [J.tW (te':=⟨ln.num,l,[.ref u]⟩) hm I.symm Y (zx.trans I.symm)];refine CC [u] rfl ?_;show CK D [u] (ln.held++_);rw [hh];exact ⟨eu,trivial⟩
theorem At.abL {H B:Hp}{W:VW}{R:AH}{b:Addr}{u:HO}(t:At H (W.C R))(n:H b=none)(s:Ai H B)(e:B b=some u):At B (W.C ((b,u) :: R)):=by
 have:At B ((b,u) :: W.C R):=⟨λc m=>by
  rcases Uo.mp m with rfl | m
  .exact e
  .exact (t.same s).at_ c m,UH.mpr ⟨t.free n,t.nd⟩⟩
 unfold VW.C at this ⊢;rw [<- Uv,<- Uv] at this ⊢;exact this.back
def SM (K:T3):Sp:=λvs H Q _=>∃(W:VW)(S:PS)(R:AH),vs=[.ref W.w]/\WT K H W S R/\WF S /\
 ∀ H' W' r xs,W'.w=W.w->WT K H' W' (B3 S).2 ((r,.lst (xs.map V.ref)) :: R)->Ah H H'->BC K H' xs (B3 S).1->Q (.ref r) H'
theorem SN:AR ["world","told","many","some","line","place","went"] ["world"] (Ab (top 49)):=.of
theorem DG:EI (Ab (top 49)) "world":=by walk_at "k"
theorem Kx:Nm (Ab (top 49)) "told":=.of
theorem Nf:EI (Ab (top 49)) "many":=by walk_at "k"
theorem DO:Nm (Ab (top 49)) "some":=.of
theorem G3:Nm (Ab (top 49)) "line":=.of
theorem Ng:Nm (Ab (top 49)) "place":=.of
theorem Nh:Nm (Ab (top 49)) "went":=.of
theorem SO:Gm (Ab (top 49)) "len":=.of
theorem AhF:Gm (Ab (top 49)) "range":=.of
noncomputable def Kz:Scope:={ kind:=.function,names:=[(".0",.local),("k",.local),("_law_free_at",.globalImplicit),("world",.free)],isGenerator:=false,isCoroutine:=false,more:=[] }
theorem SQ:BE Kz (Ab (top 49)) ["k","world"] ["world","told","many","some","line","place","went"] [none,some 0]:=BE.mk' rfl (by decide +kernel) (by decide +kernel) (by decide +kernel) (by decide +kernel) rfl (by decide +kernel)
theorem Ni:Nm Kz "k":=.of
theorem AhG:EJ Kz "world":=by walk_at "k"
theorem AhH:Gm Kz "_law_free_at":=.of
noncomputable def KA:Scope:={ kind:=.function,names:=[(".0",.local),("far",.local),("many",.free),("world",.free)],isGenerator:=false,isCoroutine:=false,more:=[] }
theorem SR:BE KA (Ab (top 49)) ["far","many","world"] ["world","told","many","some","line","place","went"] [none,some 2,some 0]:=BE.mk' rfl (by decide +kernel) (by decide +kernel) (by decide +kernel) (by decide +kernel) rfl (by decide +kernel)
theorem SS:Nm KA "far":=.of
theorem AhI:EJ KA "many":=by walk_at "k"
theorem AhJ:EJ KA "world":=by walk_at "k"
theorem AhK (F:AM K "_law_tones" "_law_tones" (top 49) f fd)(T:TxtH P w K mg a)(pf:BB P w K mg base AB 1 "_law_free_at" ["world","where","k"] (Sv K)):AF P w K mg base AB 2 f fd ["world"] (SM K):=by
 refine F.ok SN λah A outer s H vs Q E hr h=>?_
 .replace h:=BI h;obtain ⟨W0,Y,R,rfl,t0,iC,q⟩:=h
  have hu:=hr.units;have nd:=SN.nd;have ls0:=iC.g.so.ls;have zz0:=iC.g.so.z;have zp0:=iC.g.m1;have zp1:=iC.g.m0;refine ⟨_,(@Aj _ _ _ _ _ (A1 1 nd Kx (A0 Ae))
    (Aj (HN 2 nd Nf (BG Cp SO T.n_len Ca (Ac (Az P w K (BW 0 DG) Ak) Ae)))
    (Aj (Oe Vp (A5 (Ef hu) (Az P w K (BW 0 DG) Ak) (A0 Ae) (Bb _)) (Aj (Jz (j:=3) rfl nd rfl (Uh DO.loc) SR (GA AhF T.dW (Ac (BW 2 Nf) Ae)) (λcl C fp pins s₂ H₂=>(Bo 0 SR.nd SS.comp)) (λcl C fp pins s₂ H₂=>FQ) (λcl C fp pins s₂ H₂=>(As Bz (As BL (Az P w K (Fn 2 AhJ.comp) Ak) (Aa 0 SS.comp)) (Fn 1 AhI.comp))) (by rfl) (by intro _;rfl) (Uh rfl))
     (Aj (Jz (j:=3) rfl nd rfl (Uh DO.loc) SQ (Df (Aa 3 DO)) (λcl C fp pins s₂ H₂=>(Bo 0 SQ.nd Ni.comp)) (λcl C fp pins s₂ H₂=>(Lm (Dy (Bx pf AhH.comp hr.d A3 (Ac (Fn 1 AhG.comp) (Ac Ak (Ac (Aa 0 Ni.comp) Ae))))))) (λcl C fp pins s₂ H₂=>(Aa 0 Ni.comp)) (by rfl) (by intro _;rfl) (Uh rfl))
     (Aj (Ba (A5 (B7 hu) (Aa 3 DO) (A0 Ae) (Bb _)) (An (AO (Aa 1 Kx))) Be)
     (Aj (A1 4 nd G3 (Cm Ve yn yo OY (Az P w K (BW 0 DG) Ak) (Ac Am Ae)))
     (Aj (A1 5 nd Ng (Cm Ve PySem.F.slot_list_index PySem.F.type_list_index Ad7 (Az P w K (BW 0 DG) Ak) (Ac (Aa 4 G3) Ae)))
     (Aj (A1 6 nd Nh (As Bz (As Ec (Aa 5 Ng) (AK AL (Az P w K (BW 0 DG) Ak) (AK AL (Aa 3 DO) Am (λ_ _=>rfl)) (λ_ _=>rfl))) (BG Cp SO T.n_len Ca (Ac (Az P w K (BW 0 DG) Ak) Ae))))
     (Aj (DU (Aa 5 Ng) (EA (Az P w K (BW 0 DG) Ak) (AK AL (Aa 3 DO) Am (λ_ _=>rfl)) DA))
     (Aj (IX (Az P w K (BW 0 DG) Ak) (AK AL (Aa 3 DO) Am (λ_ _=>rfl)) JA (Aa 6 Nh) IY DA)
     (Aj (CD (U5 (Vb (by decide) _) hu) (BW 0 DG) Ak (As Bz (As BL (AK AL (Aa 3 DO) Am (λ_ _=>rfl)) Am) (BW 2 Nf)) rfl)
     (Aj (DU (Aa 4 G3) (EA (Az P w K (Az P w K (BW 0 DG) Ak) Ak) (AK AL (Aa 3 DO) Am (λ_ _=>rfl)) DA))
     (Aj (IX (Az P w K (Az P w K (BW 0 DG) Ak) Ak) (AK AL (Aa 3 DO) Am (λ_ _=>rfl)) JA Am IY DA)
     (Aj (CD (U5 (Vb (by decide) _) hu) (Az P w K (BW 0 DG) Ak) (Aa 4 G3) Ak rfl)
     (Aj (CD (U5 (Vb (by decide) _) hu) (Az P w K (BW 0 DG) Ak) (Aa 4 G3) (A0 (Ac (BN (Ac Ak (Ac (AK AL (Aa 3 DO) Am (λ_ _=>rfl)) Ae))) Ae)) rfl)
     (An (Bi (Cm Ve Vy Vz C7 (Aa 1 Kx) (Ac (BN (Ac Ak (Ac (Aa 4 G3) (Ac (AK AL (Aa 3 DO) Am (λ_ _=>rfl)) (Ac (Aa 6 Nh) Ae))))) Ae))))))))))))))))))
    (An (AO (Aa 1 Kx)))))),?_⟩
  try dsimp only [av,aw]
  have aS:AW ["world","told","many","some","line","place","went"] [V.ref W0.w]=[some (.ref W0.w),none,none,none,none,none,none]:=rfl;simp only [aS,VM,VN];walk_at"";refine ⟨Ax,λr nr=>?_⟩;have t1:=t0.new (u:=.lst (([]:List Addr).map V.ref)) nr;have p1:Ah H (upd H r (.lst (([]:List Addr).map V.ref))):=.new nr;have e1:upd H r (.lst [])=upd H r (.lst (([]:List Addr).map V.ref)):=rfl;rw [e1];generalize upd H r (.lst (([]:List Addr).map V.ref))=H1 at t1 p1 ⊢;walk_at"";refine Ao W0.w _ (.inr "spots") _ rfl rfl (.of t1.t.vw) M3 ?_;walk_at"";refine Ue (AU W0.sp _ rfl (.inl (.of t1.t.tQ)) ?_);rw [T7,t1.ok.sp,ls0];walk_at"";refine ⟨λm σ H2=>∃ x3 x4 x5 x6 I B L tl,σ=[some (.ref W0.w),some (.ref r),some (.int Y.sk.hs.length),x3,x4,x5,x6]/\I.w=W0.w/\WT K H2 I B ((r,.lst (L.map V.ref)) :: R)/\WF B/\B.sk.hs.length=Y.sk.hs.length/\Ah H H2/\BC K H2 L tl/\m=B.q.length/\L.length+m<=100/\B3 Y=(tl++(aC m B).1,(aC m B).2),⟨Y.q.length,none,none,none,none,W0,Y,[],[],rfl,rfl,t1,iC,rfl,p1,.nil,rfl,by have:=iC.g.fm;simp only [ZU];omega,rfl⟩,?_⟩;intro m σ H2 zq;replace zq:=Gh zq;obtain ⟨x3,x4,x5,x6,I,B,L,tl,rfl,fV,t2,bA,fK,p2,gL,rfl,eQ,eq2⟩:=zq;rw [<- fV];have asq:∀ z∈B.q,Cq z:=λz hz=>(bA.g.tx z (bA.g.cC z hz)).1.1;have ua:=t2.t.vq;rw [t2.ok.q] at ua;walk_at"";refine Ao I.w _ (.inr "queue") _ rfl rfl (.of t2.t.vw) Gd ?_;walk_at"";refine ⟨Ax,λle ne=>?_⟩;have s3:=(Ai.refl H2).upd (o:=.lst []) ne;have e3:(upd H2 le (.lst [])) le=some (.lst []):=Al;generalize upd H2 le (.lst [])=H3 at s3 e3 ⊢;have t3:=t2.same s3;have vq3:=s3 _ _ ua;obtain ⟨ly,dp⟩:=Nd asq;refine Ue ⟨.list (B.q.map WA),.list [],.lst (.of vq3) (G2 B.q),.lst (.of e3) .nil,ly,rfl,(by rw [Kw];omega),?_⟩;cases eq:B.q with
  | nil =>
   have e0:B3 Y=(tl,B):=by rw [eq2,eq];show (tl++[],B)=_;rw [Vu]
   walk_at"";exact q H3 I r L fV (by rw [e0];exact t3) (p2.trans (.of s3)) (by rw [e0];exact gL.ai (.of s3))
  | cons z O =>
   have eqf:YL (.list ((z :: O).map WA)) (.list [])=false:=rfl;rw [eqf];rw [eq] at eq2 eQ;walk_at"";refine Co ?_;refine ⟨λσ' H'=>∃ m',m'<O.length+1/\∃ x3 x4 x5 x6 I B L tl,σ'=[some (.ref W0.w),some (.ref r),some (.int Y.sk.hs.length),x3,x4,x5,x6]/\I.w=W0.w/\WT K H' I B ((r,.lst (L.map V.ref)) :: R)/\WF B/\B.sk.hs.length=Y.sk.hs.length/\Ah H H'/\BC K H' L tl/\m'=B.q.length/\L.length+m'<=100/\B3 Y=(tl++(aC m' B).1,(aC m' B).2),λσ' H' h=>by rw [<- fV] at h;exact h,?_⟩;walk_at"";refine ⟨by omega,by omega,λD nD=>?_⟩;have m0:=bA.g.m0;have m1:=bA.g.m1;have hz:B.sk.hs.length<=1000:=by omega
   show ∃ W:Nat->Nat->St->Hp->Prop,(∃ m,W 0 m [none,some (.int Y.sk.hs.length),some (.ref I.w)] _)/\_;refine Pp (lo:=0) (n:=Y.sk.hs.length) (λi σ' H'=>∃ x,σ'=[x,some (.int Y.sk.hs.length),some (.ref I.w)]/\Ai H3 H'/\H' D=some (.lst (((Vj i).map λ(f:Nat)=>(B.sk.mark+(f:Int)) % (Y.sk.hs.length:Int)).map V.int))) ⟨none,rfl,(Ai.refl H3).upd nD,Al⟩ ?_ ?_
   .intro i σ' H' hi zq;replace zq:=Av zq;obtain ⟨x,rfl,sm,hL⟩:=zq;simp only [Yp];walk_at"";refine Ao I.w _ (.inr "mark") _ rfl rfl (.of (t3.same sm).t.vw) Ahk ?_;rw [t3.ok.ma];walk_at"";refine ⟨_,hL,(by rw [T7,T7,WS,Uc];omega),_,rfl,sm.cj nD,?_⟩;rw [Al,Y3,Uy,Uy];rfl
   intro σ' H4 zq;replace zq:=Av zq;obtain ⟨x,rfl,s4,hL⟩:=zq;have t4:=t3.same s4;obtain ⟨mk,ph⟩:=Yj m0;have pj:=AhC Y.sk.hs.length mk (by omega);rw [ph] at hL;generalize hO:(Vj Y.sk.hs.length).map (λ(f:Nat)=>((mk:Int)+(f:Int)) % (Y.sk.hs.length:Int))=ord at hL pj;have mem:∀ y∈ord,0<=y/\y<B.sk.hs.length:=λy hy=>QJ (by omega) (by omega) (by rw [fK,ph,<- pj];exact hy);have gQ:Di B.sk.hs B.sk.js B.sk.mark=(ord.filter (Cc B.sk.hs B.sk.js)).head?:=by unfold Di;rw [ph,fK];rw [<- pj,List.head?_filter]
   walk_at"";refine ⟨⟨_,.of hL⟩,λD2 pq=>?_⟩;have aeG:ord.length=Y.sk.hs.length:=by rw [<- hO,T7,WS]
   show ∃ W:Nat->Nat->St->Hp->Prop,(∃ m,W 0 m [none,some (.ref I.w)] _)/\_;refine LC (K:=K) (a:=D) (xs:=ord.map V.int) (λi σ' H'=>∃ x,σ'=[x,some (.ref I.w)]/\Ai H4 H'/\H' D2=some (.lst (((ord.take i).filter (Cc B.sk.hs B.sk.js)).map V.int))) ⟨none,rfl,(Ai.refl H4).upd pq,Al⟩ (λi σ H' _ ⟨_,_,sm,_⟩=>.of (sm _ _ hL)) ?_ ?_
   .intro i y σ' H' hi zq;replace zq:=Av zq;obtain ⟨x,rfl,sm,bO⟩:=zq;rw [Uj] at hi;obtain ⟨kk,hk,rfl⟩:=Ag (UX.mp hi);obtain ⟨J,k1⟩:=mem kk (Uw hk);have tf:=AhD (Cc B.sk.hs B.sk.js) ord i kk hk;have fl:((ord.take i).filter (Cc B.sk.hs B.sk.js)).length<=B.sk.hs.length:=by
     have:=vT (Cc B.sk.hs B.sk.js) (ord.take i);have:=List.length_take_le' i ord;omega
    walk_at"";dsimp only [Cd];refine Jm I B _ (Ud "") kk _ rfl ⟨t4.same sm,bA.g,if_pos rfl,J,k1,?_⟩;cases hf:Cc B.sk.hs B.sk.js kk with
    | false =>
     rw [hf] at tf;refine CC false rfl ?_;refine Cn ?_;refine DY _ rfl sm ?_;rw [bO,tf,if_neg (by decide),Vu]
    | true =>
     rw [hf] at tf;refine CC true rfl ?_;refine Co ?_;walk_at"";refine ⟨_,bO,(by rw [T7,Uc];omega),_,rfl,sm.cj pq,?_⟩;rw [Al,tf,if_pos rfl,Uy];rfl
   intro σ' H5 zq;replace zq:=Av zq;obtain ⟨x',rfl,s5,bO⟩:=zq;rw [T7,VL] at bO;have t5:=t4.same s5;walk_at"";refine ⟨Ax,λpv ne2=>?_⟩;have s6:=(Ai.refl H5).upd (o:=.lst []) ne2;have e6:(upd H5 pv (.lst [])) pv=some (.lst []):=Al;generalize upd H5 pv (.lst [])=H6 at s6 e6 ⊢;have t6:=t5.same s6;have fW:Ai H2 H6:=((s3.trans s4).trans s5).trans s6;have td6:=gL.ai (.of fW);have jU:=s6 _ _ bO;cases ub:ord.filter (Cc B.sk.hs B.sk.js) with
   | nil =>
    rw [ub] at jU gQ;have et:Dk B=none:=by unfold Dk;rw [eq];dsimp only;rw [gQ];rfl
    have e0:B3 Y=(tl,B):=by rw [eq2];show (tl++(aC (O.length+1) B).1,(aC (O.length+1) B).2)=_;unfold aC;rw [et];dsimp only;rw [Vu]
    refine Ue ⟨.list [],.list [],.lst (.of jU) .nil,.lst (.of e6) .nil,rfl,rfl,by decide,?_⟩;walk_at"";exact q H6 I r L fV (by rw [e0];exact t6) (p2.trans (.of fW)) (by rw [e0];exact td6)
   | cons J rest =>
    rw [ub] at jU gQ;have gQ:Di B.sk.hs B.sk.js B.sk.mark=some J:=gQ;obtain ⟨⟨iD,lL⟩,_⟩:=Ii m0 (Y4 m1) gQ;obtain ⟨jV,dp2⟩:=Nc (J :: rest);have ly':XM (.list ((J :: rest).map Wr))=true:=jV;have abM:YL (.list ((J :: rest).map Wr)) (.list [])=false:=rfl;refine Ue ⟨.list ((J :: rest).map Wr),.list [],.lst (.of jU) (G1 (J :: rest)),.lst (.of e6) .nil,ly',rfl,(by rw [Kw];omega),?_⟩;rw [abM];have uc:z∈B.q:=by rw [eq];exact UY
    obtain ⟨ln,i1,i2⟩:=Ag (MB (bA.g.cC z uc));generalize hi:Bp B.lns z=i at i1;subst i2;obtain ⟨q1,q2,q3,q4⟩:=AD ((bA.l i ln i1).jO uc);have et:=Ru eq gQ (by rw [hi];exact i1);rw [hi] at et;have pw:=bA.gO et;have aI:∀{l:List Int},l.length=B.sk.hs.length->Cu (l.map V.int) J=some (.int (l.getD J.toNat 0)):=λ{l} hl=>by
     have ek:((J.toNat:Nat):Int)=J:=by omega
     have klt:J.toNat<l.length:=by omega
     rw [<- ek];exact C4 (by rw [Uj,Xo,UM,Uu klt];rfl)
    have pB:=t6.ok.ln;have gi:(I.lns.map V.str)[i]?=some (.str ln.num):=by rw [pB,Uj,Uj,i1];rfl
    have gno:∀(m:Nat)(y:V),m<i->(I.lns.map V.str)[m]?=some y->CU y (.str ln.num)=false:=λm y hm hy=>by
     rw [pB,Uj,Uj] at hy;obtain ⟨_,e0,rfl⟩:=Ag (UX.mp hy);obtain ⟨lm,e1,rfl⟩:=Ag (UX.mp e0);rw [SK];exact decide_eq_false (EO bA.g.num e1 i1 (by omega))
    have gfl:(I.lns.map V.str).all C5=true:=by rw [V3];intro y my;obtain ⟨lm,_,rfl⟩:=Ag (Ur.mp my);rfl
    have gz:CU (.str ln.num) (.str ln.num)=true:=by rw [SK];exact decide_eq_true rfl
    have epl:((I.lns.map V.str).length:Int)=B.sk.places:=by rw [T7,pB,T7,bA.g.pl]
    have plp:0<B.sk.places:=by rw [bA.g.pl];have:=bA.g.pos;omega
    obtain ⟨j,e,hj,ew,f1,f2,f3⟩:=Dl (t6.ok.find (w:=Ud "") (if_pos rfl));obtain ⟨jt,te,as,iE,ez,_,_⟩:=BI (t6.ok.lI i1);have kG:e.hs.length=B.sk.hs.length:=by rw [f1,Kv]
    have sel:e.ss=B.sk.ts.map V.int:=f3;have pC:=t6.ok.sp;have oE:=t6.ok.st;have c6:=t4.t.abL pq (s5.trans s6) jU;have w6:=c6.vw;have pF:=c6.vq;walk_at"";refine Ao I.w _ (.inr "queue") _ rfl rfl (.of w6) Gd ?_;refine ⟨.inl ⟨rfl,_,.of pF⟩,?_⟩;walk_at"";refine C8 I.q _ 0 0 (.str ln.num) rfl ⟨rfl,pF,(by decide),(by decide),(by rw [t6.ok.q,eq,Vd,Vf];unfold Ya;simp),(by rw [t6.ok.q,eq];rfl),?_⟩;have el:(I.qs.map V.str).eraseIdx 0=O.map V.str:=by rw [t6.ok.q,eq];rfl
    rw [el];have c7:At _ (VW.C { I with qs:=O } ((D2,.lst ((J :: rest).map V.int)) :: (r,.lst (L.map V.ref)) :: R)):=c6.sQ O;have p7:Ah H6 (upd H6 I.q (.lst (O.map V.str))):=.chg pF rfl;generalize upd H6 I.q (.lst (O.map V.str))=H7 at c7 p7 ⊢;have w7:H7 I.w=some (.dK I.kv):=c7.vw;have l7:H7 I.ln=some (.lst (I.lns.map V.str)):=c7.lC;have d7:=c7.bW.hd;have pG:=c7.tQ;walk_at"";refine Ao I.w _ (.inr "lines") _ rfl rfl (.of w7) II ?_;refine ⟨.inl ⟨rfl,_,.of l7⟩,?_⟩;walk_at"";refine Hz I.ln _ (.str ln.num) i rfl ⟨rfl,l7,rfl,gfl,⟨_,gi,gz⟩,gno,?_⟩;walk_at"";refine Ao I.w _ (.inr "spots") _ rfl rfl (.of w7) M3 ?_;walk_at"";refine Uh (Ao D2 _ 0 _ rfl rfl (.of d7) (C4 (j:=0) rfl) ?_);refine Uh (Ao I.sp _ J _ rfl rfl (.of pG) (by rw [show ({ I with qs:=O }:VW).bI=B.sk.st from pC];exact aI bA.g.so.ls) ?_);walk_at"";refine Ao I.w _ (.inr "lines") _ rfl rfl (.of w7) II ?_;walk_at"";refine Ue (AU I.ln _ rfl (.inl (.of l7)) ?_);rw [epl];refine CV _ _ rfl rfl plp ?_;walk_at"";refine Ao I.w _ (.inr "spots") _ rfl rfl (.of w7) M3 ?_;walk_at"";refine Uh (Ao D2 _ 0 _ rfl rfl (.of d7) (C4 (j:=0) rfl) ?_);walk_at"";refine Bw pG (G0 iD (by rw [T7,show ({ I with qs:=O }:VW).bI=B.sk.st from pC,bA.g.so.ls];exact lL)) ?_;have gs:({ I with qs:=O }:VW).bI=B.sk.st:=pC;rw [gs,show (B.sk.st.map V.int).set J.toNat (.int (i:Int))=(B.sk.st.set J.toNat (i:Int)).map V.int from (Vn ..).symm];have c8:At _ (VW.C { I with qs:=O,bI:=B.sk.st.set J.toNat (i:Int) } ((D2,.lst ((J :: rest).map V.int)) :: (r,.lst (L.map V.ref)) :: R)):=c7.sSp (B.sk.st.set J.toNat (i:Int));have p8:Ah H7 (upd H7 I.sp (.lst ((B.sk.st.set J.toNat (i:Int)).map V.int))):=.chg pG rfl;generalize upd H7 I.sp (.lst ((B.sk.st.set J.toNat (i:Int)).map V.int))=H8 at c8 p8 ⊢;have w8:H8 I.w=some (.dK I.kv):=c8.vw;have d8:=c8.bW.hd;have pH:H8 I.st=some (.lst (B.sk.wt.map V.int)):=by rw [<- oE];exact c8.tR
    walk_at"";refine Ao I.w _ (.inr "steps") _ rfl rfl (.of w8) Sr ?_;walk_at"";refine Uh (Ao D2 _ 0 _ rfl rfl (.of d8) (C4 (j:=0) rfl) ?_);refine Bn I.st _ J _ rfl rfl iD (.of pH) (aI bA.g.so.lw) ?_;walk_at"";refine Bw pH (G0 iD (by rw [T7,bA.g.so.lw];exact lL)) ?_;rw [show (B.sk.wt.map V.int).set J.toNat (.int (B.sk.wt.getD J.toNat 0+((i:Int) - B.sk.st.getD J.toNat 0) % B.sk.places))=(aK B.sk J i).wt.map V.int from (Vn ..).symm];have c9:At _ (VW.C { I with qs:=O,bI:=B.sk.st.set J.toNat (i:Int),cf:=(aK B.sk J i).wt } ((D2,.lst ((J :: rest).map V.int)) :: (r,.lst (L.map V.ref)) :: R)):=c8.sSt (aK B.sk J i).wt;have p9:Ah H8 (upd H8 I.st (.lst ((aK B.sk J i).wt.map V.int))):=.chg pH rfl;generalize upd H8 I.st (.lst ((aK B.sk J i).wt.map V.int))=H9 at c9 p9 ⊢;have w9:H9 I.w=some (.dK I.kv):=c9.vw;have d9:=c9.bW.hd;walk_at"";refine Uh (Ao D2 _ 0 _ rfl rfl (.of d9) (C4 (j:=0) rfl) ?_);walk_at"";refine AU I.w _ rfl (.k (k:=.inr "mark") w9 (by show 16<sizeLine;decide)) ?_;rw [show AX I.kv (.inr "mark") (.int ((J+1) % (Y.sk.hs.length:Int)))={ I with mark:=(J+1) % (B.sk.hs.length:Int) }.kv from by rw [fK];rfl];have iF:At (upd H9 I.w (.dK { I with mark:=(J+1) % (B.sk.hs.length:Int) }.kv)) (VW.C { I with qs:=O,bI:=B.sk.st.set J.toNat (i:Int),cf:=(aK B.sk J i).wt,mark:=(J+1) % (B.sk.hs.length:Int) } ((D2,.lst ((J :: rest).map V.int)) :: (r,.lst (L.map V.ref)) :: R)):=c9.abA ((J+1) % (B.sk.hs.length:Int));have lM:Ah H9 (upd H9 I.w (.dK { I with mark:=(J+1) % (B.sk.hs.length:Int) }.kv)):=.chg w9 rfl;generalize upd H9 I.w (.dK { I with mark:=(J+1) % (B.sk.hs.length:Int) }.kv)=fq at iF lM ⊢;have w10:fq I.w=some (.dK { I with mark:=(J+1) % (B.sk.hs.length:Int) }.kv):=iF.vw;have d10:=iF.bW.hd;have bQ:({ I with mark:=(J+1) % (B.sk.hs.length:Int) }:VW).rk[j]?=some e:=hj;have ud:=iF.gP hj;have ue:=D8 t6 hj AA.ha;have uf:=D8 t6 hj AA.sa;rw [ew] at ue uf;walk_at"";refine Ao I.w _ (.inr "held") _ rfl rfl (.of w10) Fx ?_;walk_at"";refine Ao I.bV _ (.inr "") _ rfl rfl (.of iF.fT) ue ?_;walk_at"";refine Uh (Ao D2 _ 0 _ rfl rfl (.of d10) (C4 (j:=0) rfl) ?_);refine Bw ud (G0 iD (by rw [kG];exact lL)) ?_;have iG:At _ (VW.C { I with qs:=O,bI:=B.sk.st.set J.toNat (i:Int),cf:=(aK B.sk J i).wt,mark:=(J+1) % (B.sk.hs.length:Int),rk:=I.rk.set j { e with hs:=e.hs.set J.toNat (.str ln.num) } } ((D2,.lst ((J :: rest).map V.int)) :: (r,.lst (L.map V.ref)) :: R)):=iF.tV hj (e.hs.set J.toNat (.str ln.num));have ug:Ah fq (upd fq e.ha (.lst (e.hs.set J.toNat (.str ln.num)))):=.chg ud rfl;generalize upd fq e.ha (.lst (e.hs.set J.toNat (.str ln.num)))=dF at iG ug ⊢;have w11:dF I.w=some (.dK { I with mark:=(J+1) % (B.sk.hs.length:Int) }.kv):=iG.vw;have d11:=iG.bW.hd;have uh:(I.rk.set j { e with hs:=e.hs.set J.toNat (.str ln.num) })[j]?=some { e with hs:=e.hs.set J.toNat (.str ln.num) }:=Cr hj;have pI:dF e.sa=some (.lst (B.sk.ts.map V.int)):=by have z:=iG.tU uh;rw [<- sel];exact z
    have abN:AS (A9 AA.sa (I.rk.set j { e with hs:=e.hs.set J.toNat (.str ln.num) })) (.inr "")=some (.ref e.sa):=by rw [show A9 AA.sa (I.rk.set j { e with hs:=e.hs.set J.toNat (.str ln.num) })=A9 AA.sa I.rk from Du (f:=λe:AA=>((.inr e.w:Ar),V.ref e.sa)) hj rfl];exact uf
    walk_at"";refine Ao I.w _ (.inr "shares") _ rfl rfl (.of w11) So ?_;walk_at"";refine Ao I.shr _ (.inr "") _ rfl rfl (.of iG.tP) abN ?_;walk_at"";refine Uh (Ao D2 _ 0 _ rfl rfl (.of d11) (C4 (j:=0) rfl) ?_);refine Bn e.sa _ J _ rfl rfl iD (.of pI) (aI bA.g.so.lt) ?_;walk_at"";refine Bw pI (G0 iD (by rw [T7,bA.g.so.lt];exact lL)) ?_;rw [<- sel];have gF:At (upd dF e.sa (.lst (e.ss.set J.toNat (.int (B.sk.ts.getD J.toNat 0+1))))) (VW.C { I with qs:=O,bI:=B.sk.st.set J.toNat (i:Int),cf:=(aK B.sk J i).wt,mark:=(J+1) % (B.sk.hs.length:Int),rk:=I.rk.set j { e with hs:=e.hs.set J.toNat (.str ln.num),ss:=e.ss.set J.toNat (.int (B.sk.ts.getD J.toNat 0+1)) } } ((D2,.lst ((J :: rest).map V.int)) :: (r,.lst (L.map V.ref)) :: R)):=by have z:=iG.sSs uh (e.ss.set J.toNat (.int (B.sk.ts.getD J.toNat 0+1)));rw [Vx] at z;exact z
    have iH:Ah dF (upd dF e.sa (.lst (e.ss.set J.toNat (.int (B.sk.ts.getD J.toNat 0+1))))):=.chg pI rfl;generalize upd dF e.sa (.lst (e.ss.set J.toNat (.int (B.sk.ts.getD J.toNat 0+1))))=ft at gF iH ⊢;have w12:ft I.w=some (.dK { I with mark:=(J+1) % (B.sk.hs.length:Int) }.kv):=gF.vw;have mz:ln.num∈I.zs:=t6.ok.fU i1;walk_at"";refine Ao I.w _ (.inr "way") _ rfl rfl (.of w12) EU ?_;walk_at"";have ui:ft I.way=some (.dK (dS I.zs I.ay)):=gF.dD;refine AU I.way _ rfl (.k (k:=.inr ln.num) ui (Em t6.ok.zl)) ?_;rw [ET mz];have ie:At (upd ft I.way (.dK (dS I.zs (Bd I.ay ln.num (.str "dials"))))) (VW.C { I with qs:=O,bI:=B.sk.st.set J.toNat (i:Int),cf:=(aK B.sk J i).wt,mark:=(J+1) % (B.sk.hs.length:Int),rk:=I.rk.set j { e with hs:=e.hs.set J.toNat (.str ln.num),ss:=e.ss.set J.toNat (.int (B.sk.ts.getD J.toNat 0+1)) },ay:=Bd I.ay ln.num (.str "dials") } ((D2,.lst ((J :: rest).map V.int)) :: (r,.lst (L.map V.ref)) :: R)):=gF.tS (Bd I.ay ln.num (.str "dials"));have iI:Ah ft (upd ft I.way (.dK (dS I.zs (Bd I.ay ln.num (.str "dials"))))):=.chg ui rfl;generalize upd ft I.way (.dK (dS I.zs (Bd I.ay ln.num (.str "dials"))))=eA at ie iI ⊢;have d13:=ie.bW.hd;walk_at"";refine Uh (Ao D2 _ 0 _ rfl rfl (.of d13) (C4 (j:=0) rfl) ?_);refine ⟨Ax,λu nu=>?_⟩;have pJ:=(Ai.refl eA).upd (o:=.tup [.str "",.int J]) nu;have uj:(upd eA u (.tup [.str "",.int J])) u=some (.tup [.str "",.int J]):=Al;generalize upd eA u (.tup [.str "",.int J])=fu at pJ uj ⊢;refine ⟨Ax,λl nl=>?_⟩;have uk:=ie.same pJ;have pK:=uk.lD (u:=.lst [.ref u]) nl;have w15:(upd fu l (.lst [.ref u])) I.w=some (.dK { I with mark:=(J+1) % (B.sk.hs.length:Int) }.kv):=pK.vw;walk_at"";refine Ao I.w _ (.inr "train") _ rfl rfl (.of w15) IH ?_;walk_at"";refine AU I.bo _ rfl (.k (k:=.inr ln.num) pK.fS ?_) ?_
    .show (I.tr.map _).length<_;have z1:=congrArg V9 t6.ok.tz;rw [T7] at z1;have:=t6.ok.zl;rw [T7,Uc];omega
    have um:=Si (n:=B4.z) (g:=λe=>V.ref e.a) (y:=(⟨ln.num,l,[.ref u]⟩:B4)) t6.ok.lJ iE ez.symm;rw [ez] at um;rw [show AX (Br I.tr) (.inr ln.num) (.ref l)=Br (I.tr.set jt ⟨ln.num,l,[.ref u]⟩) from um];have lN:At (upd (upd fu l (.lst [.ref u])) I.bo (.dK (Br (I.tr.set jt ⟨ln.num,l,[.ref u]⟩)))) (VW.C { I with qs:=O,bI:=B.sk.st.set J.toNat (i:Int),cf:=(aK B.sk J i).wt,mark:=(J+1) % (B.sk.hs.length:Int),rk:=I.rk.set j { e with hs:=e.hs.set J.toNat (.str ln.num),ss:=e.ss.set J.toNat (.int (B.sk.ts.getD J.toNat 0+1)) },ay:=Bd I.ay ln.num (.str "dials"),tr:=I.tr.set jt ⟨ln.num,l,[.ref u]⟩ } ((D2,.lst ((J :: rest).map V.int)) :: (r,.lst (L.map V.ref)) :: R)):=uk.tT (e':=⟨ln.num,l,[.ref u]⟩) iE nl;have pL:Ah fu (upd (upd fu l (.lst [.ref u])) I.bo (.dK (Br (I.tr.set jt ⟨ln.num,l,[.ref u]⟩)))):=(Ah.new nl).trans (.chg (o:=.dK (Br I.tr)) pK.fS rfl);generalize upd (upd fu l (.lst [.ref u])) I.bo (.dK (Br (I.tr.set jt ⟨ln.num,l,[.ref u]⟩)))=fA at lN pL ⊢;have uo:Ah H6 fA:=p7.trans (p8.trans (p9.trans (lM.trans (ug.trans (iH.trans (iI.trans ((Ah.of pJ).trans pL)))))));have d16:=lN.bW.hd;have uq:=lN.bW.tl.hd;have k16:=t6.ok.gO uo i1 q2 q4 q3 hj ew iE ez (l:=l) (pL.t uj) O;have abO:=lN.sub (C':=VW.C { I with qs:=O,rk:=I.rk.set j { e with hs:=e.hs.set J.toNat (.str ln.num),ss:=e.ss.set J.toNat (.int (B.sk.ts.getD J.toNat 0+1)) },mark:=(aK B.sk J i).mark,bI:=(aK B.sk J i).st,cf:=(aK B.sk J i).wt,ay:=Bd I.ay ln.num (.str "dials"),tr:=I.tr.set jt ⟨ln.num,l,[.ref u]⟩ } ((r,.lst (L.map V.ref)) :: R)) ((VR _).append ((VR _).append ((VR _).append (.cons _ (.refl _)))));have t16:WT K fA _ _ ((r,.lst (L.map V.ref)) :: R):=⟨abO,k16⟩;walk_at"";refine ⟨.inl ⟨rfl,_,.of uq⟩,?_⟩;walk_at"";refine Uh (Ao D2 _ 0 _ rfl rfl (.of d16) (C4 (j:=0) rfl) ?_);walk_at"";refine ⟨Ax,λv nv=>?_⟩;have lO:=(Ai.refl fA).upd (o:=.tup [.str "tone",.str ln.num,.int J,.int (((i:Int) - B.sk.st.getD J.toNat 0) % B.sk.places)]) nv;have ur:(upd fA v (.tup [.str "tone",.str ln.num,.int J,.int (((i:Int) - B.sk.st.getD J.toNat 0) % B.sk.places)])) v=some (.tup [.str "tone",.str ln.num,.int J,.int (((i:Int) - B.sk.st.getD J.toNat 0) % B.sk.places)]):=Al;generalize upd fA v (.tup [.str "tone",.str ln.num,.int J,.int (((i:Int) - B.sk.st.getD J.toNat 0) % B.sk.places)])=lP at lO ur ⊢;walk_at"";refine B1 r _ _ rfl rfl (lO _ _ uq) (by rw [T7,Uc];rw [Vf] at eQ;omega) ?_;obtain ⟨t18,uu⟩:=(t16.same lO).set (o':=.lst ((L++[v]).map V.ref)) rfl;rw [show (L.map V.ref++[V.ref v])=(L++[v]).map V.ref by rw [Uy];rfl];have uv:Ah H2 lP:=(Ah.of fW).trans (uo.trans (.of lO));refine  ⟨O.length,Xz _,_,_,_,_,_,_,L++[v],tl++[.tuple [.str "tone",.str ln.num,.int J,.int (((i:Int) - B.sk.st.getD J.toNat 0) % B.sk.places)]],(by rw [fV];rfl),(by exact fV),t18,pw,(by show (B.sk.hs.set _ _).length=_;rw [UE];exact fK),p2.trans (uv.trans uu),((gL.ai uv).app (.one (.tup (.of ur) (.cons (.str _) (.cons (.str _) (.cons (.int _) (.cons (.int _) .nil))))) rfl)).ai uu,rfl,(by rw [U2,Vv];rw [Vf] at eQ;omega),?_⟩;rw [eq2];show (tl++(aC (O.length+1) B).1,(aC (O.length+1) B).2)=_;have ox:∀ n,aC (n+1) B=_:=λn=>by unfold aC;rw [et]
    rw [ox,Uv];rfl
theorem SU {α:Type}{l:List α}{i j:Nat}{x:α}:(l.set i x).set j x=(l.set j x).set i x:=by
 by_cases e:i=j
 .rw [e]
 .exact Y5 x x e
theorem AhL (S:PS)(w u:Str)(k n:Int):aB (aB S w k) u n=aB (aB S u n) w k:=by
 unfold aB;by_cases a:w=Ud ""
 .by_cases b:u=Ud ""
  .rw [if_pos a,if_pos b,if_pos a,if_pos b];dsimp only;rw [SU]
  .rw [if_pos a,if_neg b,if_pos a,if_neg b]
 .by_cases b:u=Ud ""
  .rw [if_neg a,if_pos b,if_neg a,if_pos b]
  .rw [if_neg a,if_neg b,if_neg a,if_neg b];dsimp only;rw [UD,UD];refine congrArg (λx=>({ S with aD:=x }:PS)) (Wl λg _=>?_);show (if (if g.pre=w then { g with hs:=g.hs.set k.toNat .aa } else g).pre=u then _ else _)=(if (if g.pre=u then { g with hs:=g.hs.set n.toNat .aa } else g).pre=w then _ else _);by_cases c:g.pre=w
   .by_cases d:g.pre=u
    .simp only [c,if_true];rw [c] at d;simp only [d,if_true];rw [SU]
    .have B:¬ w=u:=λe=>d (c.trans e);simp only [c,if_true,B,if_false]
   .by_cases d:g.pre=u
    .have D:¬ u=w:=λe=>c (d.trans e);simp only [d,if_true,D,if_false]
    .simp only [c,d,if_false]
theorem SV (w:Str)(k:Int):∀(ts:List (Str×Int))(S:PS),aq (aB S w k) ts=aB (aq S ts) w k
 | [],_=>rfl
 | t :: ts,S=>by
  show aq (aB (aB S w k) t.1 t.2) ts=aB (aq (aB S t.1 t.2) ts) w k;rw [AhL,SV]
theorem SW (us:List (Str×Int)):∀(ts:List (Str×Int))(S:PS),aq (aq S ts) us=aq (aq S us) ts
 | [],_=>rfl
 | t :: ts,S=>by
  show aq (aq (aB S t.1 t.2) ts) us=aq (aB (aq S us) t.1 t.2) ts;rw [SW us ts,SV]
theorem KC:∀(ts:List (Str×Int))(S:PS)(l:List Ln)(q:List Str),aq { S with lns:=l,q:=q } ts={ aq S ts with lns:=l,q:=q }
 | [],_,_,_=>rfl
 | t :: ts,S,l,q=>by
  have e:aB { S with lns:=l,q:=q } t.1 t.2={ aB S t.1 t.2 with lns:=l,q:=q }:=by unfold aB;split<;>rfl
  show aq (aB { S with lns:=l,q:=q } t.1 t.2) ts=_;rw [e,KC ts];rfl
theorem AhM {S:PS}{i j:Nat}{ln lo:Ln}(n:j≠i)(H:S.lns[j]?=some lo):aH (Bq S j lo).2 i ln =
  if lo.st="talks" then { BS (aH S i ln) j lo with lns:=(aH S i ln).lns.set j { AI lo "waits" with held:=[] },q:=S.q++[lo.num] } else { BS (aH S i ln) j lo with lns:=(aH S i ln).lns.set j { AI lo "rests" with held:=[] } }:=by
 have B:aq (aH S i ln) lo.held={ aq (aq S lo.held) ln.held with lns:=(aH S i ln).lns,q:=(aq S ln.held).q }:=by have:aH S i ln={ aq S ln.held with lns:=(aH S i ln).lns,q:=(aq S ln.held).q }:=rfl;rw [this,KC,SW]
 unfold Bq;split
 .show ({ aq { aq S lo.held with lns:=(S.lns.set j { lo with held:=[] }).set j (AI { lo with held:=[] } "waits"),q:=(aq S lo.held).q++[lo.num] } ln.held with lns:=((S.lns.set j { lo with held:=[] }).set j (AI { lo with held:=[] } "waits")).set i (AI { ln with held:=[] } "rests") }:PS)={ aq (aH S i ln) lo.held with lns:=(S.lns.set i (AI { ln with held:=[] } "rests")).set j { AI lo "waits" with held:=[] },q:=S.q++[lo.num] };rw [B,KC,El,Vx,Y5 _ _ n];rfl
 .show ({ aq { aq S lo.held with lns:=S.lns.set j (AI { lo with held:=[] } "rests") } ln.held with lns:=(S.lns.set j (AI { lo with held:=[] } "rests")).set i (AI { ln with held:=[] } "rests") }:PS)={ aq (aH S i ln) lo.held with lns:=(S.lns.set i (AI { ln with held:=[] } "rests")).set j { AI lo "rests" with held:=[] } };have D:aq { aq S lo.held with lns:=S.lns.set j (AI { lo with held:=[] } "rests") } ln.held={ aq (aq S lo.held) ln.held with lns:=S.lns.set j (AI { lo with held:=[] } "rests"),q:=(aq S lo.held).q }:=KC _ (aq S lo.held) _ _;rw [B,D,El,El,Y5 _ _ n];rfl
def Nj (K:T3):Sp:=λvs H Q _=>∃(W:VW)(S:PS)(R:AH)(i:Nat)(ln:Ln),vs=[.ref W.w,.str ln.num]/\WT K H W S R/\WF S/\S.lns[i]?=some ln/\ln.st∈LW.bz.cv /\
 ∀ H' W' r xs,WT K H' W' (CW S i ln).2 ((r,.lst (xs.map V.ref)) :: R)->W'.w=W.w->Ah H H'->BC K H' xs (CW S i ln).1->Q (.ref r) H'
theorem AhN (zs:List Str):(zs.map V.str).all C5=true:=by rw [V3];intro y B;obtain ⟨_,_,rfl⟩:=Ag (Ur.mp B);rfl
section
variable {K:T3}{H H':Hp}{W:VW}{S S':PS}{R:AH}{i j:Nat}{ln y:Ln}
theorem WT.pQ (t:WT K H W S R)(q:List Str):WT K (upd H W.q (.lst (q.map V.str))) { W with qs:=q } { S with q:=q } R/\Ah H (upd H W.q (.lst (q.map V.str))):=by have B:Ah H (upd H W.q (.lst (q.map V.str))):=.chg t.t.vq rfl;exact ⟨⟨t.t.sQ q,(t.ok.ai B).cM q⟩,B⟩
theorem WT.q (t:WT K H W S R):H W.q=some (.lst (S.q.map V.str)):=by rw [<- t.ok.q];exact t.t.vq
end
theorem SY:AR ["world","line","other"] ["world","line"] (Ab (top 53)):=.of
theorem En:Nm (Ab (top 53)) "world":=.of
theorem Fy:Nm (Ab (top 53)) "line":=.of
theorem EV:Nm (Ab (top 53)) "other":=.of
theorem Nk:Gm (Ab (top 53)) "_law_begin":=.of
theorem S1:Gm (Ab (top 53)) "_law_freed":=.of
theorem AhO (F:AM K "_law_hang" "_law_hang" (top 53) f fd)(lQ:BB P w K mg base AB 1 "_law_freed" ["world","line"] (Su K))(fX:BB P w K mg base AB 1 "_law_begin" ["world","line","way"] (M4 K)):AF P w K mg base AB 2 f fd ["world","line"] (Nj K):=by
 refine F.ok SY λah A outer s H vs Q E hr h=>?_
 .replace h:=Dm h;obtain ⟨W,S,R,i,ln,rfl,t,D,h,hw,q⟩:=h
  have hu:=hr.units;have nd:=SY.nd;have L:=D.l i ln h;have mz:ln.num∈W.zs:=t.ok.fU h;obtain ⟨_,ok⟩:=D.bz h hw;obtain ⟨g1,nq1,_⟩:=AD (D.au h);have aL:ln.num∈S.q↔ln.st="waits":=⟨λm=>(L.jO m).1,λe=>ok.w e⟩;have abP:=(t.ok.l i ln h).ag;refine ⟨_,(@Aj _ _ _ _ _ (A1 2 nd EV (Az P w K (Az P w K (Aa 0 En) Ak) (Aa 1 Fy)))
    (Aj (Ba (A5 HI (Aa 1 Fy) (Az P w K (Aa 0 En) Ak) (by with_unfolding_all rfl)) (An (Bi (Cm Ve yp yq Pn (Az P w K (Aa 0 En) Ak) (Ac (Aa 1 Fy) Ae)))) Be)
    (Aj (Bi (Bx lQ S1 hr.d A3 (Ac (Aa 0 En) (Ac (Aa 1 Fy) Ae))))
    (Aj (Bi (Bx fX Nk hr.d A3 (Ac (Aa 0 En) (Ac (Aa 1 Fy) (Ac Ak Ae)))))
    (Aj (Ba (A5 FG (Aa 2 EV) Ck (Bb _)) (An (AO (A0 (Ac (BN (Ac Ak (Ac (Aa 1 Fy) Ae))) Ae)))) Be)
    (Aj (Bi (Bx lQ S1 hr.d A3 (Ac (Aa 0 En) (Ac (Aa 2 EV) Ae))))
    (Aj (Ba (A5 (B7 hu) (Az P w K (Az P w K (Aa 0 En) Ak) (Aa 2 EV)) Ak (Bb _)) (Aj (Bi (Bx fX Nk hr.d A3 (Ac (Aa 0 En) (Ac (Aa 2 EV) (Ac Ak Ae)))))
     (An (AO (A0 (Ac (BN (Ac Ak (Ac (Aa 1 Fy) Ae))) (Ac (BN (Ac Ak (Ac (Aa 2 EV) Ae))) Ae)))))) Be)
    (Aj (Bi (Bx fX Nk hr.d A3 (Ac (Aa 0 En) (Ac (Aa 2 EV) (Ac Ak Ae)))))
    (Aj (Bi (Cm Ve Vy Vz C7 (Az P w K (Aa 0 En) Ak) (Ac (Aa 2 EV) Ae)))
    (An (AO (A0 (Ac (BN (Ac Ak (Ac (Aa 1 Fy) Ae))) (Ac (BN (Ac Ak (Ac (Aa 2 EV) Ae))) Ae)))))))))))))),?_⟩
  try dsimp only [av,aw]
  have aS:AW ["world","line","other"] [V.ref W.w,V.str ln.num]=[some (.ref W.w),some (.str ln.num),none]:=rfl;simp only [aS,VM,VN];refine ER λC1 cb=>?_;walk_at"";refine Ao W.w _ (.inr "end") _ rfl rfl (.of t.t.vw) Ku ?_;walk_at"";refine Ao W.ag _ (.inr ln.num) _ rfl rfl (.of t.t.jS) (D7 mz) ?_;rw [abP];show C1 [some (.ref W.w),some (.str ln.num),some (Ce ln.ag)] H;rw [cb];refine ER λC hC=>?_;clear cb C1
  have mid:∀(H1:Hp)(W1:VW),WT K H1 W1 (au S ln) R->W1.w=W.w->Ah H H1->C [some (.ref W.w),some (.str ln.num),some (Ce ln.ag)] H1:=by
   intro H1 W1 t1 e1 p1;rw [hC,<- e1];have h1:(au S ln).lns[i]?=some ln:=by rw [GU];exact h
   have ha1:cA (au S ln) ln.held:=GR L.nd λp m=>⟨_,(MU p).trans (L.ow p m),GP⟩;walk_at"";dsimp only [Cd];refine A7 W1 _ R i ln rfl t1 g1 h1 ha1 (λH2 W2 t2 e2 p2=>?_);rw [<- e2];have h2:(BS (au S ln) i ln).lns[i]?=some { ln with held:=[] }:=Cr h1;walk_at"";dsimp only [Cd];refine Ue (Jm W2 _ R i { ln with held:=[] } ("rests") rfl ⟨t2,h2,λH3 W3 t3 e3 p3=>?_⟩);have t3:WT K H3 W3 (aH (au S ln) i ln) R:=by
    have e:aH (au S ln) i ln={ BS (au S ln) i ln with lns:=(BS (au S ln) i ln).lns.set i { AI { ln with held:=[] } "rests" with held:=[] } }:=by rw [show (BS (au S ln) i ln).lns=(au S ln).lns.set i { ln with held:=[] } from rfl,Vx];rfl
    rw [e];exact t3
   have iI:Ah H H3:=p1.trans (p2.trans p3);have ew:W3.w=W.w:=e3.trans (e2.trans e1);rw [<- e3];cases hf:ln.ag with
   | none =>
    have eD:CW S i ln=([.tuple [.str "rests",.str ln.num]],aH (au S ln) i ln):=by unfold CW;simp only [BU,hf]
    rw [eD] at q;walk_at"";refine ⟨Ax,λb nb=>?_⟩;have s4:=(Ai.refl H3).upd (o:=.tup [.str "rests",.str ln.num]) nb;have e4:(upd H3 b (.tup [.str "rests",.str ln.num])) b=some (.tup [.str "rests",.str ln.num]):=Al;generalize upd H3 b (.tup [.str "rests",.str ln.num])=H4 at s4 e4 ⊢;refine ⟨Ax,λr Y=>?_⟩;have p5:Ah H4 (upd H4 r (.lst [.ref b])):=.new Y;exact q _ W3 r [b] ((t3.same s4).new Y) ew (iI.trans ((Ah.of s4).trans p5)) (.one (.tup (.of (p5.t e4)) (.cons (.str _) (.cons (.str _) .nil))) rfl)
   | some z =>
    obtain ⟨j,lo,hj,rfl,nj,_⟩:=AY (ok.f z hf);have nw:ln.st≠"waits":=λe=>by
     have:=(L.way (w:=.bF) e).2.1;rw [hf] at this;cases this
    have uw:au S ln=S:=if_neg nw;rw [uw] at t3;have ux:(aH S i ln).lns[j]?=some lo:=Fv hj nj.symm;have ej:=GS D hj;have e2S:BU S ln=([(Bq S j lo).1],(Bq S j lo).2):=by simp only [BU,hf,ej,hj]
    have eD:CW S i ln=(.tuple [.str "rests",.str ln.num] :: [(Bq S j lo).1],aH (Bq S j lo).2 i ln):=by unfold CW;rw [uw,e2S]
    rw [eD,AhM nj hj] at q;have Lo:=D.l j lo hj;have ha3:cA (aH S i ln) lo.held:=GR Lo.nd λp m=>⟨_,(IC L.ge (D.apart h hj nj m)).trans (Lo.ow p m),GP⟩;have g3:WG (aH S i ln):=D.g.aH h;rw [show Ce (some lo.num)=V.str lo.num from rfl];walk_at"";dsimp only [Cd];refine A7 W3 _ R j lo rfl t3 g3 ux ha3 (λH4 W4 t4 e4 p4=>?_);rw [<- e4];have h4:(BS (aH S i ln) j lo).lns[j]?=some { lo with held:=[] }:=Cr ux;have mz4:lo.num∈W4.zs:=by have z:=t4.ok.fU h4;exact z
    have jW:W4.ay lo.num=.str lo.st:=by have z:=(t4.ok.l j _ h4).way;exact z
    have lst:lo.st="rung"\/lo.st="talks":=by
     obtain ⟨v,ev,y⟩:=Ag L.wy;have key:∀ o,F9 S i ln o->lo.st=o.s:=λo ⟨k,lm,hk,_,f1,_,f3⟩=>by
      rw [hf] at f1;obtain ⟨_,rfl⟩:=D.g.one hk hj (UK f1).symm;exact f3
     cases v with
     | rests=>rw [y.2.1] at hf;cases hf
     | bF=>rw [y.2.1] at hf;cases hf
     | cP=>rw [y.1] at hf;cases hf
     | told=>rw [y.2.1] at hf;cases hf
     | rings=>exact .inl (key _ y.2)
     | cQ=>exact absurd hw (by rw [ev];decide +kernel)
     | dB=>exact .inr (key _ y.2)
    walk_at"";refine Ao W4.w _ (.inr "way") _ rfl rfl (.of t4.t.vw) EU ?_;walk_at"";refine Ao W4.way _ (.inr lo.num) _ rfl rfl (.of t4.t.dD) (D7 mz4) ?_;rw [jW];have lR:W4.w=W.w:=e4.trans ew;walk_at"";rcases lst with ls | ls
    .have nt:lo.st≠"talks":=by rw [ls];decide +kernel
     rw [if_neg nt] at q;refine EC (decide_eq_true (congrArg V.str ls)) ?_;walk_at"";dsimp only [Cd];refine Ue (Jm W4 _ R j { lo with held:=[] } ("rests") rfl ⟨t4,h4,λB I J e5 p5=>?_⟩);have J:WT K B I { BS (aH S i ln) j lo with lns:=(aH S i ln).lns.set j { AI lo "rests" with held:=[] } } R:=by
      have e:(BS (aH S i ln) j lo).lns.set j { AI { lo with held:=[] } "rests" with held:=[] }=(aH S i ln).lns.set j { AI lo "rests" with held:=[] }:=by rw [show (BS (aH S i ln) j lo).lns=(aH S i ln).lns.set j { lo with held:=[] } from rfl,Vx];rfl
      rw [<- e];exact J
     walk_at"";refine ⟨Ax,λb nb=>?_⟩;have s6:=(Ai.refl B).upd (o:=.tup [.str "rests",.str ln.num]) nb;have e6:(upd B b (.tup [.str "rests",.str ln.num])) b=some (.tup [.str "rests",.str ln.num]):=Al;generalize upd B b (.tup [.str "rests",.str ln.num])=H6 at s6 e6 ⊢;walk_at"";refine ⟨Ax,λc nc=>?_⟩;have O:=(Ai.refl H6).upd (o:=.tup [.str "quiet",.str lo.num]) nc;have e7:(upd H6 c (.tup [.str "quiet",.str lo.num])) c=some (.tup [.str "quiet",.str lo.num]):=Al;generalize upd H6 c (.tup [.str "quiet",.str lo.num])=H7 at O e7 ⊢;refine ⟨Ax,λr Y=>?_⟩;have p8:Ah H7 (upd H7 r (.lst [.ref b,.ref c])):=.new Y;refine q _ I r [b,c] ((J.same (s6.trans O)).new Y) (e5.trans lR) (iI.trans (p4.trans (p5.trans ((Ah.of (s6.trans O)).trans p8)))) ?_;have:(Bq S j lo).1=.tuple [.str "quiet",.str lo.num]:=by unfold Bq;rw [if_neg nt]
     rw [this];exact ⟨.cons (.tup (.of (p8.t (O _ _ e6))) (.cons (.str _) (.cons (.str _) .nil))) (.cons (.tup (.of (p8.t e7)) (.cons (.str _) (.cons (.str _) .nil))) .nil),rfl⟩
    .rw [if_pos ls] at q;refine ED (decide_eq_false (λc=>absurd ((V.str.inj c).symm.trans ls) (by decide +kernel))) ?_;walk_at"";dsimp only [Cd];refine Ue (Jm W4 _ R j { lo with held:=[] } ("waits") rfl ⟨t4,h4,λB I J e5 p5=>?_⟩);have J:WT K B I { BS (aH S i ln) j lo with lns:=(aH S i ln).lns.set j { AI lo "waits" with held:=[] } } R:=by
      have e:(BS (aH S i ln) j lo).lns.set j { AI { lo with held:=[] } "waits" with held:=[] }=(aH S i ln).lns.set j { AI lo "waits" with held:=[] }:=by rw [show (BS (aH S i ln) j lo).lns=(aH S i ln).lns.set j { lo with held:=[] } from rfl,Vx];rfl
      rw [<- e];exact J
     have eqq:(BS (aH S i ln) j lo).q=S.q:=(El ..).trans (El ..);have uy:B I.q=some (.lst (S.q.map V.str)):=by rw [<- eqq];exact J.q
     rw [<- e5];have fm:=D.g.fm;walk_at"";refine Ao I.w _ (.inr "queue") _ rfl rfl (.of J.t.vw) Gd ?_;refine ⟨.inl ⟨rfl,_,.of uy⟩,?_⟩;walk_at"";refine B1 I.q _ _ rfl rfl uy (by rw [T7,Uc];omega) ?_;rw [show S.q.map V.str++[V.str lo.num]=(S.q++[lo.num]).map V.str by rw [Uy];rfl];obtain ⟨t6,p6⟩:=J.pQ (S.q++[lo.num]);generalize upd B I.q (.lst ((S.q++[lo.num]).map V.str))=B at t6 p6 ⊢;walk_at"";refine ⟨Ax,λb nb=>?_⟩;have s6:=(Ai.refl B).upd (o:=.tup [.str "rests",.str ln.num]) nb;have e6:(upd B b (.tup [.str "rests",.str ln.num])) b=some (.tup [.str "rests",.str ln.num]):=Al;generalize upd B b (.tup [.str "rests",.str ln.num])=H6 at s6 e6 ⊢;walk_at"";refine ⟨Ax,λc nc=>?_⟩;have O:=(Ai.refl H6).upd (o:=.tup [.str "waits",.str lo.num]) nc;have e7:(upd H6 c (.tup [.str "waits",.str lo.num])) c=some (.tup [.str "waits",.str lo.num]):=Al;generalize upd H6 c (.tup [.str "waits",.str lo.num])=H7 at O e7 ⊢;refine ⟨Ax,λr Y=>?_⟩;have p8:Ah H7 (upd H7 r (.lst [.ref b,.ref c])):=.new Y;refine q _ { I with qs:=S.q++[lo.num] } r [b,c] ((t6.same (s6.trans O)).new Y) (e5.trans lR) (iI.trans (p4.trans (p5.trans (p6.trans ((Ah.of (s6.trans O)).trans p8))))) ?_;have:(Bq S j lo).1=.tuple [.str "waits",.str lo.num]:=by unfold Bq;rw [if_pos ls]
     rw [this];exact ⟨.cons (.tup (.of (p8.t (O _ _ e6))) (.cons (.str _) (.cons (.str _) .nil))) (.cons (.tup (.of (p8.t e7)) (.cons (.str _) (.cons (.str _) .nil))) .nil),rfl⟩
  clear hC
  have vq:=t.q;walk_at"";refine Ao W.w _ (.inr "queue") _ rfl rfl (.of t.t.vw) Gd ?_;refine Ue (DL W.q _ rfl (.inl (.of vq)) rfl (AhN _) ?_);rw [Kj];by_cases m:ln.num∈S.q
  .rw [decide_eq_true m];walk_at"";refine Ao W.w _ (.inr "queue") _ rfl rfl (.of t.t.vw) Gd ?_;refine ⟨.inl ⟨rfl,_,.of vq⟩,?_⟩;walk_at"";refine Ue (B1 W.q S.q ln.num rfl rfl vq m ?_);obtain ⟨t1,p1⟩:=t.pQ (S.q.erase ln.num);exact mid _ { W with qs:=S.q.erase ln.num } (by unfold au;rw [if_pos (aL.mp m)];exact t1) rfl p1
  .rw [decide_eq_false m];walk_at"";exact mid H W (by unfold au;rw [if_neg (λe=>m (aL.mpr e))];exact t) rfl .refl
structure TxtW (P:Ub)(w:T6)(K:T3)(mg:Str->Option Value)(a:Aq):Prop extends TxtG P w K mg a where
 uz:mg "str"=none
def S3 (K:T3):Sp:=λvs H Q _=>∃(W:VW)(S:PS)(R:AH)(d:LW)(z:Str),vs=[.ref W.w,.str d.wo,.str z]/\WT K H W S R/\WF S /\
 match S.lns[Bp S.lns z]? with
 | none=>Q (.str "NoLine") H
 | some ln=>(d.fits ln=false->∀ H',Ai H H'->Q (.str "NotSo") H')/\(d.fits ln=true->∀ H' W' r xs,WT K H' W' (d.go S (Bp S.lns z) ln).2 ((r,.lst (xs.map V.ref)) :: R)->W'.w=W.w->Ah H H'->BC K H' xs (d.go S (Bp S.lns z) ln).1->Q (.ref r) H')
theorem AhP {ln:Ln}(z:Zr ln)(f:ln.ag=none)(st:Str):AI ln st={ ln with st:=st }:=by obtain ⟨a,b,c,d,e,g,h⟩:=ln;obtain ⟨B,z2,D⟩:=AD z;cases B;cases z2;cases D;cases f;rfl
theorem Nl {d:LW}{ln:Ln}{v:Bh}(e:ln.st=v.s)(n:v.s ∉ d.cv):d.fits ln=false:=by unfold LW.fits;rw [e,decide_eq_false n];rfl
theorem Nn {d:LW}{ln:Ln}{v:Bh}(e:ln.st=v.s)(m:v.s∈d.cv)(g:True):d.fits ln=true:=by unfold LW.fits;rw [e,decide_eq_true m];rfl
theorem S4:AR ["world","word","line","way","other"] ["world","word","line"] (Ab (top 54)):=.of
theorem Dw:Nm (Ab (top 54)) "world":=.of
theorem IJ:Nm (Ab (top 54)) "word":=.of
theorem Dc:Nm (Ab (top 54)) "line":=.of
theorem Ge:Nm (Ab (top 54)) "way":=.of
theorem Np:Nm (Ab (top 54)) "other":=.of
theorem AhQ:Gm (Ab (top 54)) "_law_gap":=.of
theorem AhR:Gm (Ab (top 54)) "_law_ended":=.of
theorem AhS:Gm (Ab (top 54)) "_law_hang":=.of
theorem AhT (F:AM K "_law_at_line" "_law_at_line" (top 54) f fd)(pM:BB P w K mg base AB 2 "_law_hang" ["world","line"] (Nj K))(pN:BB P w K mg base AB 2 "_law_ended" ["world","line","why"] ES)(pO:BB P w K mg base AB 3 "_law_gap" ["world","line"] ES):AF P w K mg base AB 4 f fd ["world","word","line"] (S3 K):=by
 refine F.ok S4 λah A outer s H vs Q E hr h=>?_
 .replace h:=Et h;obtain ⟨W,S,R,d,z,rfl,t,wf,q⟩:=h
  have hu:=hr.units;have nd:=S4.nd;refine ⟨_,(@Aj _ _ _ _ _ (A1 3 nd Ge (Ac6 (U5 (Vb (by decide) _) hu) (Az P w K (Aa 0 Dw) Ak) (Aa 2 Dc) Ak ⟨rfl,rfl,rfl,rfl⟩))
    (Aj (Ba (A5 (B7 hu) (Aa 3 Ge) Ak (Bb _)) (An (AO Ak)) Be)
    (Aj (Ba (PW.pt (FD (A5 (B7 hu) (Aa 1 IJ) Ak (Bb _)) (Gk (A5 (B7 hu) (Aa 3 Ge) Ak (Bb _))))) (Aj (A1 4 nd Np (Az P w K (Az P w K (Aa 0 Dw) Ak) (Aa 2 Dc)))
     (Aj (CD (U5 (Vb (by decide) _) hu) (Az P w K (Aa 0 Dw) Ak) (Aa 2 Dc) Ak rfl)
     (Aj (CD (U5 (Vb (by decide) _) hu) (Az P w K (Aa 0 Dw) Ak) (Aa 4 Np) Ak rfl)
     (An (AO (A0 (Ac (BN (Ac Ak (Ac (Aa 4 Np) (Ac (Aa 2 Dc) Ae)))) Ae))))))) Be)
    (Aj (Ba (PW.pt (FD (A5 (B7 hu) (Aa 1 IJ) Ak (Bb _)) (Gk (A5 (B7 hu) (Aa 3 Ge) Ak (Bb _))))) (Aj (CD (U5 (Vb (by decide) _) hu) (Az P w K (Aa 0 Dw) Ak) (Aa 2 Dc) Ak rfl)
     (Aj (Bi (Cm Ve Vy Vz C7 (Az P w K (Aa 0 Dw) Ak) (Ac (Aa 2 Dc) Ae)))
     (An (AO (A0 (Ac (BN (Ac Ak (Ac (Aa 2 Dc) Ae))) Ae)))))) Be)
    (Aj (Ba (PW.pt (FD (A5 (B7 hu) (Aa 1 IJ) Ak (Bb _)) (Gk (A5 Jr (Aa 3 Ge) (BN (Ac Ak (Ac Ak Ae))) (by with_unfolding_all rfl))))) (An (AO (Bx pM AhS hr.d A3 (Ac (Aa 0 Dw) (Ac (Aa 2 Dc) Ae))))) Be)
    (Aj (Ba (PW.pt (FD (A5 (B7 hu) (Aa 1 IJ) Ak (Bb _)) (Gk (A5 (B7 hu) (Aa 3 Ge) Ak (Bb _))))) (Aj (AcX (U5 (Vb (by decide) _) hu) (Az P w K (Aa 0 Dw) Ak) (Aa 2 Dc) Am Abd (by intros;rfl))
     (Aj (Ba (A5 K6 (Az P w K (Az P w K (Aa 0 Dw) Ak) (Aa 2 Dc)) Am (Bb _)) (An (AO (A0 Ae))) Be)
     (Aj (Bi (Bx pN AhR hr.d A3 (Ac (Aa 0 Dw) (Ac (Aa 2 Dc) (Ac (BN (Ac Ak (Ac (Az P w K (Az P w K (Aa 0 Dw) Ak) (Aa 2 Dc)) Ae))) Ae)))))
     (An (AO (A0 (Ac (BN (Ac Ak (Ac (Aa 2 Dc) (Ac (Az P w K (Az P w K (Aa 0 Dw) Ak) (Aa 2 Dc)) Ae)))) Ae))))))) Be)
    (Aj (Ba (PW.pt (FD (A5 (B7 hu) (Aa 1 IJ) Ak (Bb _)) (FD (A5 (B7 hu) (Aa 3 Ge) Ak (Bb _)) (Gk (A5 Jc (Az P w K (Az P w K (Aa 0 Dw) Ak) (Aa 2 Dc)) Am (Bb _)))))) (An (AO (A0 (Ac (Bx pO AhQ hr.d A3 (Ac (Aa 0 Dw) (Ac (Aa 2 Dc) Ae))) Ae)))) Be)
    (An (AO Ak))))))))),?_⟩
  try dsimp only [av,aw]
  have aS:AW ["world","word","line","way","other"] [V.ref W.w,V.str d.wo,V.str z]=[some (.ref W.w),some (.str d.wo),some (.str z),none,none]:=rfl;simp only [aS,VM,VN];walk_at"";refine Ao W.w _ (.inr "way") _ rfl rfl (.of t.t.vw) EU ?_;refine DY W.way rfl (.inl ⟨_,.inl t.t.dD⟩) ?_;walk_at"";refine ⟨_,.k (k:=.inr z) t.t.dD,?_⟩;by_cases m:z∈S.lns.map (·.num)
  .obtain ⟨i,ln,h,rfl⟩:=AQ (wf.g.at m);have ei:=GS wf h;rw [ei,h] at q;obtain ⟨qn,qy⟩:=q;have L:=wf.l i ln h;have mz:ln.num∈W.zs:=t.ok.fU h;have lv:=t.ok.l i ln h;rw [D7 mz,lv.way];obtain ⟨v,J,y⟩:=Ag L.wy;rw [J];cases d with
   | lift =>
    cases v with
    | rests =>
     obtain ⟨y1,y2,y3,y4⟩:=AD y;have q:=qy (Nn J (by decide +kernel) (by first | trivial | exact λc=>nomatch c));have eD:LW.go .lift S i ln=([.tuple [.str "waits",.str ln.num]],EN S i ln):=by show ([(BY S i ln).1],(BY S i ln).2)=_;rw [show BY S i ln=_ from if_pos J]
     rw [eD] at q;have fm:=wf.g.fm;walk_at"";refine Ao W.w _ (.inr "way") _ rfl rfl (.of t.t.vw) EU ?_;walk_at"";refine AU W.way _ rfl (.k (k:=.inr ln.num) t.t.dD (Em t.ok.zl)) ?_;rw [ET mz];obtain ⟨O,p1⟩:=t.lK h "waits";rw [<- AhP y4 y2] at O;generalize upd H W.way (.dK (dS W.zs (Bd W.ay ln.num (.str "waits"))))=B at O p1 ⊢;have w1:B W.w=some (.dK W.kv):=O.t.vw;have q1:B W.q=some (.lst (S.q.map V.str)):=O.q;walk_at"";refine Ao W.w _ (.inr "queue") _ rfl rfl (.of w1) Gd ?_;refine ⟨.inl ⟨rfl,_,.of q1⟩,?_⟩;walk_at"";refine B1 W.q _ _ rfl rfl q1 (by rw [T7,Uc];omega) ?_;rw [show S.q.map V.str++[V.str ln.num]=(S.q++[ln.num]).map V.str by rw [Uy];rfl];obtain ⟨D,I⟩:=O.pQ (S.q++[ln.num]);have D:WT K (upd B W.q (.lst ((S.q++[ln.num]).map V.str))) { W with ay:=Bd W.ay ln.num (.str "waits"),qs:=S.q++[ln.num] } (EN S i ln) R:=D;have I:Ah B (upd B W.q (.lst ((S.q++[ln.num]).map V.str))):=I;generalize upd B W.q (.lst ((S.q++[ln.num]).map V.str))=Y at D I ⊢;walk_at"";refine ⟨Ax,λb nb=>?_⟩;have s3:=(Ai.refl Y).upd (o:=.tup [.str "waits",.str ln.num]) nb;have e3:(upd Y b (.tup [.str "waits",.str ln.num])) b=some (.tup [.str "waits",.str ln.num]):=Al;generalize upd Y b (.tup [.str "waits",.str ln.num])=H3 at s3 e3 ⊢;refine ⟨Ax,λr nr=>?_⟩;have p4:Ah H3 (upd H3 r (.lst [.ref b])):=.new nr;exact q _ _ r [b] ((D.same s3).new nr) rfl (p1.trans (I.trans ((Ah.of s3).trans p4))) (.one (.tup (.of (p4.t e3)) (.cons (.str _) (.cons (.str _) .nil))) rfl)
    | cQ =>
     obtain ⟨y1,y2,j,lo,hj,nj,f1,f2,f3⟩:=AD y;have q:=qy (Nn J (by decide +kernel) (by first | trivial | exact λc=>nomatch c));have ej:=GS wf hj;have eD:LW.go .lift S i ln=([.tuple [.str "talks",.str lo.num,.str ln.num]],{ S with lns:=(S.lns.set i { ln with st:="talks" }).set j { lo with st:="talks" } }):=by show ([(BY S i ln).1],(BY S i ln).2)=_;rw [Sb (Bh.ne (u:=.rests) J (λc=>nomatch c)) f1 (by rw [ej];exact hj),ej,Y5 _ _ nj]
     rw [eD] at q;have fv:W.aW ln.num=.str lo.num:=by rw [lv.ag,f1];rfl
     have mzo:lo.num∈W.zs:=t.ok.fU hj;walk_at"";refine Ao W.w _ (.inr "end") _ rfl rfl (.of t.t.vw) Ku ?_;walk_at"";refine Ao W.ag _ (.inr ln.num) _ rfl rfl (.of t.t.jS) (D7 mz) ?_;rw [fv];walk_at"";refine Ao W.w _ (.inr "way") _ rfl rfl (.of t.t.vw) EU ?_;walk_at"";refine AU W.way _ rfl (.k (k:=.inr ln.num) t.t.dD (Em t.ok.zl)) ?_;rw [ET mz];obtain ⟨O,p1⟩:=t.lK h "talks";generalize upd H W.way (.dK (dS W.zs (Bd W.ay ln.num (.str "talks"))))=B at O p1 ⊢;have w1:B W.w=some (.dK W.kv):=O.t.vw;have hj1:(S.lns.set i { ln with st:="talks" })[j]?=some lo:=Fv hj nj.symm;walk_at"";refine Ao W.w _ (.inr "way") _ rfl rfl (.of w1) EU ?_;walk_at"";refine AU W.way _ rfl (.k (k:=.inr lo.num) O.t.dD (Em t.ok.zl)) ?_;rw [ET mzo];obtain ⟨D,I⟩:=O.lK hj1 "talks";have D:WT K (upd B W.way (.dK (dS W.zs (Bd (Bd W.ay ln.num (.str "talks")) lo.num (.str "talks"))))) { W with ay:=Bd (Bd W.ay ln.num (.str "talks")) lo.num (.str "talks") } { S with lns:=(S.lns.set i { ln with st:="talks" }).set j { lo with st:="talks" } } R:=D;have I:Ah B (upd B W.way (.dK (dS W.zs (Bd (Bd W.ay ln.num (.str "talks")) lo.num (.str "talks"))))):=I;generalize upd B W.way (.dK (dS W.zs (Bd (Bd W.ay ln.num (.str "talks")) lo.num (.str "talks"))))=Y at D I ⊢;walk_at"";refine ⟨Ax,λb nb=>?_⟩;have s3:=(Ai.refl Y).upd (o:=.tup [.str "talks",.str lo.num,.str ln.num]) nb;have e3:(upd Y b (.tup [.str "talks",.str lo.num,.str ln.num])) b=some (.tup [.str "talks",.str lo.num,.str ln.num]):=Al;generalize upd Y b (.tup [.str "talks",.str lo.num,.str ln.num])=H3 at s3 e3 ⊢;refine ⟨Ax,λr nr=>?_⟩;have p4:Ah H3 (upd H3 r (.lst [.ref b])):=.new nr;exact q _ _ r [b] ((D.same s3).new nr) rfl (p1.trans (I.trans ((Ah.of s3).trans p4))) (.one (.tup (.of (p4.t e3)) (.cons (.str _) (.cons (.str _) (.cons (.str _) .nil)))) rfl)
    | _ =>
     walk_at"";exact qn (Nl J (by decide +kernel)) H (Ai.refl H)
   | bz =>
    have tail:∀(B:Hp),Ai H B->v.s∈LW.bz.cv->Nj K [.ref W.w,.str ln.num] B Q E0:=λB s1 m=>⟨W,S,R,i,ln,rfl,t.same s1,wf,h,by rw [J];exact m,λY W2 r xs D e2 I td=>qy (Nn J m (by first | trivial | exact λc=>nomatch c)) Y W2 r xs D e2 ((Ah.of s1).trans I) td⟩;cases v with
    | rests =>
     walk_at"";refine ⟨Ax,λu nu=>?_⟩;refine Ue (DL u _ rfl (.inr (.of Al)) rfl rfl ?_);walk_at"";exact qn (Nl J (by decide +kernel)) _ ((Ai.refl H).upd nu)
    | cQ =>
     walk_at"";refine ⟨Ax,λu nu=>?_⟩;refine Ue (DL u _ rfl (.inr (.of Al)) rfl rfl ?_);walk_at"";exact qn (Nl J (by decide +kernel)) _ ((Ai.refl H).upd nu)
    | _ =>
     walk_at"";refine ⟨Ax,λu nu=>?_⟩;refine Ue (DL u _ rfl (.inr (.of Al)) rfl rfl ?_);walk_at"";dsimp only [Cd];exact tail _ ((Ai.refl H).upd nu) (by decide +kernel)
  .rw [RH m] at q;rw [MZ (λc=>m ((t.ok.zs z).mp c))];walk_at"";exact q
noncomputable def Er.nm:Er->Str
 | .gJ=>"NoLine" | .fR=>"NoSwitch" | .jL=>"NotSo"
def S5 (K:T3):Sp:=λvs H Q _=>∃(W:VW)(S:PS)(R:AH)(d:A8)(dd:Addr),vs=[.ref W.w,.ref dd]/\WT K H W S R/\WF S/\H dd=some (.tup d.vals)/\S.dn.length<1000000 /\
 match d.res S with
 | .inl e=>∀ H',Ai H H'->Q (.str e.nm) H'
 | .inr r=>∀ H' W' p xs,WT K H' W' (B3 (Cs r.2 dd)).2 ((p,.lst (xs.map V.ref)) :: R)->W'.w=W.w->Ah H H'->BC K H' xs (r.1++(B3 (Cs r.2 dd)).1)->Q (.ref p) H'
theorem S6 {S:PS}{z:Str}:Cg S z=(Bc S z).map (·.1):=by
 unfold Cg Bc;split
 .rfl
 .cases Cf S z<;>rfl
theorem AhU {S:PS}{b:Bool}{w:Str}{k:Int}{r:List V×List Bool×List Int}(B:Bc S w=some r):Bc (BQ S b w k) w=some (r.1,r.2.1.set k.toNat b,r.2.2)/\∀ u,u≠w->Bc (BQ S b w k) u=Bc S u:=by
 unfold Bc at B ⊢;unfold BQ;by_cases c:w=Ud ""
 .rw [if_pos c] at B;cases B;refine ⟨by rw [if_pos c,if_pos c],λu n=>?_⟩;rw [if_pos c,if_neg (λd=>n (d.trans c.symm)),if_neg (λd=>n (d.trans c.symm))];rfl
 .rw [if_neg c] at B;obtain ⟨g,D,rfl⟩:=Ag (UX.mp B);refine ⟨?_,λu n=>?_⟩
  .rw [if_neg c,if_neg c,F7 (h:=λg=>{ g with js:=g.js.set k.toNat b }) λ_=>rfl,D];simp only [Vw,if_true]
  .rw [if_neg c,F7 (h:=λg=>{ g with js:=g.js.set k.toNat b }) λ_=>rfl];by_cases d:u=Ud ""
   .rw [if_pos d,if_pos d]
   .rw [if_neg d,if_neg d];cases Cf S u with
    | none=>rfl
    | some g=>rw [Vw,if_neg n]
theorem AhV (S:PS)(b:Bool)(w:Str)(k:Int):(BQ S b w k).sk.mark=S.sk.mark/\(BQ S b w k).sk.st=S.sk.st/\(BQ S b w k).sk.wt=S.sk.wt:=by unfold BQ;split<;>exact ⟨rfl,rfl,rfl⟩
theorem WT.bf {H:Hp}{W:VW}{S:PS}{R:AH}(t:WT K H W S R){j:Nat}{e:AA}(B:W.rk[j]?=some e){r:List V×List Bool×List Int}(D:Bc S e.w=some r)(b:Bool)(k:Int):WT K (upd H e.ja (.lst (e.js.set k.toNat (.bl b)))) { W with rk:=W.rk.set j { e with js:=e.js.set k.toNat (.bl b) } } (BQ S b e.w k) R/\Ah H (upd H e.ja (.lst (e.js.set k.toNat (.bl b)))):=by obtain ⟨f1,f2,J⟩:=t.ok.r e (Uw B) r D;obtain ⟨L,O⟩:=AhU (b:=b) (k:=k) D;obtain ⟨Y,j2,j3,j4⟩:=AD (Gb (S:=S) (b:=b) (z:=e.w) (k:=k));obtain ⟨j5,j6,j7⟩:=AD (AhV S b e.w k);have I:Ah H (upd H e.ja (.lst (e.js.set k.toNat (.bl b)))):=.chg (t.t.lE B) rfl;exact ⟨⟨t.t.sJs B _,(t.ok.ai I).gI (e':={ e with js:=e.js.set k.toNat (.bl b) }) B rfl Y j2 j4 j3 (t.ok.ma.trans j5.symm) (t.ok.sp.trans j6.symm) (t.ok.st.trans j7.symm) L O ⟨f1,by show e.js.set _ _=(r.2.1.set _ _).map V.bl;rw [Vn,f2],J⟩⟩,I⟩
theorem S7:AR ["world","deed","told"] ["world","deed"] (Ab (top 55)):=.of
theorem G4:Nm (Ab (top 55)) "world":=.of
theorem Eo:Nm (Ab (top 55)) "deed":=.of
theorem IK:Nm (Ab (top 55)) "told":=.of
theorem AhW:Gm (Ab (top 55)) "_law_tones":=.of
theorem AhX:Gm (Ab (top 55)) "isinstance":=.of
theorem AhY:Gm (Ab (top 55)) "str":=.of
theorem AhZ:Gm (Ab (top 55)) "len":=.of
theorem Ah0:Gm (Ab (top 55)) "_law_at_line":=.of
theorem Ah1 (F:AM K "_law_due" "_law_due" (top 55) f fd)(T:TxtW P w K mg a)(pP:BB P w K mg base AB 4 "_law_at_line" ["world","word","line"] (S3 K))(pR:BB P w K mg base AB 2 "_law_tones" ["world"] (SM K)):AF P w K mg base AB 5 f fd ["world","deed"] (S5 K):=by
 refine F.ok S7 λah A outer s H vs Q E hr h=>?_
 .replace h:=Dm h;obtain ⟨W,S,R,d,D,rfl,t,wf,bS,dz,q⟩:=h
  have hu:=hr.units;have nd:=S7.nd;refine ⟨_,(@Aj _ _ _ _ _ (Ba (A5 HI (AK AL (Aa 1 Eo) Am (λ_ _=>rfl)) (BN (Ac Ak (Ac Ak Ae))) (by with_unfolding_all rfl)) (Aj (Ba (PW.pt (Hn (A5 (LS (P:=P) (w:=w) (K:=K)) (AK AL (Aa 1 Eo) Am (λ_ _=>rfl)) (Az P w K (Aa 0 G4) Ak) (by with_unfolding_all rfl)) (Hm (DS (AaV K7 K6 Am (AK AL (Aa 1 Eo) Am (λ_ _=>rfl)) (BG Cp AhZ T.n_len Ca (Ac (Az P w K (Az P w K (Aa 0 G4) Ak) (AK AL (Aa 1 Eo) Am (λ_ _=>rfl))) Ae))))))) (An (AO Ak)) Be)
     (Aj (DU (Gp (B7 hu) (AK AL (Aa 1 Eo) Am (λ_ _=>rfl)) Ak (Bb _)) (EA (Az P w K (Az P w K (Aa 0 G4) Ak) (AK AL (Aa 1 Eo) Am (λ_ _=>rfl))) (AK AL (Aa 1 Eo) Am (λ_ _=>rfl)) DA))
     (An (A1 2 nd IK (A0 Ae))))) (An (A1 2 nd IK (Bx pP Ah0 hr.d A3 (Ac (Aa 0 G4) (Ac (AK AL (Aa 1 Eo) Am (λ_ _=>rfl)) (Ac (AK AL (Aa 1 Eo) Am (λ_ _=>rfl)) Ae)))))))
    (Aj (Ba (Dy (BG Pb AhX T.ni Pc (Ac (Aa 2 IK) (Ac (Pd (v:=.ty "str") AhY T.uz Acr rfl) Ae)))) (An (AO (Aa 2 IK))) Be)
    (Aj (Bi (Cm Ve Vy Vz C7 (Az P w K (Aa 0 G4) Ak) (Ac (Aa 1 Eo) Ae)))
    (An (AO (As BL (Aa 2 IK) (Bx pR AhW hr.d A3 (Ac (Aa 0 G4) Ae)))))))),?_⟩
  try dsimp only [av,aw]
  have aS:AW ["world","deed","told"] [V.ref W.w,V.ref D]=[some (.ref W.w),some (.ref D),none]:=rfl;simp only [aS,VM,VN];refine ER λC hC=>?_;have rest:∀(I:List PyData×PS),d.res S=.inr I->∀(B:Hp)(Y:VW)(r:Addr)(xs:List Addr),WT K B Y I.2 ((r,.lst (xs.map V.ref)) :: R)->Y.w=W.w->Ah H B->BC K B xs I.1->C [some (.ref W.w),some (.ref D),some (.ref r)] B:=by
   intro I er B Y r xs t2 ew p2 td;rw [er] at q;obtain ⟨bA,pS,tz⟩:=AD (wf.res er);rw [hC,<- ew];have vd:B Y.dn=some (.lst I.2.dn):=by rw [<- t2.ok.ds];exact t2.t.tN
   walk_at"";refine Uh (C8 _ _ _ _ false rfl ⟨.of (.lst t2.t.bW.hd),rfl,rfl,?_⟩);walk_at"";refine Ao Y.w _ (.inr "done") _ rfl rfl (.of t2.t.vw) Sq ?_;refine ⟨.inl ⟨rfl,_,.of vd⟩,?_⟩;walk_at"";refine B1 Y.dn _ _ rfl rfl vd (by rw [Uc,pS];omega) ?_;have p3:Ah B (upd B Y.dn (.lst (I.2.dn++[.ref D]))):=.chg vd rfl;have t3:WT K (upd B Y.dn (.lst (I.2.dn++[.ref D]))) { Y with ds:=I.2.dn++[.ref D] } (Cs I.2 D) ((r,.lst (xs.map V.ref)) :: R):=⟨t2.t.sDn _,(t2.ok.ai p3).oU _⟩;generalize upd B Y.dn (.lst (I.2.dn++[.ref D]))=H3 at t3 p3 ⊢;have pw:WF (Cs I.2 D):=bA.dn (d:=I.2.dn++[V.ref D]);walk_at"";dsimp only [Cd];refine ⟨{ Y with ds:=I.2.dn++[.ref D] },Cs I.2 D,_,rfl,t3,pw,λH4 W4 r4 dy lR t4 p4 iz=>?_⟩;have iA:H4 r4=some (.lst (dy.map V.ref)):=t4.t.bW.hd;have du:H4 r=some (.lst (xs.map V.ref)):=t4.t.bW.tl.hd;have jM:=td.ai (p3.trans p4);have f1:=jM.len;have f2:=iz.len;have f3:(B3 (Cs I.2 D)).1.length<=60:=U7 (MN _ _) bA.g.fm;walk_at"";refine Ue (Ue (Bn r r4 _ _ rfl rfl du iA (by rw [T7,T7,Uc];omega) (λp np=>?_)));rw [<- Uy];have t5:=(t4.new (u:=.lst ((xs++dy).map V.ref)) np).sub (R':=(p,.lst ((xs++dy).map V.ref)) :: R) (.cons₂ _ (.cons _ (.cons _ (.refl _))));have p5:Ah H4 (upd H4 p (.lst ((xs++dy).map V.ref))):=.new np;exact q _ W4 p (xs++dy) t5 (lR.trans ew) (p2.trans (p3.trans (p4.trans p5))) ((jM.app iz).ai p5)
  have L:∀(e:Er),d.res S=.inl e->∀(B:Hp),Ai H B->C [some (.ref W.w),some (.ref D),some (.str e.nm)] B:=by intro e ee B s2;rw [ee] at q;rw [hC];walk_at"";refine Uh (C8 _ _ _ _ true rfl ⟨.of (.str _),rfl,rfl,?_⟩);walk_at"";exact q B s2
  clear hC
  cases d with
  | bf b z k =>
   have J:A8.res S (.bf b z k)=.inl .fR->∀ B,Ai H B->Q (.str "NoSwitch") B:=λe B s2=>by rw [e] at q;exact q B s2
   clear q
   walk_at"";refine Ue (Uh (Ao D _ _ _ rfl rfl (.of bS) rfl ?_));walk_at"";refine ⟨Ax,λu nu=>?_⟩;have O:=(Ai.refl H).upd (o:=.tup [.str "stick",.str "mend"]) nu;have eu:(upd H u (.tup [.str "stick",.str "mend"])) u=some (.tup [.str "stick",.str "mend"]):=Al;generalize upd H u (.tup [.str "stick",.str "mend"])=H1 at O eu ⊢;refine Ue (DL u _ rfl (.inr (.of eu)) rfl rfl ?_);have ei:Ee (.str (F4 b)) [V.str "stick",V.str "mend"]=true:=by cases b<;>rfl
   rw [ei];have t1:=t.same O;have d1:=O _ _ bS;walk_at"";refine Ue (Uh (Ao D _ _ _ rfl rfl (.of d1) rfl ?_));walk_at"";refine Ao W.w _ (.inr "held") _ rfl rfl (.of t1.t.vw) Fx ?_;refine Bm W.bV _ (.inr z) rfl rfl (.of t1.t.fT) ?_;cases er:Bc S z with
   | none =>
    have no:z ∉ W.rk.map (·.w):=λc=>by have:=(t.ok.rz z).mp c;rw [er] at this;cases this
    rw [show AS (A9 AA.ha W.rk) (.inr z)=none from Kt (n:=AA.w) (g:=λe=>V.ref e.ha) no];walk_at"";exact J (by simp only [A8.res,S6,er,xf]) H1 O
   | some r =>
    obtain ⟨j,e,hj,rfl,e1,e2,e3⟩:=Dl (t.ok.find er);obtain ⟨l1,_,_⟩:=AD (M6 wf.g er);have hv:=D8 t hj AA.ha;have hjv:=D8 t hj AA.ja;have hl:e.hs.length=r.1.length:=by rw [e1,Kv]
    have hjl:e.js.length=r.1.length:=by rw [e2,T7,l1]
    rw [hv];walk_at"";refine Ue (Uh (Ao D _ _ _ rfl rfl (.of d1) rfl ?_));walk_at"";have iJ:A8.res S (.bf b e.w k)=if Cz k r.1=true then .inr ([],BQ S b e.w k) else .inl .fR:=by simp only [A8.res,S6,er,Vw]
    by_cases k0:0<=k
    .refine EC (decide_eq_true k0) ?_;walk_at"";refine Ao W.w _ (.inr "held") _ rfl rfl (.of t1.t.vw) Fx ?_;walk_at"";refine Ue (Uh (Ao D _ _ _ rfl rfl (.of d1) rfl ?_));refine Ao W.bV _ (.inr e.w) _ rfl rfl (.of t1.t.fT) hv ?_;walk_at"";refine Ue (AU e.ha _ rfl (.inl (.of (t1.t.gP hj))) ?_);rw [hl];walk_at"";by_cases k1:k<(r.1.length:Int)
     .rw [if_pos (Ei.mpr ⟨k0,k1⟩)] at iJ;rw [decide_eq_true k1];walk_at"";refine Ue (Uh (Ao D _ _ _ rfl rfl (.of d1) rfl ?_));walk_at"";refine Ao W.w _ (.inr "stuck") _ rfl rfl (.of t1.t.vw) M0 ?_;walk_at"";refine Ue (Uh (Ao D _ _ _ rfl rfl (.of d1) rfl ?_));refine Ao W.bJ _ (.inr e.w) _ rfl rfl (.of t1.t.o8) hjv ?_;walk_at"";refine Ue (Uh (Ao D _ _ _ rfl rfl (.of d1) rfl ?_));refine Bw (t1.t.lE hj) (G0 k0 (by rw [hjl];exact k1)) ?_;have eb:decide (V.str (F4 b)=V.str "stick")=b:=by cases b<;>decide +kernel
      rw [eb];obtain ⟨t2,p2⟩:=t1.bf hj er b k;generalize upd H1 e.ja (.lst (e.js.set k.toNat (.bl b)))=B at t2 p2 ⊢;walk_at"";refine ⟨Ax,λI nr=>?_⟩;exact rest _ iJ _ _ I [] (t2.new nr) rfl ((Ah.of O).trans (p2.trans (.new nr))) .nil
     .rw [if_neg (λc=>k1 (Ei.mp c).2)] at iJ;rw [decide_eq_false k1];walk_at"";exact J iJ H1 O
    .rw [if_neg (λc=>k0 (Ei.mp c).1)] at iJ;refine ED (decide_eq_false k0) ?_;walk_at"";exact J iJ H1 O
  | line d z =>
   walk_at"";refine Ue (Uh (Ao D _ _ _ rfl rfl (.of bS) rfl ?_));walk_at"";refine ⟨Ax,λu nu=>?_⟩;have O:=(Ai.refl H).upd (o:=.tup [.str "stick",.str "mend"]) nu;have eu:(upd H u (.tup [.str "stick",.str "mend"])) u=some (.tup [.str "stick",.str "mend"]):=Al;generalize upd H u (.tup [.str "stick",.str "mend"])=H1 at O eu ⊢;refine Ue (DL u _ rfl (.inr (.of eu)) rfl rfl ?_);have ei:Ee (.str d.wo) [V.str "stick",V.str "mend"]=false:=by cases d<;>rfl
   rw [ei];have t1:=t.same O;have d1:=O _ _ bS;walk_at"";refine Ue (Uh (Ao D _ _ _ rfl rfl (.of d1) rfl ?_));walk_at"";refine Ue (Uh (Ao D _ _ _ rfl rfl (.of d1) rfl ?_));dsimp only [Cd];refine C8 W S R d z rfl ⟨t1,wf,?_⟩;cases el:S.lns[Bp S.lns z]? with
   | none=>exact L .gJ (by simp only [A8.res,el]) H1 O
   | some ln =>
    refine ⟨λhf B s2=>L .jL (by simp only [A8.res,el];rw [if_neg (by rw [hf];exact UT)]) B (O.trans s2),λhf B Y r xs t2 e2 p2 td=>rest (d.go S (Bp S.lns z) ln) (by simp only [A8.res,el];rw [if_pos hf]) B Y r xs t2 e2 ((Ah.of O).trans p2) td⟩
structure By (n:Nat)(d:PyData):Prop where
 c:XM d=true
 k:VS d<=n
theorem IL {n:Nat}:∀{ds:List PyData},(∀ d∈ds,By n d)->XJ ds=true/\Xb ds<=n
 | [],_=>⟨rfl,U1 _⟩
 | d :: ds,h=>by
  obtain ⟨B,D⟩:=IL λe m=>h e (UO _ m);have:=h d UY;refine ⟨?_,?_⟩
  .show (XM _ && XJ _)=true;rw [this.c,B];rfl
  .show max (VS d) (Xb ds)<=n;exact v9.mpr ⟨this.k,D⟩
theorem By.tup {n:Nat}{ds:List PyData}(h:∀ d∈ds,By n d):By (n+1) (.tuple ds):=⟨(IL h).1,by rw [SI];exact YH (IL h).2⟩
theorem By.lst {n:Nat}{ds:List PyData}(h:∀ d∈ds,By n d):By (n+1) (.list ds):=⟨(IL h).1,by rw [Kw];exact YH (IL h).2⟩
theorem By.str {n:Nat}{z:Str}(h:Cq z):By n (.str z):=⟨SJ h,by simp [VS]⟩
theorem By.int {n:Nat}(z:Int):By n (.int z):=⟨rfl,by simp [VS]⟩
theorem By.aa {n:Nat}:By n .none:=⟨rfl,by simp [VS]⟩
theorem By.up {n m:Nat}{d:PyData}(h:By n d)(l:n<=m):By m d:=⟨h.c,U7 h.k l⟩
theorem G5 {p:PyData->Prop}{a b:PyData}(B:p a)(D:p b):∀ d∈[a,b],p d:=λd m=>by
 simp only [Uo,UZ,or_false] at m;rcases m with rfl | rfl
 .exact B
 .exact D
theorem Nq {p:PyData->Prop}{a b c:PyData}(B:p a)(D:p b)(h3:p c):∀ d∈[a,b,c],p d:=λd m=>by
 simp only [Uo,UZ,or_false] at m;rcases m with rfl | rfl | rfl
 .exact B
 .exact D
 .exact h3
theorem Ah2 {p:PyData->Prop}{a b c e:PyData}(B:p a)(D:p b)(h3:p c)(H:p e):∀ d∈[a,b,c,e],p d:=λd m=>by
 simp only [Uo,UZ,or_false] at m;rcases m with rfl | rfl | rfl | rfl
 .exact B
 .exact D
 .exact h3
 .exact H
theorem asc {z:Str}(h:Cq z:=by unfold Cq;decide +kernel):Cq z:=h
theorem Gf:Cq (Ud ""):=λc m=>nomatch (show c∈([]:List Nat) from m)
structure DH (ln:Ln):Prop where
 ao:Cq ln.ao
 held:∀ p∈ln.held,Cq p.1
 why:By 3 ln.why
def WX (S:PS):Prop:=∀ ln∈S.lns,DH ln
section
variable {S:PS}{i j:Nat}{ln lo:Ln}
theorem WX.set (h:WX S){y:Ln}(t:DH y):∀ ln∈S.lns.set i y,DH ln:=λln m=>(F8 m).elim (λe=>e▸t) (h ln)
theorem DH.turn (t:DH ln){st:Str}:DH (AI ln st):=⟨Gf,t.held,.aa⟩
theorem DH.rest {st:Str}:DH (AI { ln with held:=[] } st):=⟨Gf,(λp m=>nomatch m),.aa⟩
theorem WX.get (h:WX S)(e:S.lns[i]?=some ln):DH ln:=h ln (Uw e)
theorem WX.gO (h:WX S){x:PyData×PS}(q:DE S)(e:Dk S=some x)(B:∀ z∈S.q,Cq z):WX x.2/\By 1 x.1:=by
 obtain ⟨z,r,k,ln,D,I,H,J,L,rfl⟩:=MD q e;refine ⟨WX.set h ⟨Gf,λp m=>?_,.aa⟩,.tup (Ah2 (.str asc) (.str (B z (by rw [D];exact UY))) (.int _) (.int _))⟩;rcases UU.mp m with m | m
 .exact (h.get H).held p m
 .rw [UL.mp m];exact Gf
theorem WX.aC:∀(n:Nat){S:PS},WF S->WX S->WX (aC n S).2/\∀ d∈(aC n S).1,By 1 d
 | 0,_,_,h=>⟨h,λd m=>nomatch m⟩
 | n+1,S,w,h=>by
  unfold Lw.aC;split
  .exact ⟨h,λd m=>nomatch m⟩
  .rename_i x e
   obtain ⟨B,D⟩:=h.gO w.cV e λz m=>(w.g.tx z (w.g.cC z m)).1.1;obtain ⟨h3,H⟩:=WX.aC n (w.gO e) B;exact ⟨h3,λd m=>(Uo.mp m).elim (λc=>c▸D) (H d)⟩
theorem WX.go (h:WX S)(w:WF S)(e:S.lns[i]?=some ln){d:LW}(f:d.fits ln=true):WX (d.go S i ln).2/\∀ x∈(d.go S i ln).1,By 4 x:=by
 have t:=h.get e;have num:Cq ln.num:=(w.g.tx _ (D6 e)).1.1;have one:∀{a:PyData},By 4 a->∀ x∈[a],By 4 x:=λI x m=>by rw [UL.mp m];exact I
 cases d with
 | lift =>
  show WX (BY S i ln).2/\∀ x∈[(BY S i ln).1],By 4 x;unfold BY;split
  .exact ⟨h.set t.turn,one (.tup (G5 (.str asc) (.str num)))⟩
  .split
   .exact ⟨h,one .aa⟩
   .split
    .exact ⟨h,one .aa⟩
    .rename_i z _ lc ec
     have H:=h.get ec;exact ⟨λx m=>(F8 m).elim (λc=>c▸⟨t.ao,t.held,t.why⟩) (h.set (y:={ lc with st:="talks" }) ⟨H.ao,H.held,H.why⟩ x),one (.tup (Nq (.str asc) (.str (w.g.tx _ (D6 ec)).1.1) (.str num)))⟩
 | bz =>
  have D:WX (au S ln):=by unfold WX;rw [GU];exact h
  have B:WX (BU (au S ln) ln).2/\∀ x∈(BU (au S ln) ln).1,By 4 x:=by
   unfold BU;split
   .exact ⟨D,λx m=>nomatch m⟩
   .split
    .exact ⟨D,λx m=>nomatch m⟩
    .rename_i z _ lo eo
     have no:Cq lo.num:=(w.g.tx _ (D6 (by rw [<- GU (ln:=ln)];exact eo))).1.1;unfold Bq;split
     .refine ⟨?_,one (.tup (G5 (.str asc) (.str no)))⟩;show ∀ x∈((au S ln).lns.set _ _).set _ _,DH x;rw [Vx];exact D.set DH.rest
     .exact ⟨D.set DH.rest,one (.tup (G5 (.str asc) (.str no)))⟩
  refine ⟨B.1.set DH.rest,λx m=>?_⟩;rcases Uo.mp m with rfl | m
  .exact .tup (G5 (.str asc) (.str num))
  .exact B.2 x m
theorem WX.res (h:WX S)(w:WF S){d:A8}{r:List PyData×PS}(e:d.res S=.inr r):WX r.2/\∀ x∈r.1,By 4 x:=by
 cases d with
 | bf b z k =>
  unfold A8.res at e;dsimp only at e;split at e
  .cases e
  .split at e
   .cases e;refine ⟨?_,λx m=>nomatch m⟩;unfold WX;rw [Gb.1];exact h
   .cases e
 | line d z =>
  unfold A8.res at e;dsimp only at e;split at e
  .cases e
  .split at e
   .rename_i ln hl f
    cases e;exact h.go w hl f
   .cases e
theorem WX.next (h:WX S)(w:WF S){d:A8}{r:List PyData×PS}(e:d.res S=.inr r)(dd:Addr):WX (B3 (Cs r.2 dd)).2/\By 5 (.list (r.1++(B3 (Cs r.2 dd)).1)):=by obtain ⟨B,D⟩:=h.res w e;obtain ⟨h3,H⟩:=WX.aC (Cs r.2 dd).q.length (S:=Cs r.2 dd) ((w.res e).1.dn (d:=r.2.dn++[V.ref dd])) B;exact ⟨h3,.lst λx m=>(UU.mp m).elim (D x) λm=>(H x m).up (by decide)⟩
end
def S8 (K:T3)(a:Aq):Sp:=λvs H Q _=>∃(X:HX)(R:AH)(d:A8)(dd:Addr)(r:List PyData×PS),vs=[.ref X.h,.ref dd]/\HT K a H X R/\H dd=some (.tup d.vals)/\WF X.S/\d.txt/\X.dn.length<1000/\d.res X.S=.inr r /\
 ∀ H' X' p xs,HT K a H' X' ((p,.lst (xs.map V.ref)) :: R)->X'.h=X.h->X'.S=(B3 (Cs r.2 dd)).2->Ah H H'->BC K H' xs (r.1++(B3 (Cs r.2 dd)).1)->Q (.ref p) H'
structure Nr (P:Ub)(w:T6)(K:T3)(mg:Str->Option Value)(a:Aq):Prop extends TxtW P w K mg a where
 lS:mg "HallError"=some (.ref a.rN)
theorem S9:AR ["hall","deed","told","kinds","e","some"] ["hall","deed"] (Ab (top 56)):=.of
theorem Ah3:Nm (Ab (top 56)) "hall":=.of
theorem Ah4:Nm (Ab (top 56)) "deed":=.of
theorem Nt:Nm (Ab (top 56)) "told":=.of
theorem Nu:Nm (Ab (top 56)) "kinds":=.of
theorem Ah5:Nm (Ab (top 56)) "e":=.of
theorem Ah6:Nm (Ab (top 56)) "some":=.of
theorem Ah7:Gm (Ab (top 56)) "int":=.of
theorem Ah8:Gm (Ab (top 56)) "HallError":=.of
theorem Ah9 (F:AM K "_law_answer" "_law_answer" (top 56) f fd)(T:Nr P w K mg a)(J:A2 P w K mg base (AJ P w) 9 a.ae "do" ["self","deed"] (RR K a)):AF P w K mg base AB 10 f fd ["hall","deed"] (S8 K a):=by
 refine F.ok S9 λah A outer s H vs Q E hr h=>?_
 .replace h:=Dm h;obtain ⟨X,R,d,L,r,rfl,t,bS,O,tx,dz,er,q⟩:=h
  have hu:=hr.units;have D:=S9.nd;have Y:=T.hc.cls;obtain ⟨bA,pS,tz⟩:=AD (O.res er);have fm:=O.g.fm;refine ⟨_,(@Aj _ _ _ _ _ (A1 2 D Nt Ck)
    (Aj (A1 3 D Nu (A0 Ae))
    (Aj (Acw 4 Ah8 Ah5 T.lS D (λEw pins W hp ho=>(An (A1 2 D Nt (AcK J Y (Aa 0 Ah3) hr.d hp (Ac (Aa 1 Ah4) Ae))))) (λea=>(Aj LZ
     (An LZ))))
    (Aj (Ba (A5 (B7 hu) (Aa 3 Nu) (A0 Ae) (Bb _)) (An (AO (Aa 2 Nt))) Be)
    (Aj LZ
    (An (AO (Cm PySem.F.plainAttrs_str PySem.F.slot_str_join PySem.F.type_str_join AdR Ak (Ac (As BL (Aa 5 Ah6) (As B2 (A0 (Ac Ak Ae)) (Cw LB Ah7 T.kL Lg (Ac (Gp (Ef hu) (Hw Js (Aa 3 Nu) (Hv Am) Hu) (A0 (Ac DR (Ac DR Ae))) (Bb _)) Ae)))) Ae))))))))),?_⟩
  try dsimp only [av,aw]
  have aS:AW ["hall","deed","told","kinds","e","some"] [V.ref X.h,V.ref L]=[some (.ref X.h),some (.ref L),none,none,none,none]:=rfl;simp only [aS,VM,VN];walk_at"";refine ⟨Ax,λl nl=>?_⟩;have t1:=t.new (u:=.lst []) nl;have p1:Ah H (upd H l (.lst [])):=.new nl;generalize upd H l (.lst [])=H1 at t1 p1 ⊢;walk_at"";intro Ew pins;walk_at"";refine Bm X.h X.dx _ rfl t1.t.aA rfl ?_;walk_at"";refine Bn X _ d L rfl t1 (p1.t bS) (O.pre tx) (by show X.S.q.length<1000;omega) ?_;rw [er];refine ⟨bA.cV,(by rw [pS];show X.dn.length<_;omega),tz,λI X2 p xs t2 eh eS p2 td=>?_⟩;have l2:I l=some (.lst []):=t2.t.rest.tl.hd;walk_at"";refine ⟨Ax,λl3 n3=>?_⟩;have B:=(Ai.refl I).upd (o:=.lst []) n3;have e3:(upd I l3 (.lst [])) l3=some (.lst []):=Al;generalize upd I l3 (.lst [])=H3 at B e3 ⊢;refine Ue ⟨.list [],.list [],.lst (.of (B _ _ l2)) .nil,.lst (.of e3) .nil,rfl,rfl,by decide,?_⟩;walk_at"";exact q H3 X2 p xs ((t2.same B).sub (.cons₂ _ (.cons _ (.refl _)))) eh eS (p1.trans (p2.trans (.of B))) (td.ai (.of B))
structure BT (K:T3)(a:Aq)(H:Hp)(X:HX)(W:VW)(R:AH):Prop where
 h:HT K a H X (W.C R)
 w:BA K H W X.S
theorem EW {a:Aq}{X:HX}{R:AH}:AZ a X R=AZ a X []++R:=by unfold AZ;simp only [Vu,Uv]
theorem VW.iK {W:VW}{R:AH}:W.C R=W.C []++R:=by unfold VW.C;simp only [Vu,Uv]
section
variable {K:T3}{a:Aq}{H H':Hp}{X:HX}{W:VW}{R C:AH}
theorem BT.same (t:BT K a H X W R)(s:Ai H H'):BT K a H' X W R:=⟨t.h.same s,t.w.ai (.of s)⟩
theorem At.toW (t:At H (AZ a X (C++W.C R))):At H (W.C (AZ a X (C++R))):=by rw [EW,VW.iK,<- Uv] at t;rw [VW.iK,EW,<- Uv (AZ a X [])];exact t.swap
theorem At.toH (t:At H (W.C (AZ a X (C++R)))):At H (AZ a X (C++W.C R)):=by rw [EW,VW.iK,<- Uv];rw [VW.iK,EW,<- Uv (AZ a X [])] at t;exact t.swap
theorem BT.wt (t:BT K a H X W R):WT K H W X.S (AZ a X R):=⟨At.toW (C:=[]) t.h.t,t.w⟩
end
noncomputable def Ta (p:Str×Int):PyData:=.tuple [.str p.1,.int p.2]
noncomputable def Tb:Option Str->PyData
 | none=>.none
 | some z=>.str z
theorem Nv {K:T3}{H:Hp}:∀{xs:List Addr}{ps:List (Str×Int)},CK H xs ps->aX K H (xs.map V.ref) (ps.map Ta)
 | [],[],_=>.nil
 | [],_ :: _,h=>h.elim
 | _ :: _,[],h=>h.elim
 | _ :: _,_ :: _,h=>.cons (.tup (.of h.1) (.cons (.str _) (.cons (.int _) .nil))) (Nv h.2)
theorem Tc {K:T3}{H:Hp}:∀ f:Option Str,Is K H (Ce f) (Tb f)
 | none=>.aa
 | some z=>.str z
noncomputable def iL (ln:Ln):PyData:=.list [.str ln.st,.str ln.ao,.list (ln.held.map Ta),Tb ln.ag,ln.why]
theorem Aia {S:PS}(w:WF S)(x:WX S){i:Nat}{ln:Ln}(h:S.lns[i]?=some ln):By 5 (iL ln):=by
 have t:=x.get h;have L:=w.l i ln h;obtain ⟨v,D,y⟩:=Ag L.wy;refine .lst λd m=>?_;simp only [Uo,UZ,or_false] at m;rcases m with rfl | rfl | rfl | rfl | rfl
 .rw [D];exact .str v.ok.1
 .exact .str t.ao
 .refine (By.lst (n:=1) λd m=>?_).up (by decide);obtain ⟨p,H,rfl⟩:=Ag (Ur.mp m);exact .tup (G5 (.str (t.held p H)) (.int _))
 .cases hf:ln.ag with
  | none=>exact .aa
  | some z =>
   have B:∀ o,F9 S i ln o->Cq z:=λo ⟨j,lo,I,_,f1,_⟩=>by
    rw [hf] at f1;rw [UK f1];exact (w.g.tx _ (D6 I)).1.1
   refine .str ?_;cases v with
   | rests=>rw [y.2.1] at hf;cases hf
   | bF=>rw [y.2.1] at hf;cases hf
   | cP=>rw [y.1] at hf;cases hf
   | told=>rw [y.2.1] at hf;cases hf
   | rings=>exact B _ y.2
   | cQ=>exact B _ y.2.2
   | dB=>exact B _ y.2
 .exact t.why.up (by decide)
theorem Aib {S:PS}(g:WG S){u:Str}{r:List V×List Bool×List Int}(D:Bc S u=some r):∀ v∈Kl S u r,∃ z,v=.str z/\Cq z:=by
 intro v H;obtain ⟨k,mk,rfl⟩:=Ag (Ur.mp H);have I:=Vr.mp mk;obtain ⟨B,J,L⟩:=M5 g D (Uu I);have e:(if u=Ud "" then r.1.map (DN S) else r.1).getD k .aa=B:=by rw [UM,show (if u=Ud "" then r.1.map (DN S) else r.1)[k]?=some B from J];rfl
 dsimp only;rw [e];rcases L with ⟨_,rfl⟩ | ⟨_,z,rfl,_,O⟩
 .rw [if_pos rfl];split
  .exact ⟨_,rfl,asc⟩
  .exact ⟨_,rfl,asc⟩
 .rw [if_neg (λc=>nomatch c)];exact ⟨z,rfl,O.1⟩
theorem Td:∀{vs:List V},(∀ v∈vs,∃ z,v=.str z/\Cq z)->∃ zs:List Str,vs=zs.map V.str/\∀ z∈zs,Cq z
 | [],_=>⟨[],rfl,λz m=>nomatch m⟩
 | v :: vs,h=>by
  obtain ⟨z,rfl,k⟩:=Ag (h v UY);obtain ⟨zs,rfl,B⟩:=Ag (Td λu m=>h u (UO _ m));exact ⟨z :: zs,rfl,λy m=>(Uo.mp m).elim (λc=>c▸k) (B y)⟩
def Te (K:T3)(a:Aq):Sp:=λvs H Q _=>∃(X:HX)(W:VW)(R:AH)(dl:List Addr)(ds:List PyData),vs=[.ref X.h,.ref W.w]/\BT K a H X W R/\WF X.S/\WX X.S/\X.dn=dl.map V.ref/\BC K H dl ds/\(∀ d∈ds,By 2 d)/\∀ H',Ai H H'->Q (.bl true) H'
theorem Tf:AR ["hall","world","line","way","told","where"] ["hall","world"] (Ab (top 57)):=.of
theorem Ep:Nm (Ab (top 57)) "hall":=.of
theorem DP:Nm (Ab (top 57)) "world":=.of
theorem D9:Nm (Ab (top 57)) "line":=.of
theorem Tg:Nm (Ab (top 57)) "way":=.of
theorem Th:Nm (Ab (top 57)) "told":=.of
theorem IM:Nm (Ab (top 57)) "where":=.of
theorem Aic:Gm (Ab (top 57)) "sorted":=.of
theorem Aid:Gm (Ab (top 57)) "_law_paper":=.of
theorem Aie (F:AM K "_law_shows" "_law_shows" (top 57) f fd)(T:TxtW P w K mg a)(abS:A2 P w K mg base (AJ P w) 2 a.ae "way" ["self","line"] (Fw K a λx=>.str x.l.st))(abT:A2 P w K mg base (AJ P w) 2 a.ae "figures" ["self","line"] (Fw K a λx=>.str x.l.ao))(abU:A2 P w K mg base (AJ P w) 2 a.ae "holds" ["self","line"] (RT K a))(abV:A2 P w K mg base (AJ P w) 2 a.ae "other" ["self","line"] (Fw K a λx=>Ce x.l.ag))(abW:A2 P w K mg base (AJ P w) 2 a.ae "told_paper" ["self","line"] (Fw K a λx=>x.wv))(abX:A2 P w K mg base (AJ P w) 2 a.ae "paper" ["self","where"] (RW K a))(abY:A2 P w K mg base (AJ P w) 2 a.ae "shares" ["self","where"] (RV K a))(abZ:A2 P w K mg base AB 1 a.ae "waiting" ["self"] (GN K a λX=>X.q.map V.str))(oO:A2 P w K mg base AB 2 a.ae "steps" ["self"] (GN K a λX=>X.sk.k.wt.map V.int))(ab0:A2 P w K mg base AB 1 a.ae "deeds" ["self"] (GN K a λX=>X.dn))(pT:BB P w K mg base AB 1 "_law_paper" ["world","where"] (SF K)):AF P w K mg base AB 3 f fd ["hall","world"] (Te K a):=by
 refine F.ok Tf λah A outer s H vs Q E Y h=>?_
 .replace h:=Dm h;obtain ⟨X,W,R,dl,ds,rfl,t,wf,wx,jX,lT,ldn,q⟩:=h
  have hu:=Y.units;have nd:=Tf.nd;have ab1:=T.hc.cls;have ab2:=T.hc.cls;have ab3:=T.hc.cls;have ab4:=T.hc.cls;have ab5:=T.hc.cls;have ab6:=T.hc.cls;have ab7:=T.hc.cls;have ab8:=T.hc.cls;have oP:=T.hc.cls;have ab9:=T.hc.cls;have tw:=t.wt;refine ⟨_,(@Aj _ _ _ _ _ (CO Vp rfl (Df (Az P w K (Aa 1 DP) Ak)) (Bo 2 nd D9) (Aj (A1 3 nd Tg (Az P w K (Az P w K (Aa 1 DP) Ak) (Aa 2 D9)))
     (Aj (A1 4 nd Th (A0 (Ac (Bs abS ab1 (Aa 0 Ep) Y.d Fh (Ac (Aa 2 D9) Ae)) (Ac (Bs abT ab2 (Aa 0 Ep) Y.d Fh (Ac (Aa 2 D9) Ae)) (Ac (Bs abU ab3 (Aa 0 Ep) Y.d Fh (Ac (Aa 2 D9) Ae)) (Ac (Bs abV ab4 (Aa 0 Ep) Y.d Fh (Ac (Aa 2 D9) Ae)) (Ac (Bs abW ab5 (Aa 0 Ep) Y.d Fh (Ac (Aa 2 D9) Ae)) Ae)))))))
     (An (Ba (A5 (Ef hu) (Aa 4 Th) (A0 (Ac (Aa 3 Tg) (Ac (Az P w K (Az P w K (Aa 1 DP) Ak) (Aa 2 D9)) (Ac (Az P w K (Az P w K (Aa 1 DP) Ak) (Aa 2 D9)) (Ac (Az P w K (Az P w K (Aa 1 DP) Ak) (Aa 2 D9)) (Ac (Az P w K (Az P w K (Aa 1 DP) Ak) (Aa 2 D9)) Ae)))))) (Bb _)) (An (AO DR)) Be)))))
    (Aj (CO Vp rfl (Df (BG (Aeb rfl) Aic T.jz Ju (Ac (Az P w K (Aa 1 DP) Ak) Ae))) (Bo 5 nd IM) (An (Ba (PW.pt (Hn (A5 (Ef hu) (Bs abX ab6 (Aa 0 Ep) Y.d Fh (Ac (Aa 5 IM) Ae)) (Bx pT Aid Y.d A3 (Ac (Aa 1 DP) (Ac (Aa 5 IM) Ae))) (Bb _)) (Hm (A5 (Ef hu) (Bs abY ab7 (Aa 0 Ep) Y.d Fh (Ac (Aa 5 IM) Ae)) (Az P w K (Az P w K (Aa 1 DP) Ak) (Aa 5 IM)) (Bb _))))) (An (AO DR)) Be)))
    (An (AO (Gp (B7 hu) (A0 (Ac (HL abZ ab8 (Aa 0 Ep) Y.d A3) (Ac (HL oO oP (Aa 0 Ep) Y.d A3) (Ac (HL ab0 ab9 (Aa 0 Ep) Y.d A3) Ae)))) (A0 (Ac (Az P w K (Aa 1 DP) Ak) (Ac (Az P w K (Aa 1 DP) Ak) (Ac (Az P w K (Aa 1 DP) Ak) Ae)))) (Bb _)))))),?_⟩
  try dsimp only [av,aw]
  have aS:AW ["hall","world","line","way","told","where"] [V.ref X.h,V.ref W.w]=[some (.ref X.h),some (.ref W.w),none,none,none,none]:=rfl;simp only [aS,VM,VN];walk_at"";refine Ao W.w _ (.inr "lines") _ rfl rfl (.of tw.t.vw) II ?_;refine CC W.ln rfl ⟨⟨_,.of tw.t.lC⟩,DW (K:=K) (a:=W.ln) (xs:=W.lns.map V.str) (λn σ H2=>∃ x y z,σ=[some (.ref X.h),some (.ref W.w),x,y,z,none]/\Ai H H2) ⟨none,none,none,rfl,.refl H⟩ (λn σ H2 _ ⟨_,_,_,_,s2⟩=>.of (s2 _ _ tw.t.lC)) ?_ ?_⟩
  .intro n v σ H2 hn I;replace I:=BI I;obtain ⟨x0,y0,z0,rfl,s2⟩:=I;rw [tw.ok.ln,Uj,Uj] at hn;obtain ⟨_,hn1,rfl⟩:=Ag (UX.mp hn);obtain ⟨ln,h,rfl⟩:=Ag (UX.mp hn1);have t2:=t.same s2;have w2:=tw.same s2;have lv:=w2.ok.l n ln h;have mz:ln.num∈W.zs:=w2.ok.fU h;have zk:Ok ln.num:=(wf.g.tx _ (D6 h)).1;obtain ⟨x,hx,rfl⟩:=Ag (t2.h.at h);have only:∀(j:Nat)(y:LX),X.lines[j]?=some y->y.l.num=x.l.num->y=x:=λj y hy e=>by
    obtain ⟨e1,_⟩:=wf.g.one (show X.S.lns[j]?=some y.l by show (X.lines.map (·.l))[j]?=_;rw [Uj,hy];rfl) h e;rw [e1,hx] at hy;exact (UK hy).symm
   have inl:x.l.num∈X.lines.map (·.l.num):=Ur.mpr ⟨x,Uw hx,rfl⟩;walk_at"";refine Ao W.w _ (.inr "way") _ rfl rfl (.of w2.t.vw) EU ?_;walk_at"";refine Ao W.way _ (.inr x.l.num) _ rfl rfl (.of w2.t.dD) (D7 mz) ?_;rw [lv.way];walk_at"";refine Bm X.h X.dx _ rfl t2.h.t.aA rfl ?_;walk_at"";refine B1 X _ x.l.num rfl t2.h zk (λj y hy J=>?_) (λno=>absurd inl no);rw [only j y hy J];clear hy J y j
   walk_at"";refine Bm X.h X.dx _ rfl t2.h.t.aA rfl ?_;walk_at"";refine B1 X _ x.l.num rfl t2.h zk (λj y hy J=>?_) (λno=>absurd inl no);rw [only j y hy J];clear hy J y j
   walk_at"";refine Bm X.h X.dx _ rfl t2.h.t.aA rfl ?_;walk_at"";refine B1 X _ x.l.num rfl t2.h zk (λj y hy J l nl=>?_) (λno=>absurd inl no);rw [only j y hy J];clear hy J y j
   have s3:=(Ai.refl H2).upd (o:=.lst (x.hv.map V.ref)) nl;have e3:(upd H2 l (.lst (x.hv.map V.ref))) l=some (.lst (x.hv.map V.ref)):=Al;generalize upd H2 l (.lst (x.hv.map V.ref))=H3 at s3 e3 ⊢;have t3:=t2.same s3;walk_at"";refine Bm X.h X.dx _ rfl t3.h.t.aA rfl ?_;walk_at"";refine B1 X _ x.l.num rfl t3.h zk (λj y hy J=>?_) (λno=>absurd inl no);rw [only j y hy J];clear hy J y j
   walk_at"";refine Bm X.h X.dx _ rfl t3.h.t.aA rfl ?_;walk_at"";refine B1 X _ x.l.num rfl t3.h zk (λj y hy J=>?_) (λno=>absurd inl no);rw [only j y hy J];clear hy J y j
   walk_at"";refine ⟨Ax,λl5 n5=>?_⟩;have s4:=(Ai.refl H3).upd (o:=.lst [.str x.l.st,.str x.l.ao,.ref l,Ce x.l.ag,x.wv]) n5;have e4:(upd H3 l5 (.lst [.str x.l.st,.str x.l.ao,.ref l,Ce x.l.ag,x.wv])) l5=some (.lst [.str x.l.st,.str x.l.ao,.ref l,Ce x.l.ag,x.wv]):=Al;generalize upd H3 l5 (.lst [.str x.l.st,.str x.l.ao,.ref l,Ce x.l.ag,x.wv])=L at s4 e4 ⊢;have D:=w2.same (s3.trans s4);have jW:=D.ok.l n x.l h;obtain ⟨jt,te,as,iE,ez,eas,pr⟩:=BI (D.ok.lI h);have tv:=Ss D iE;rw [ez] at tv;walk_at"";refine Ao W.w _ (.inr "figures") _ rfl rfl (.of D.t.vw) Sl ?_;walk_at"";refine Ao W.ao _ (.inr x.l.num) _ rfl rfl (.of D.t.o6) (D7 mz) ?_;walk_at"";refine Ao W.w _ (.inr "train") _ rfl rfl (.of D.t.vw) IH ?_;walk_at"";refine Ao W.bo _ (.inr x.l.num) _ rfl rfl (.of D.t.fS) tv ?_;walk_at"";refine Ao W.w _ (.inr "end") _ rfl rfl (.of D.t.vw) Ku ?_;walk_at"";refine Ao W.ag _ (.inr x.l.num) _ rfl rfl (.of D.t.jS) (D7 mz) ?_;walk_at"";refine Ao W.w _ (.inr "why") _ rfl rfl (.of D.t.vw) Sn ?_;walk_at"";refine Ao W.why _ (.inr x.l.num) _ rfl rfl (.of D.t.o7) (D7 mz) ?_;rw [jW.ao,jW.ag];walk_at"";refine ⟨Ax,λl6 n6=>?_⟩;have B:=(Ai.refl L).upd (o:=.lst [.str x.l.st,.str x.l.ao,.ref te.a,Ce x.l.ag,W.aU x.l.num]) n6;have e5:(upd L l6 (.lst [.str x.l.st,.str x.l.ao,.ref te.a,Ce x.l.ag,W.aU x.l.num])) l6=some (.lst [.str x.l.st,.str x.l.ao,.ref te.a,Ce x.l.ag,W.aU x.l.num]):=Al;generalize upd L l6 (.lst [.str x.l.st,.str x.l.ao,.ref te.a,Ce x.l.ag,W.aU x.l.num])=H5 at B e5 ⊢;have lx:=(t.same (s2.trans (s3.trans (s4.trans B)))).h.ok.lx n x hx;have lv5:=jW.ai (.of B);have tl5:H5 te.a=some (.lst (as.map V.ref)):=by rw [<- eas];exact B _ _ (D.t.o9 iE)
   have O:=Aia wf wx h;refine Ue ⟨iL x.l,iL x.l,.lst (.of (B _ _ e4)) (.cons (.str _) (.cons (.str _) (.cons (.lst (.of (B _ _ (s4 _ _ e3))) (Nv lx.pr)) (.cons (Tc _) (.cons lx.w .nil))))),.lst (.of e5) (.cons (.str _) (.cons (.str _) (.cons (.lst (.of tl5) (Nv (pr.ai (.of B)))) (.cons (Tc _) (.cons lv5.why .nil))))),O.c,O.c,(by have:=O.k;omega),?_⟩;rw [Ys _ O.c];walk_at"";exact BO _ _ _ rfl (s2.trans (s3.trans (s4.trans B)))
  .intro σ H2 I;replace I:=BI I;obtain ⟨x0,y0,z0,rfl,s2⟩:=I;have t2:=t.same s2;have w2:=tw.same s2;walk_at"";refine Ao W.w _ (.inr "held") _ rfl rfl (.of w2.t.vw) Fx ?_;walk_at"";refine BO W.bV _ (W.rk.map (·.w)) rfl ⟨.of w2.t.fT,(by show V4 _ (V4 _ W.rk)=_;rw [UD,UD];rfl),w2.ok.rn,(by rw [T7];exact w2.ok.rl),λl ts nl pm _=>?_⟩;have s3:=(Ai.refl H2).upd (o:=.lst (ts.map V.str)) nl;have e3:(upd H2 l (.lst (ts.map V.str))) l=some (.lst (ts.map V.str)):=Al;generalize upd H2 l (.lst (ts.map V.str))=H3 at s3 e3 ⊢;refine CC l rfl ⟨⟨_,.of e3⟩,DW (K:=K) (a:=l) (xs:=ts.map V.str) (λn σ L=>∃ x,σ=[some (.ref X.h),some (.ref W.w),x0,y0,z0,x]/\Ai H3 L) ⟨none,rfl,.refl H3⟩ (λn σ L _ ⟨_,_,s4⟩=>.of (s4 _ _ e3)) ?_ ?_⟩
   .intro n v σ L hn I;replace I:=Ag I;obtain ⟨x5,rfl,s4⟩:=I;rw [Uj] at hn;obtain ⟨u,mU,rfl⟩:=Ag (UX.mp hn);have iM:Ai H L:=s2.trans (s3.trans s4);have t4:=t.same iM;have D:=tw.same iM;have mu:=pm.mem_iff.mp (Uw mU);obtain ⟨r,er⟩:=YC.mp ((D.ok.rz u).mp mu);obtain ⟨j,e,hj,rfl,f1,f2,f3⟩:=Dl (D.ok.find er);have zk:Ok e.w:=by
     unfold Bc at er;by_cases c:e.w=Ud ""
     .rw [c];exact ⟨Gf,by decide⟩
     .rw [if_neg c] at er;obtain ⟨g,eg,_⟩:=Ag (UX.mp er);have:=wf.g.px g (GQ eg).1;rw [(GQ eg).2] at this;exact this
    obtain ⟨zs,ezs,azs⟩:=Ag (Td (Aib wf.g er));walk_at"";refine Bm X.h X.dx _ rfl t4.h.t.aA rfl ?_;walk_at"";refine B1 X _ e.w rfl t4.h zk wf.g.hs ?_;rw [er];intro H5 tt B e5;have w5:=D.same B;walk_at"";dsimp only [Cd];refine C8 W _ _ e.w r rfl ⟨w5,wf.g,er,λH6 tt2 s6 e6=>?_⟩;obtain ⟨O,dp⟩:=Nd azs;rw [ezs] at e5 e6;refine Ue ⟨.tuple (zs.map WA),.tuple (zs.map WA),.tup (.of (s6 _ _ e5)) (G2 zs),.tup (.of e6) (G2 zs),O,O,(by rw [SI];omega),?_⟩;rw [Ys (.tuple (zs.map WA)) O];have t6:=t4.same (B.trans s6);have w6:=w5.same s6;walk_at"";refine Bm X.h X.dx _ rfl t6.h.t.aA rfl ?_;walk_at"";refine Gx t6.h zk ?_;rw [er];intro l7 n7;have s7:=(Ai.refl H6).upd (o:=.lst (r.2.2.map V.int)) n7;have e7:(upd H6 l7 (.lst (r.2.2.map V.int))) l7=some (.lst (r.2.2.map V.int)):=Al;generalize upd H6 l7 (.lst (r.2.2.map V.int))=H7 at s7 e7 ⊢;have w7:=w6.same s7;walk_at"";refine Ao W.w _ (.inr "shares") _ rfl rfl (.of w7.t.vw) So ?_;walk_at"";refine Ao W.shr _ (.inr e.w) _ rfl rfl (.of w7.t.tP) (D8 w7 hj AA.sa) ?_;have va:=w7.t.tU hj;rw [f3] at va;obtain ⟨jV,dp2⟩:=Nc r.2.2;refine Ue ⟨.list (r.2.2.map Wr),.list (r.2.2.map Wr),.lst (.of e7) (G1 _),.lst (.of va) (G1 _),jV,jV,(by rw [Kw];omega),?_⟩;rw [Ys (.list (r.2.2.map Wr)) jV];walk_at"";exact s4.trans (B.trans (s6.trans s7))
   .intro σ L I;replace I:=Ag I;obtain ⟨x5,rfl,s4⟩:=I;have iM:Ai H L:=s2.trans (s3.trans s4);have t4:=t.same iM;walk_at"";refine Bm X.h X.dx _ rfl t4.h.t.aA rfl ?_;refine AU X _ rfl t4.h (λl1 n1=>?_);have B:=(Ai.refl L).upd (o:=.lst (X.q.map V.str)) n1;have e5:(upd L l1 (.lst (X.q.map V.str))) l1=some (.lst (X.q.map V.str)):=Al;generalize upd L l1 (.lst (X.q.map V.str))=H5 at B e5 ⊢;have t5:=t4.same B;walk_at"";refine Bm X.h X.dx _ rfl t5.h.t.aA rfl ?_;refine AU X _ rfl t5.h (λl2 n2=>?_);have s6:=(Ai.refl H5).upd (o:=.lst (X.sk.k.wt.map V.int)) n2;have e6:(upd H5 l2 (.lst (X.sk.k.wt.map V.int))) l2=some (.lst (X.sk.k.wt.map V.int)):=Al;generalize upd H5 l2 (.lst (X.sk.k.wt.map V.int))=H6 at s6 e6 ⊢;have t6:=t5.same s6;walk_at"";refine Bm X.h X.dx _ rfl t6.h.t.aA rfl ?_;refine AU X _ rfl t6.h (λl3 n3=>?_);have s7:=(Ai.refl H6).upd (o:=.lst X.dn) n3;have e7:(upd H6 l3 (.lst X.dn)) l3=some (.lst X.dn):=Al;generalize upd H6 l3 (.lst X.dn)=H7 at s7 e7 ⊢;refine ⟨Ax,λl4 n4=>?_⟩;have s8:=(Ai.refl H7).upd (o:=.lst [.ref l1,.ref l2,.ref l3]) n4;have e8:(upd H7 l4 (.lst [.ref l1,.ref l2,.ref l3])) l4=some (.lst [.ref l1,.ref l2,.ref l3]):=Al;generalize upd H7 l4 (.lst [.ref l1,.ref l2,.ref l3])=H8 at s8 e8 ⊢;have w8:=tw.same (iM.trans (B.trans (s6.trans (s7.trans s8))));walk_at"";refine Ao W.w _ (.inr "queue") _ rfl rfl (.of w8.t.vw) Gd ?_;walk_at"";refine Ao W.w _ (.inr "steps") _ rfl rfl (.of w8.t.vw) Sr ?_;walk_at"";refine Ao W.w _ (.inr "done") _ rfl rfl (.of w8.t.vw) Sq ?_;walk_at"";refine ⟨Ax,λl9 n9=>?_⟩;have s9:=(Ai.refl H8).upd (o:=.lst [.ref W.q,.ref W.st,.ref W.dn]) n9;have e9:(upd H8 l9 (.lst [.ref W.q,.ref W.st,.ref W.dn])) l9=some (.lst [.ref W.q,.ref W.st,.ref W.dn]):=Al;generalize upd H8 l9 (.lst [.ref W.q,.ref W.st,.ref W.dn])=H9 at s9 e9 ⊢;have w9:=w8.same s9;have fW:Ai H H9:=iM.trans (B.trans (s6.trans (s7.trans (s8.trans s9))));have ir:=lT.ai (.of fW);have vq:H9 W.q=some (.lst (X.q.map V.str)):=w9.q;have vs:H9 W.st=some (.lst (X.sk.k.wt.map V.int)):=by have z:=w9.t.tR;rw [w9.ok.st] at z;exact z
    have vd:H9 W.dn=some (.lst (dl.map V.ref)):=by have z:=w9.t.tN;rw [w9.ok.ds,show X.S.dn=_ from jX] at z;exact z
    rw [jX] at e7;have O:By 4 (.list [.list (X.q.map WA),.list (X.sk.k.wt.map Wr),.list ds]):=by
     refine .lst (Nq ?_ ?_ (.lst ldn))
     .refine (By.lst (n:=0) λd m=>?_).up (by decide);obtain ⟨z,mz,rfl⟩:=Ag (Ur.mp m);exact .str (wf.g.tx z (wf.g.cC z mz)).1.1
     .refine (By.lst (n:=0) λd m=>?_).up (by decide);obtain ⟨z,mz,rfl⟩:=Ag (Ur.mp m);exact .int z
    refine Ue ⟨_,_,.lst (.of (s9 _ _ e8)) (.cons (.lst (.of (s9 _ _ (s8 _ _ (s7 _ _ (s6 _ _ e5))))) (G2 _)) (.cons (.lst (.of (s9 _ _ (s8 _ _ (s7 _ _ e6)))) (G1 _)) (.cons (.lst (.of (s9 _ _ (s8 _ _ e7))) ir.i) .nil))),.lst (.of e9) (.cons (.lst (.of vq) (G2 _)) (.cons (.lst (.of vs) (G1 _)) (.cons (.lst (.of vd) ir.i) .nil))),O.c,O.c,(by have:=O.k;omega),?_⟩;rw [Ys _ O.c];exact q H9 fW
def Ti (K:T3):Sp:=λvs H Q _=>∃(pt l g:Addr)(long n:Int)(zs:List Str)(ts:List Pr)(C:AH),vs=[.ref pt]/\At H C/\H pt=some (.tup [.int long,.ref l,.int n,.ref g])/\(l,.lst (zs.map V.str))∈C/\(g,.lst (ts.map A6))∈C/\C9 H ts/\J7 long n zs ts /\
 ∀ H' W,At H' (W.C C)->(∀(aj:List Str)(br:List Pr),aj.Perm zs->aj.Pairwise CJ->br.Perm ts->BA K H' W (dC long aj n (br.map (·.2))))->Ah H H'->Q (.ref W.w) H'
noncomputable def EX:List Str:=["way","figures","many","train","end","why","held","stuck","shares"]
noncomputable def Nw (long:Int)(ln q dn:Addr):List (Ar×V):=[(.inr "long",.int long),(.inr "lines",.ref ln),(.inr "queue",.ref q),(.inr "mark",.int 0),(.inr "done",.ref dn)]
noncomputable def Dx (long:Int)(ln q dn:Addr)(as:List Addr):List (Ar×V):=Nw long ln q dn++List.zipWith (λz a=>((.inr z:Ar),V.ref a)) EX as
theorem Aif (long:Int)(ln q dn:Addr)(as:List Addr){z:Str}(b:Addr)(B:EX[as.length]?=some z):AX (Dx long ln q dn as) (.inr z) (.ref b)=Dx long ln q dn (as++[b]):=by
 match as,B with
 | [],B=>cases B;rfl
 | [_],B=>cases B;rfl
 | [_,_],B=>cases B;rfl
 | [_,_,_],B=>cases B;rfl
 | [_,_,_,_],B=>cases B;rfl
 | [_,_,_,_,_],B=>cases B;rfl
 | [_,_,_,_,_,_],B=>cases B;rfl
 | [_,_,_,_,_,_,_],B=>cases B;rfl
 | [_,_,_,_,_,_,_,_],B=>cases B;rfl
 | _ :: _ :: _ :: _ :: _ :: _ :: _ :: _ :: _ :: _,B=>simp [EX] at B
theorem Aig {as:List Addr}(h:as.length=9):∃ a b c d e f g i j,as=[a,b,c,d,e,f,g,i,j]:=by
 match as,h with
 | [_,_,_,_,_,_,_,_,_],_=>exact ⟨_,_,_,_,_,_,_,_,_,rfl⟩
theorem KD {α:Type}{l B:List α}(h:∀ [DecidableEq α] (x:α),l.count x=B.count x):l.Perm B:=by
 haveI:DecidableEq α:=λa b=>Classical.propDecidable (a=b)
 exact List.perm_iff_count.mpr λx=>h x
def Tj (e:AA)(t:Pr):Prop:=e.w=t.2.1/\e.hs=Ug t.2.2.toNat .aa/\e.js=Ug t.2.2.toNat (.bl false)/\e.ss=Ug t.2.2.toNat (.int 0)
noncomputable def Fz (a7 a8 a9:Addr)(rk:List AA)(Z:AH):AH:=(a7,.dK (A9 AA.ha rk)) :: (a8,.dK (A9 AA.ja rk)) :: (a9,.dK (A9 AA.sa rk)) :: (rk.flatMap Ci++Z)
theorem Nx {f:AA->Addr}{rk:List AA}{e:AA}(n:e.w ∉ rk.map (·.w)):AX (A9 f rk) (.inr e.w) (.ref (f e))=A9 f (rk++[e]):=by unfold A9;rw [GB _ (Kt (n:=AA.w) (g:=λe=>V.ref (f e)) n),Uy];rfl
theorem G6 {α β:Type}(f:α->β)(n:Nat)(x:α):(Ug n x).map f=Ug n (f x):=by simp
theorem Aih {long n:Int}{zs:List Str}{B:List (Str×Int)}(D:(B.map (·.1)).Nodup){p:Str×Int}(m:p∈B):Cf (dC long zs n B) p.1=some (Ct p):=by obtain ⟨i,H⟩:=XI.mp m;refine Kh (l:=B.map Ct) (i:=i) (g:=Ct p) ?_ (by rw [Uj,H];rfl);rw [UD];exact D
theorem Aii {long n:Int}{zs:List Str}{B:List (Str×Int)}{z:Str}(m:z ∉ B.map (·.1)):Cf (dC long zs n B) z=none:=MM (l:=B.map Ct) (by rw [UD];exact m)
theorem Aij {K:T3}{H:Hp}{W:VW}{long n:Int}{zs V B:List Str}{ts D L:List Pr}{t0:Addr}(zn:zs.Nodup)(z1:zs.length<=60)(pm:V.Perm zs)(jY:V.Pairwise CJ)(Y:B.Perm zs)(pU:B.Pairwise CJ)(pt:D.Perm ts)(gl:ts.length<=40)(I:L=(t0,Ud "",n) :: ts)(J:(L.map (·.2.1)).Nodup)(ek:W.rk.map (·.w)=L.map (·.2.1))(fr:∀ e∈W.rk,∃ t∈L,Tj e t)(ez:W.tr.map (·.z)=W.zs)(ev:∀ e∈W.tr,e.vs=[])(h1:W.long=long)(h2:W.mark=0)(h3:W.qs=[])(h4:W.ds=[])(h5:W.bI=Ug n.toNat 0)(h6:W.cf=Ug n.toNat 0)(h7:W.lns=V)(h8:W.zs=zs)(f1:∀ z,W.ay z=.str "rests")(f2:∀ z,W.aZ z=.str "")(f3:∀ z,W.ba z=.int 0)(f4:∀ z,W.aW z=.aa)(f5:∀ z,W.aU z=.aa):BA K H W (dC long B n (D.map (·.2))):=by
 have en:(B.map CG).map (·.num)=B:=by rw [UD];exact Yr B
 have nt:(ts.map (·.2.1)).Nodup:=by rw [I] at J;exact (UH.mp J).2
 have n0:Ud "" ∉ ts.map (·.2.1):=by rw [I] at J;exact (UH.mp J).1
 have eg:(D.map (·.2)).map (·.1)=D.map (·.2.1):=by rw [UD];rfl
 have pg:(D.map (·.2.1)).Perm (ts.map (·.2.1)):=pt.map _;have ng:((D.map (·.2)).map (·.1)).Nodup:=by rw [eg];exact pg.nodup_iff.mpr nt
 have jN:∀ t∈ts,Bc (dC long B n (D.map (·.2))) t.2.1=some (Ug t.2.2.toNat .aa,Ug t.2.2.toNat false,Ug t.2.2.toNat 0):=λt m=>by
  unfold Bc;rw [if_neg (λc=>n0 (by rw [<- c];exact Ur.mpr ⟨t,m,rfl⟩)),Aih ng (p:=t.2) (Ur.mpr ⟨t,pt.mem_iff.mpr m,rfl⟩)];rfl
 refine ⟨h1,h2,h3,h4,h5,h6,?_,?_,λz=>?_,by rw [h8];omega,ez,by rw [h8];exact zn,λi ln h=>?_,by rw [ek];exact J,λw=>?_,?_,λe m r O=>?_⟩
 .show W.lns=(B.map CG).map (·.num);rw [en,h7];exact Adb (pm.trans Y.symm) jY pU
 .show ((B.map CG).map (·.num)).Nodup;rw [en];exact Y.nodup_iff.mpr zn
 .show z∈W.zs↔z∈(B.map CG).map (·.num);rw [en,h8];exact Y.mem_iff.symm
 .have h:(B.map CG)[i]?=some ln:=h;rw [Uj] at h;obtain ⟨z,_,rfl⟩:=UX.mp h;exact ⟨f1 _,f2 _,f3 _,f4 _,by rw [f5];exact .aa,rfl,λe m _=>⟨[],ev e m,trivial⟩⟩
 .rw [ek,I,Vd,Uo];by_cases c:w=Ud ""
  .exact ⟨λ_=>by unfold Bc;rw [if_pos c];rfl,λ_=>.inl c⟩
  .refine ⟨λm=>?_,λs=>.inr ?_⟩
   .obtain ⟨t,mt,rfl⟩:=Ur.mp (m.resolve_left c);rw [jN t mt];rfl
   .apply Yk;intro nm;unfold Bc at s;rw [if_neg c,Aii (by rw [eg];exact λm=>nm (pg.mem_iff.mp m))] at s;cases s
 .have:=congrArg V9 ek;rw [T7,T7,I,Vf] at this;omega
 .obtain ⟨t,mt,g1,g2,g3,g4⟩:=fr e m;rw [I] at mt;rcases Uo.mp mt with rfl | mt
  .have e0:e.w=Ud "":=g1;have:Bc (dC long B n (D.map (·.2))) e.w=some (Ug n.toNat .aa,Ug n.toNat false,Ug n.toNat 0):=if_pos e0;rw [this] at O;cases O;refine ⟨?_,by rw [g3,G6],by rw [g4,G6]⟩;unfold CY;rw [if_pos e0,g2,G6];rfl
  .rw [g1,jN t mt] at O;cases O;refine ⟨?_,by rw [g3,G6],by rw [g4,G6]⟩;unfold CY;rw [if_neg (λc=>n0 (by rw [<- c,g1];exact Ur.mpr ⟨t,mt,rfl⟩)),g2]
theorem Tn:AR ["parts","long","lines","seekers","groups","world","word","line","where","many"] ["parts"] (Ab (top 45)):=.of
theorem Aik:Nm (Ab (top 45)) "parts":=.of
theorem To:Nm (Ab (top 45)) "long":=.of
theorem Ny:Nm (Ab (top 45)) "lines":=.of
theorem KG:Nm (Ab (top 45)) "seekers":=.of
theorem Tp:Nm (Ab (top 45)) "groups":=.of
theorem EY:Nm (Ab (top 45)) "world":=.of
theorem Tq:Nm (Ab (top 45)) "word":=.of
theorem Tr:Nm (Ab (top 45)) "line":=.of
theorem KH:Nm (Ab (top 45)) "where":=.of
theorem KI:Nm (Ab (top 45)) "many":=.of
theorem Ail:Gm (Ab (top 45)) "_law_begin":=.of
theorem Aim:Gm (Ab (top 45)) "sorted":=.of
theorem Ain (F:AM K "_law_world" "_law_world" (top 45) f fd)(T:TxtW P w K mg a)(fX:BB P w K mg base AB 1 "_law_begin" ["world","line","way"] (M4 K)):AF P w K mg base AB 2 f fd ["parts"] (Ti K):=by
 refine F.ok Tn λah A outer s H vs Q E hr h=>?_
 .replace h:=Gh h;obtain ⟨pt,l,g,long,n,zs,ts,C,rfl,t,kT,ml,dZ,lay,good,q⟩:=h
  obtain ⟨⟨uA,lo1,n0,n1⟩,⟨⟨z0,z1⟩,zd,zn⟩,⟨g0,gd,gn⟩⟩:=AD good;have hu:=hr.units;have nd:=Tn.nd;refine ⟨_,(@Aj _ _ _ _ _ (DU (Aa 0 Aik) (Fb rfl (B9 (Bo 1 nd To) (B9 (Bo 2 nd Ny) (B9 (Bo 3 nd KG) (B9 (Bo 4 nd Tp) DT))))))
    (Aj (A1 5 nd EY (Ac2 (HV Ak (Aa 1 To) (HV Ak (BG PD Aim T.jz Ju (Ac (Aa 2 Ny) Ae)) (HV Ak (A0 Ae) (HV Ak Am (HV Ak (A0 Ae) Ac0))))) rfl rfl (by simp) (by decide)))
    (Aj (CO Vp rfl (Og (BN (Jw rfl))) (Bo 6 nd Tq) (An (CD (U5 (Vb (by decide) _) hu) (Aa 5 EY) (Aa 6 Tq) AcZ rfl)))
    (Aj (CO Vp rfl (Df (Aa 2 Ny)) (Bo 7 nd Tr) (An (Bi (Bx fX Ail hr.d A3 (Ac (Aa 5 EY) (Ac (Aa 7 Tr) (Ac Ak Ae)))))))
    (Aj (CO Vp rfl (Df (As BL (A0 (Ac (BN (Ac Ak (Ac (Aa 3 KG) Ae))) Ae)) (Aa 4 Tp))) (Fb rfl (B9 (Bo 8 nd KH) (B9 (Bo 9 nd KI) DT))) (Aj (CD (U5 (Vb (by decide) _) hu) (Az P w K (Aa 5 EY) Ak) (Aa 8 KH) (As B2 (A0 (Ac Ck Ae)) (Aa 9 KI)) rfl)
     (Aj (CD (U5 (Vb (by decide) _) hu) (Az P w K (Aa 5 EY) Ak) (Aa 8 KH) (As B2 (A0 (Ac DR Ae)) (Aa 9 KI)) rfl)
     (An (CD (U5 (Vb (by decide) _) hu) (Az P w K (Aa 5 EY) Ak) (Aa 8 KH) (As B2 (A0 (Ac Am Ae)) (Aa 9 KI)) rfl)))))
    (Aj (CD (U5 (Vb (by decide) _) hu) (Aa 5 EY) Ak (As B2 (A0 (Ac Am Ae)) (Aa 3 KG)) rfl)
    (Aj (CD (U5 (Vb (by decide) _) hu) (Aa 5 EY) Ak (As B2 (A0 (Ac Am Ae)) (Aa 3 KG)) rfl)
    (An (AO (Aa 5 EY)))))))))),?_⟩
  try dsimp only [av,aw]
  have aS:AW ["parts","long","lines","seekers","groups","world","word","line","where","many"] [V.ref pt]=[some (.ref pt),none,none,none,none,none,none,none,none,none]:=rfl;simp only [aS,VM,VN];walk_at"";refine CV pt _ rfl (.of kT) rfl ?_;walk_at"";intro I uB;have t1:=t.new (u:=.dK []) uB;have p1:Ah H (upd H I (.dK [])):=.new uB;generalize upd H I (.dK [])=H1 at t1 p1 ⊢;walk_at"";refine CV l zs rfl (.of (t1.tl.get ml)) (by omega) (λln aj iN pm jY=>?_);have t2:=t1.new (u:=.lst (aj.map V.str)) iN;have p2:Ah H1 (upd H1 ln (.lst (aj.map V.str))):=.new iN;generalize upd H1 ln (.lst (aj.map V.str))=J at t2 p2 ⊢;walk_at"";refine ⟨Ax,λO jP=>?_⟩;have t3:=t2.new (u:=.lst []) jP;have p3:Ah J (upd J O (.lst [])):=.new jP;generalize upd J O (.lst [])=H3 at t3 p3 ⊢;walk_at"";refine ⟨Ax,λda jQ=>?_⟩;have t4:=t3.new (u:=.lst []) jQ;have p4:Ah H3 (upd H3 da (.lst [])):=.new jQ;generalize upd H3 da (.lst [])=H4 at t4 p4 ⊢;refine  ⟨t4.get (by simp),Nw long ln O da,rfl,(by show 5<=15;decide),?_⟩;rw [show GD [] (Nw long ln O da)=Dx long ln O da [] from rfl];have t5:At (upd H4 I (.dK (Dx long ln O da []))) ((I,.dK (Dx long ln O da [])) :: (([]:List Addr).map (λa=>(a,HO.dK []))++((ln,.lst (aj.map V.str)) :: (O,.lst []) :: (da,.lst []) :: C))):=by have oZ:At H4 ((I,.dK []) :: (ln,.lst (aj.map V.str)) :: (O,.lst []) :: (da,.lst []) :: C):=t4.perm (show ([(I,HO.dK []),(ln,HO.lst (aj.map V.str)),(O,HO.lst []),(da,HO.lst [])]++C).Perm ([(I,HO.dK []),(ln,HO.lst (aj.map V.str)),(O,HO.lst []),(da,HO.lst [])].reverse++C) from yk C (List.reverse_perm _).symm);exact oZ.ik
  have p5:Ah H4 (upd H4 I (.dK (Dx long ln O da []))):=.chg (o:=.dK []) (t4.get (by simp)) rfl;have pV:Ah H (upd H4 I (.dK (Dx long ln O da []))):=p1.trans (p2.trans (p3.trans (p4.trans p5)));generalize upd H4 I (.dK (Dx long ln O da []))=H5 at t5 pV ⊢;generalize hD:(ln,HO.lst (aj.map V.str)) :: (O,.lst []) :: (da,.lst []) :: C=D at t5;have uC:(l,.lst (zs.map V.str))∈D:=by rw [<- hD];simp [ml]
  have mgD:(g,.lst (ts.map A6))∈D:=by rw [<- hD];simp [dZ]
  clear p5 p4 p3 p2 p1 t4 t3 t2 t1
  walk_at"";refine ⟨Ax,λwt nwt=>?_⟩;have s6:=(Ai.refl H5).upd (o:=.tup (EX.map V.str)) nwt;have e6:(upd H5 wt (.tup (EX.map V.str))) wt=some (.tup (EX.map V.str)):=Al;have ew:upd H5 wt (.tup [.str "way",.str "figures",.str "many",.str "train",.str "end",.str "why",.str "held",.str "stuck",.str "shares"])=upd H5 wt (.tup (EX.map V.str)):=rfl;rw [ew];generalize upd H5 wt (.tup (EX.map V.str))=H6 at s6 e6 ⊢;refine CC wt rfl ⟨⟨_,.of e6⟩,AaK (K:=K) (a:=wt) (xs:=EX.map V.str) (λi σ J=>∃ as x,σ=[some (.ref pt),some (.int long),some (.ref l),some (.int n),some (.ref g),some (.ref I),x,none,none,none]/\as.length=i/\At J ((I,.dK (Dx long ln O da as)) :: (as.map (λa=>(a,HO.dK []))++D))/\Ah H6 J) ⟨[],none,rfl,rfl,t5.same s6,.refl⟩ (λi σ J _ ⟨_,_,_,_,_,p⟩=>.of (p.t e6)) ?_ ?_⟩
  .intro i v σ J hi zq;replace zq:=AY zq;obtain ⟨as,x,rfl,la,t7,p7⟩:=zq;rw [Uj] at hi;obtain ⟨z,hz,rfl⟩:=Ag (UX.mp hi);walk_at"";intro b nb;have t8:At (upd J b (.dK [])) ((I,.dK (Dx long ln O da as)) :: ((as++[b]).map (λa=>(a,HO.dK []))++D)):=by
    rw [Uy];exact At.mid (P:=[_]) (M:=as.map (λa=>(a,HO.dK []))) (R:=D) (u:=.dK []) t7 nb
   have p8:Ah J (upd J b (.dK [])):=.new nb;generalize upd J b (.dK [])=H3 at t8 p8 ⊢;walk_at"";refine AU I _ rfl (.k (k:=.inr z) t8.hd ?_) ?_
   .have:(Dx long ln O da as).length<=14:=by
     unfold Dx;rw [U2,List.length_zipWith];show 5+min 9 as.length<=14;omega
    rw [Uc];omega
   rw [Aif long ln O da as b (by rw [la];exact hz)];exact ⟨as++[b],_,rfl,by rw [U2,la];rfl,t8.ik,p7.trans (p8.trans (.chg t8.hd rfl))⟩
  .intro σ H7 zq;replace zq:=AY zq;obtain ⟨as,x,rfl,la,t7,p7⟩:=zq;obtain ⟨a1,a2,a3,a4,a5,a6,a7,a8,a9,rfl⟩:=Aig la;clear la
   obtain ⟨W,hW⟩:∃ W:VW,W={ w:=I,ln:=ln,q:=O,dn:=da,way:=a1,ao:=a2,az:=a3,bo:=a4,ag:=a5,why:=a6,bV:=a7,bJ:=a8,shr:=a9,sp:=0,st:=0,long:=long,mark:=0,lns:=aj,qs:=[],ds:=[],zs:=[],ay:=λ_=>.str "rests",aZ:=λ_=>.str "",ba:=λ_=>.int 0,aW:=λ_=>.aa,aU:=λ_=>.aa,tr:=[],rk:=[],bI:=[],cf:=[] }:=⟨_,rfl⟩;have t8:At H7 (VW.C0 { W with zs:=zs.take 0,tr:=[] } ((a7,.dK []) :: (a8,.dK []) :: (a9,.dK []) :: D)):=by rw [hW];exact t7
   have hl7:H7 l=some (.lst (zs.map V.str)):=t8.get (by simp [VW.C0,uC]);walk_at"";refine ⟨⟨_,.of hl7⟩,DW (K:=K) (a:=l) (xs:=zs.map V.str) (λi σ J=>∃ tr y,σ=[some (.ref pt),some (.int long),some (.ref l),some (.int n),some (.ref g),some (.ref I),x,y,none,none]/\tr.map (·.z)=zs.take i/\(∀ e∈tr,e.vs=[])/\At J (VW.C0 { W with zs:=zs.take i,tr:=tr } ((a7,.dK []) :: (a8,.dK []) :: (a9,.dK []) :: D))/\Ah H7 J) ⟨[],none,rfl,rfl,(λe m=>nomatch m),t8,.refl⟩ (λi σ J _ ⟨_,_,_,_,_,t,_⟩=>.of (t.get (by simp [VW.C0,uC]))) ?_ ?_⟩
   .intro i v σ J hi zq;replace zq:=Dl zq;obtain ⟨tr,y,rfl,ez,ev,t9,p9⟩:=zq;rw [Uj] at hi;obtain ⟨z,hz,rfl⟩:=Ag (UX.mp hi);have et:zs.take (i+1)=zs.take i++[z]:=by rw [VQ,hz];rfl
    have nz:z ∉ zs.take i:=by have:(zs.take (i+1)).Nodup:=zn.sublist (YD _ _);rw [et] at this;exact λm=>(Wn.mp this).2.2 z m z (UL.mpr rfl) rfl
    walk_at"";dsimp only [Cd];refine Uh ⟨{ W with zs:=zs.take i,tr:=tr },_,z,by rw [hW];rfl,t9,nz,ez,?_,by rw [hW],by rw [hW],by rw [hW],by rw [hW],by rw [hW],λH3 l3 t10 lM=>?_⟩
    .show (zs.take i).length<=100;rw [VF];omega
    .refine DB (tr++[⟨z,l3,[]⟩]) _ rfl ⟨by rw [Uy,ez,et];rfl,λe m=>?_,by rw [et];exact t10,p9.trans lM⟩;rcases UU.mp m with m | m
     .exact ev e m
     .rw [UL.mp m]
   .intro σ H8 zq;replace zq:=Dl zq;obtain ⟨tr,y,rfl,ez,ev,t9,p9⟩:=zq;rw [T7,VL] at t9 ez;have hg8:H8 g=some (.lst (ts.map A6)):=t9.get (by simp [VW.C0,mgD]);walk_at"";refine ⟨Ax,λt0 nt0=>?_⟩;have eR:=(Ai.refl H8).upd (o:=.tup [.str "",.int n]) nt0;have uD:(upd H8 t0 (.tup [.str "",.int n])) t0=some (.tup [.str "",.int n]):=Al;generalize upd H8 t0 (.tup [.str "",.int n])=fq at eR uD ⊢;refine ⟨Ax,λg1 ng1=>?_⟩;have jZ:=(Ai.refl fq).upd (o:=.lst [.ref t0]) ng1;have uE:(upd fq g1 (.lst [.ref t0])) g1=some (.lst [.ref t0]):=Al;generalize upd fq g1 (.lst [.ref t0])=dF at jZ uE ⊢;walk_at"";refine Ue (Ue (Bn g1 g _ _ rfl rfl uE (jZ _ _ (eR _ _ hg8)) (by rw [T7,Uc];show 1+ts.length<=_;omega) (λg2 j0=>?_)));obtain ⟨L,iO⟩:∃ L:List Pr,L=(t0,Ud "",n) :: ts:=⟨_,rfl⟩;rw [show [V.ref t0]++ts.map A6=L.map A6 by rw [iO];rfl];have pW:=(t9.same (eR.trans jZ)).new (u:=.lst (L.map A6)) j0;have iH:Ah H8 (upd dF g2 (.lst (L.map A6))):=(Ah.of (eR.trans jZ)).trans (.new j0);have uF:(upd dF g2 (.lst (L.map A6))) g2=some (.lst (L.map A6)):=Al;have lay0:∀ t∈L,(upd dF g2 (.lst (L.map A6))) t.1=some (.tup [.str t.2.1,.int t.2.2]):=λt m=>by
     rw [iO] at m;rcases Uo.mp m with rfl | m
     .exact (Ah.new j0).t (jZ _ _ uD)
     .exact (pV.trans ((Ah.of s6).trans (p7.trans (p9.trans iH)))).t (lay t m)
    have fY:(L.map (·.2.1)).Nodup:=by rw [iO];refine UH.mpr ⟨λm=>?_,gn⟩;obtain ⟨t,mt,et⟩:=Ag (Ur.mp m);have:=(gd t mt).1.1;rw [et] at this;have this:(1:Int)<=((Ud "").length:Int):=this;exact absurd this (by decide)
    have nb0:∀ t∈L,0<=t.2.2/\t.2.2<=60:=λt m=>by
     rw [iO] at m;rcases Uo.mp m with rfl | m
     .exact ⟨by show 0<=n;omega,n1⟩
     .have:=(gd t m).2.2;omega
    have l0:L.length<=41:=by rw [iO,Vf];omega
    generalize upd dF g2 (.lst (L.map A6))=ft at pW iH uF lay0 ⊢;have u0:At ft (Fz a7 a8 a9 [] ((g2,.lst (L.map A6)) :: (VW.dE { W with zs:=zs,tr:=tr }++(tr.flatMap BH++D)))):=by refine pW.perm (KD λx=>?_);show XN x ([(a7,HO.dK []),(a8,.dK []),(a9,.dK [])]++([]++([(g2,.lst (L.map A6))]++(VW.dE { W with zs:=zs,tr:=tr }++(tr.flatMap BH++D)))))=XN x ([(g2,HO.lst (L.map A6))]++(VW.dE { W with zs:=zs,tr:=tr }++(tr.flatMap BH++([(a7,HO.dK []),(a8,.dK []),(a9,.dK [])]++D))));simp only [Y6,List.count_nil];omega
    generalize hZ:(g2,HO.lst (L.map A6)) :: (VW.dE { W with zs:=zs,tr:=tr }++(tr.flatMap BH++D))=Z at u0;have mW:(I,.dK W.bu)∈Z:=by rw [<- hZ,hW];simp [VW.dE,VW.bu]
    have mG:(g2,.lst (L.map A6))∈Z:=by rw [<- hZ];simp
    have kvh:AS W.bu (.inr "held")=some (.ref a7):=by rw [hW];rfl
    have kvs:AS W.bu (.inr "stuck")=some (.ref a8):=by rw [hW];rfl
    have kvr:AS W.bu (.inr "shares")=some (.ref a9):=by rw [hW];rfl
    have inZ:∀{J:Hp}{rk:List AA}{b:Addr}{o:HO},At J (Fz a7 a8 a9 rk Z)->(b,o)∈Z->J b=some o:=λt m=>t.get (by simp [Fz,m]);clear pW
    refine CC g2 rfl ⟨⟨_,.of uF⟩,DW (K:=K) (a:=g2) (xs:=L.map A6) (λi σ J=>∃ rk y1 y2,σ=[some (.ref pt),some (.int long),some (.ref l),some (.int n),some (.ref g),some (.ref I),x,y,y1,y2]/\rk.map (·.w)=(L.take i).map (·.2.1)/\(∀ e∈rk,∃ t∈L,Tj e t)/\At J (Fz a7 a8 a9 rk Z)/\Ah ft J) ⟨[],none,none,rfl,rfl,(λe m=>nomatch m),u0,.refl⟩ (λi σ J _ ⟨_,_,_,_,_,_,t,_⟩=>.of (inZ t mG)) ?_ ?_⟩
    .intro i v σ J hi zq;replace zq:=BZ zq;obtain ⟨rk,y1,y2,rfl,ek,fr,u1,pu⟩:=zq;rw [Uj] at hi;obtain ⟨B,ht,rfl⟩:=Ag (UX.mp hi);have mt:=Uw ht;obtain ⟨b0,b1⟩:=nb0 B mt;have et:L.take (i+1)=L.take i++[B]:=by rw [VQ,ht];rfl
     have nw:B.2.1 ∉ rk.map (·.w):=by rw [ek];have:((L.take (i+1)).map (·.2.1)).Nodup:=fY.sublist ((YD _ _).map _);rw [et,Uy] at this;exact λm=>(Wn.mp this).2.2 _ m _ (UL.mpr rfl) rfl
     have lk:rk.length<sizeLine:=by have:=congrArg V9 ek;rw [T7,T7,VF] at this;rw [Uc];omega
     walk_at"";refine ⟨B.1,_,rfl,.of (pu.t (lay0 B mt)),rfl,?_⟩;walk_at"";refine ⟨Ax,λji gR=>?_⟩;walk_at"";refine Ue (Ue ⟨ji,B.2.2,[.aa],rfl,rfl,Al,by omega,by omega,(by rw [Vv,Uc];omega),λha uG=>?_⟩);rw [EL];have u2:At (upd (upd J ji (.lst [.aa])) ha (.lst (Ug B.2.2.toNat V.aa))) ((a7,.dK (A9 AA.ha rk)) :: (a8,.dK (A9 AA.ja rk)) :: (a9,.dK (A9 AA.sa rk)) :: ((rk.flatMap Ci++[(ha,.lst (Ug B.2.2.toNat V.aa))])++Z)):=At.mid (P:=[_,_,_]) (u1.same ((Ai.refl J).upd gR)) uG;have q2:Ah J (upd (upd J ji (.lst [.aa])) ha (.lst (Ug B.2.2.toNat V.aa))):=(Ah.new gR).trans (.new uG);generalize upd (upd J ji (.lst [.aa])) ha (.lst (Ug B.2.2.toNat V.aa))=H3 at u2 q2 ⊢;walk_at"";refine Ao I _ (.inr "held") _ rfl rfl (.of (u2.get (o:=.dK W.bu) (by simp [mW]))) kvh ?_;walk_at"";refine AU a7 _ rfl (.k (k:=.inr B.2.1) u2.hd (by unfold A9;rw [T7];exact lk)) ?_;have u3:=u2.ik (o':=.dK (AX (A9 AA.ha rk) (.inr B.2.1) (.ref ha)));have q3:Ah H3 (upd H3 a7 (.dK (AX (A9 AA.ha rk) (.inr B.2.1) (.ref ha)))):=.chg u2.hd rfl;generalize upd H3 a7 (.dK (AX (A9 AA.ha rk) (.inr B.2.1) (.ref ha)))=H4 at u3 q3 ⊢;walk_at"";refine ⟨Ax,λb2 gS=>?_⟩;walk_at"";refine Ue (Ue ⟨b2,B.2.2,[.bl false],rfl,rfl,Al,by omega,by omega,(by rw [Vv,Uc];omega),λja uH=>?_⟩);rw [EL];have u4:At (upd (upd H4 b2 (.lst [.bl false])) ja (.lst (Ug B.2.2.toNat (V.bl false)))) ((a7,.dK (AX (A9 AA.ha rk) (.inr B.2.1) (.ref ha))) :: (a8,.dK (A9 AA.ja rk)) :: (a9,.dK (A9 AA.sa rk)) :: (((rk.flatMap Ci++[(ha,.lst (Ug B.2.2.toNat V.aa))])++[(ja,.lst (Ug B.2.2.toNat (V.bl false)))])++Z)):=At.mid (P:=[_,_,_]) (u3.same ((Ai.refl H4).upd gS)) uH;have q4:Ah H4 (upd (upd H4 b2 (.lst [.bl false])) ja (.lst (Ug B.2.2.toNat (V.bl false)))):=(Ah.new gS).trans (.new uH);generalize upd (upd H4 b2 (.lst [.bl false])) ja (.lst (Ug B.2.2.toNat (V.bl false)))=pX at u4 q4 ⊢;walk_at"";refine Ao I _ (.inr "stuck") _ rfl rfl (.of (u4.get (o:=.dK W.bu) (by simp [mW]))) kvs ?_;walk_at"";refine AU a8 _ rfl (.k (k:=.inr B.2.1) u4.tl.hd (by unfold A9;rw [T7];exact lk)) ?_;have u5:=At.set (P:=[_]) (o':=.dK (AX (A9 AA.ja rk) (.inr B.2.1) (.ref ja))) u4;have q5:Ah pX (upd pX a8 (.dK (AX (A9 AA.ja rk) (.inr B.2.1) (.ref ja)))):=.chg u4.tl.hd rfl;generalize upd pX a8 (.dK (AX (A9 AA.ja rk) (.inr B.2.1) (.ref ja)))=j8 at u5 q5 ⊢;walk_at"";refine ⟨Ax,λb3 lU=>?_⟩;walk_at"";refine Ue (Ue ⟨b3,B.2.2,[.int 0],rfl,rfl,Al,by omega,by omega,(by rw [Vv,Uc];omega),λsa uI=>?_⟩);rw [EL];have u6:At (upd (upd j8 b3 (.lst [.int 0])) sa (.lst (Ug B.2.2.toNat (V.int 0)))) ((a7,.dK (AX (A9 AA.ha rk) (.inr B.2.1) (.ref ha))) :: (a8,.dK (AX (A9 AA.ja rk) (.inr B.2.1) (.ref ja))) :: (a9,.dK (A9 AA.sa rk)) :: ((((rk.flatMap Ci++[(ha,.lst (Ug B.2.2.toNat V.aa))])++[(ja,.lst (Ug B.2.2.toNat (V.bl false)))])++[(sa,.lst (Ug B.2.2.toNat (V.int 0)))])++Z)):=At.mid (P:=[_,_,_]) (u5.same ((Ai.refl j8).upd lU)) uI;have q6:Ah j8 (upd (upd j8 b3 (.lst [.int 0])) sa (.lst (Ug B.2.2.toNat (V.int 0)))):=(Ah.new lU).trans (.new uI);generalize upd (upd j8 b3 (.lst [.int 0])) sa (.lst (Ug B.2.2.toNat (V.int 0)))=uJ at u6 q6 ⊢;walk_at"";refine Ao I _ (.inr "shares") _ rfl rfl (.of (u6.get (o:=.dK W.bu) (by simp [mW]))) kvr ?_;walk_at"";refine AU a9 _ rfl (.k (k:=.inr B.2.1) u6.tl.tl.hd (by unfold A9;rw [T7];exact lk)) ?_;have u7:=At.set (P:=[_,_]) (o':=.dK (AX (A9 AA.sa rk) (.inr B.2.1) (.ref sa))) u6;have q7:Ah uJ (upd uJ a9 (.dK (AX (A9 AA.sa rk) (.inr B.2.1) (.ref sa)))):=.chg u6.tl.tl.hd rfl;obtain ⟨e,he⟩:∃ e:AA,e=⟨B.2.1,ha,ja,sa,Ug B.2.2.toNat .aa,Ug B.2.2.toNat (.bl false),Ug B.2.2.toNat (.int 0)⟩:=⟨_,rfl⟩;have ne:e.w ∉ rk.map (·.w):=by rw [he];exact nw
     refine BO (rk++[e]) _ _ rfl ⟨?_,λe' m=>?_,?_,pu.trans (q2.trans (q3.trans (q4.trans (q5.trans (q6.trans q7)))))⟩
     .rw [Uy,ek,et,Uy,he];rfl
     .rcases UU.mp m with m | m
      .exact fr e' m
      .rw [UL.mp m,he];exact ⟨B,mt,rfl,rfl,rfl,rfl⟩
     .unfold Fz;rw [<- Nx (f:=AA.ha) ne,<- Nx (f:=AA.ja) ne,<- Nx (f:=AA.sa) ne,Yq,he];rw [Uv (rk.flatMap Ci),Uv (rk.flatMap Ci)] at u7;exact u7
    .intro σ eA zq;replace zq:=BZ zq;obtain ⟨rk,y1,y2,rfl,ek,fr,u1,pu⟩:=zq;rw [T7,VL] at ek;have uK:At eA ((I,.dK W.bu) :: (VW.dE { W with zs:=zs,tr:=tr }).tail++(tr.flatMap BH++(Fz a7 a8 a9 rk D))):=by
      rw [<- hZ] at u1;have u2:=u1.perm (C':=(g2,.lst (L.map A6)) :: (VW.dE { W with zs:=zs,tr:=tr }++(tr.flatMap BH++Fz a7 a8 a9 rk D))) (KD λx=>by
       show XN x ([(g2,HO.lst (L.map A6))]++(VW.dE { W with zs:=zs,tr:=tr }++(tr.flatMap BH++([(a7,.dK (A9 AA.ha rk)),(a8,.dK (A9 AA.ja rk)),(a9,.dK (A9 AA.sa rk))]++(rk.flatMap Ci++D)))))=XN x ([(a7,HO.dK (A9 AA.ha rk)),(a8,.dK (A9 AA.ja rk)),(a9,.dK (A9 AA.sa rk))]++(rk.flatMap Ci++([(g2,.lst (L.map A6))]++(VW.dE { W with zs:=zs,tr:=tr }++(tr.flatMap BH++D)))));simp only [Y6];omega)
      have u3:=u2.tl;rw [hW] at u3 ⊢;exact u3
     obtain ⟨Y,hY⟩:∃ Y,Y=(VW.dE { W with zs:=zs,tr:=tr }).tail++(tr.flatMap BH++(Fz a7 a8 a9 rk D)):=⟨_,rfl⟩;have u1:At eA ((I,.dK W.bu) :: Y):=by rw [hY];exact uK
     clear uK
     walk_at"";refine ⟨Ax,λb1 gR=>?_⟩;walk_at"";refine Ue (Ue (BO b1 n [.int 0] rfl ⟨rfl,Al,by omega,by omega,(by rw [Vv,Uc];omega),λsp uL=>?_⟩));rw [EL];have u2:=(u1.same ((Ai.refl eA).upd gR)).new (u:=.lst (Ug n.toNat (V.int 0))) uL;have q2:Ah eA (upd (upd eA b1 (.lst [.int 0])) sp (.lst (Ug n.toNat (V.int 0)))):=(Ah.new gR).trans (.new uL);generalize upd (upd eA b1 (.lst [.int 0])) sp (.lst (Ug n.toNat (V.int 0)))=fu at u2 q2 ⊢;walk_at"";refine AU I _ rfl (.k (k:=.inr "spots") u2.tl.hd (by show 14<sizeLine;decide)) ?_;have u3:=At.set (P:=[_]) (o':=.dK (AX W.bu (.inr "spots") (.ref sp))) u2;have q3:Ah fu (upd fu I (.dK (AX W.bu (.inr "spots") (.ref sp)))):=.chg u2.tl.hd rfl;generalize upd fu I (.dK (AX W.bu (.inr "spots") (.ref sp)))=lV at u3 q3 ⊢;walk_at"";refine ⟨Ax,λb2 gS=>?_⟩;walk_at"";refine Ue (Ue (BO b2 n [.int 0] rfl ⟨rfl,Al,by omega,by omega,(by rw [Vv,Uc];omega),λst j9=>?_⟩));rw [EL];have u4:=(u3.same ((Ai.refl lV).upd gS)).new (u:=.lst (Ug n.toNat (V.int 0))) j9;have q4:Ah lV (upd (upd lV b2 (.lst [.int 0])) st (.lst (Ug n.toNat (V.int 0)))):=(Ah.new gS).trans (.new j9);generalize upd (upd lV b2 (.lst [.int 0])) st (.lst (Ug n.toNat (V.int 0)))=fA at u4 q4 ⊢;walk_at"";refine AU I _ rfl (.k (k:=.inr "steps") u4.tl.tl.hd (by show 15<sizeLine;decide)) ?_;have u5:=At.set (P:=[_,_]) (o':=.dK (AX (AX W.bu (.inr "spots") (.ref sp)) (.inr "steps") (.ref st))) u4;have q5:Ah fA (upd fA I (.dK (AX (AX W.bu (.inr "spots") (.ref sp)) (.inr "steps") (.ref st)))):=.chg u4.tl.tl.hd rfl;generalize upd fA I (.dK (AX (AX W.bu (.inr "spots") (.ref sp)) (.inr "steps") (.ref st)))=lP at u5 q5 ⊢;have q04:Ah H lP:=pV.trans ((Ah.of s6).trans (p7.trans (p9.trans (iH.trans (pu.trans (q2.trans (q3.trans (q4.trans q5))))))));walk_at"";have eW:I=W.w:=by rw [hW]
     rw [eW];refine q lP { W with zs:=zs,tr:=tr,rk:=rk,sp:=sp,st:=st,bI:=Ug n.toNat 0,cf:=Ug n.toNat 0 } ?_ ?_ q04
     .refine u5.perm (KD λc=>?_);rw [hY,<- hD,hW];show XN c ([(I,HO.dK (Dx long ln O da [a1,a2,a3,a4,a5,a6,a7,a8,a9]++[(.inr "spots",.ref sp),(.inr "steps",.ref st)]))]++([(a1,HO.dK (dS zs λ_=>.str "rests")),(a2,.dK (dS zs λ_=>.str "")),(a3,.dK (dS zs λ_=>.int 0)),(a4,.dK (Br tr)),(a5,.dK (dS zs λ_=>.aa)),(a6,.dK (dS zs λ_=>.aa))]++([(ln,.lst (aj.map V.str)),(O,.lst []),(da,.lst [])]++([(a7,.dK (A9 AA.ha rk)),(a8,.dK (A9 AA.ja rk)),(a9,.dK (A9 AA.sa rk))]++([(sp,.lst ((Ug n.toNat 0).map V.int))]++([(st,.lst ((Ug n.toNat 0).map V.int))]++(tr.flatMap BH++(rk.flatMap Ci++C))))))))=XN c ([(st,HO.lst (Ug n.toNat (V.int 0)))]++([(sp,HO.lst (Ug n.toNat (V.int 0)))]++([(I,HO.dK (Dx long ln O da [a1,a2,a3,a4,a5,a6,a7,a8,a9]++[(.inr "spots",.ref sp),(.inr "steps",.ref st)]))]++([(a1,HO.dK (dS zs λ_=>.str "rests")),(a2,.dK (dS zs λ_=>.str "")),(a3,.dK (dS zs λ_=>.int 0)),(a4,.dK (Br tr)),(a5,.dK (dS zs λ_=>.aa)),(a6,.dK (dS zs λ_=>.aa))]++(tr.flatMap BH++([(a7,.dK (A9 AA.ha rk)),(a8,.dK (A9 AA.ja rk)),(a9,.dK (A9 AA.sa rk))]++(rk.flatMap Ci++([(ln,.lst (aj.map V.str)),(O,.lst []),(da,.lst [])]++C))))))));rw [G6];simp only [Y6];omega
     .intro cq fB bx pU sN;rw [hW];exact Aij zn z1 pm jY bx pU sN g0 iO fY ek fr ez ev rfl rfl rfl rfl rfl rfl rfl rfl (λ_=>rfl) (λ_=>rfl) (λ_=>rfl) (λ_=>rfl) (λ_=>rfl)
theorem Ts:AR ["draw","long","figures","k"] ["draw","long"] (Ab (top 43)):=.of
theorem Nz:Nm (Ab (top 43)) "draw":=.of
theorem Aio:Nm (Ab (top 43)) "long":=.of
theorem KJ:Nm (Ab (top 43)) "figures":=.of
theorem Aip:Nm (Ab (top 43)) "k":=.of
theorem Aiq:Gm (Ab (top 43)) "range":=.of
theorem Air (F:AM K "_law_number" "_law_number" (top 43) f fd)(T:Txt K mg a):AF P w K mg base AB 1 f fd ["draw","long"] Qi:=by
 refine F.ok Ts λah A outer s H vs Q E Y h=>?_
 .replace h:=AY h;obtain ⟨d,l,rfl,l0,l1,q⟩:=h
  have hu:=Y.units;have D:=Ts.nd;refine ⟨_,(@Aj _ _ _ _ _ (A1 2 D KJ Ak)
    (Aj (CO Vp rfl (GA Aiq T.dW (Ac (Aa 1 Aio) Ae)) (Bo 3 D Aip) (Aj (A1 2 D KJ (As BL (Aa 2 KJ) (AK AL Ak (As Bz (Aa 0 Nz) Am) (λ_ _=>rfl))))
     (An (A1 0 D Nz (As DX (Aa 0 Nz) Am)))))
    (An (AO (Aa 2 KJ))))),?_⟩
  try dsimp only [av,aw]
  walk_at"";refine ⟨by omega,by omega,Hr (n:=l.toNat) (λi σ J=>∃(d:Int)(z:Str)(x:Option V),σ=[some (.int d),some (.int l),some (.str z),x]/\J=H/\z.length=i/\Cy z) ?_ ?_ ?_⟩
  .exact ⟨d,_,none,rfl,rfl,rfl,λc hc=>absurd hc (by show ¬ c∈[];simp)⟩
  .intro i σ J hi B;replace B:=BI B;obtain ⟨d,z,x,rfl,rfl,I,hd⟩:=B;walk_at"";obtain ⟨c,e1,e2⟩:=Ag (Fi (xs:=(Ud "0123456789").cps.toList) (k:=d % 10) (by omega) (by show d % 10<10;omega));have L:∀ m:Nat,m<10->∀ c,(Ud "0123456789").cps.toList[m]?=some c->48<=c/\c<=57:=by
    intro m hm c hc;have k:(Ud "0123456789").cps.toList.all (λc=>decide (48<=c/\c<=57))=true:=by decide +kernel
    simpa using V3.mp k c (Uw hc)
   have kc:=L _ (by omega) c e2;refine Ue (Ue (B1 _ _ c rfl rfl (by decide +kernel) e1 ?_));refine Ue (Uh (CV _ _ rfl rfl ?_ ?_))
   .rw [I,Uc];show i+1<=_;omega
   walk_at"";refine Bm _ _ _ rfl rfl ?_ ?_
   .rw [Fq,JP,U2,<- Fq,I];rfl
   .intro e O;rw [JP] at O;rcases UU.mp O with h | h
    .exact hd e h
    .have:e=c:=by simpa using h
     rw [this];exact kc
  .intro σ J B;replace B:=BI B;obtain ⟨d,z,x,rfl,rfl,I,hd⟩:=B;walk_at"";exact q z I hd
theorem IP {xs:List Int}{i:Int}(D:0<=i)(H:i<xs.length):∃ z,Cu (xs.map V.int) i=some (.int z)/\z∈xs:=by
 obtain ⟨v,I,B⟩:=Ag (Fi (xs:=xs.map V.int) D (by rw [T7];exact H));rw [Uj] at B;cases q:xs[i.toNat]? with
 | none=>rw [q] at B;cases B
 | some z=>rw [q] at B;cases B;exact ⟨z,I,Uw q⟩
theorem Ais {xs:List Str}{i:Int}(D:0<=i)(H:i<xs.length):∃ z,Cu (xs.map V.str) i=some (.str z)/\z∈xs:=by
 obtain ⟨v,I,B⟩:=Ag (Fi (xs:=xs.map V.str) D (by rw [T7];exact H));rw [Uj] at B;cases q:xs[i.toNat]? with
 | none=>rw [q] at B;cases B
 | some z=>rw [q] at B;cases B;exact ⟨z,I,Uw q⟩
theorem Tt (ks:List Str):(ks.map V.str).all C5=true:=by rw [vU,V3];exact λ_ _=>rfl
theorem Ait {B:List Int}(h:B.length=(8:Int).toNat):∃ D v1 H v3 I v5 J L,B=[D,v1,H,v3,I,v5,J,L]:=by
 match B,h with
 | [D,v1,H,v3,I,v5,J,L],_=>exact ⟨_,_,_,_,_,_,_,_,rfl⟩
theorem C9.put {H:Hp}{ts:List Pr}{g:Addr}{xs:List V}{o:HO}(h:C9 H ts)(B:H g=some (.lst xs)):C9 (upd H g o) ts:=λt m=>by
 rw [Au (IT (h t m) B (by intro z;cases z))];exact h t m
theorem Tu {z:Str}{k:Int}(B:0<=k):(DC z none (some k)).cps.toList=z.cps.toList.take k.toNat:=by
 obtain ⟨n,rfl⟩:=Yj B;show (Fg z.cps.toList none (some (n:Int))).toArray.toList=_;unfold Fg;rw [HT.qW,HT.qV,ZJ,ZK];have:(n:Int).toNat=n:=rfl;rw [this];simp only [List.toList_toArray];by_cases h:n<=z.cps.toList.length
 .rw [yx h]
 .rw [yy (by omega),VL,YN (by omega)]
theorem Tv {z:Str}{k:Int}(B:0<=k)(D:k<=z.length):(DC z none (some k)).length=k.toNat:=by rw [Fq,Tu B,VF,<- Fq];omega
theorem Tw {z:Str}{k:Int}(B:0<=k)(h:Cy z):Cy (DC z none (some k)):=λc hc=>by
 rw [Tu B] at hc;exact h c (yz hc)
theorem Aiu {x y:Str}(hx:Cy x)(hy:Cy y):Cy (x++y):=λc hc=>by
 rw [JP] at hc;rcases UU.mp hc with h | h
 .exact hx c h
 .exact hy c h
theorem Aiv (ns:List Int)(k:Int)(B:0<=k):Gs (ns.map V.int) none (some k)=(ns.take k.toNat).map V.int:=by
 obtain ⟨n,rfl⟩:=Yj B;unfold Gs;rw [HT.qW,HT.qV,ZJ,ZK,<- List.map_take,T7];have:(n:Int).toNat=n:=rfl;rw [this];by_cases h:n<=ns.length
 .rw [yx h]
 .rw [yy (by omega),VL,YN (by omega)]
noncomputable def EZ (z:Str)(k:Nat):Str:=DC z none (some (1+(k:Int)))
noncomputable def Es (z:Str)(hs:List Str)(n:Nat):List Str:=((Vj n).map (EZ z)).filter λy=>!decide (y∈hs)
theorem Aiw (z:Str)(hs:List Str)(n:Nat):Es z hs (n+1)=Es z hs n++if EZ z n∈hs then [] else [EZ z n]:=by
 unfold Es;rw [Y3,Uy,vQ];congr 1
 show List.filter _ [EZ z n]=_;rw [vR,vS];by_cases h:EZ z n∈hs
 .rw [if_pos h,decide_eq_true h];rfl
 .rw [if_neg h,decide_eq_false h];rfl
theorem Tx (z:Str)(hs:List Str)(n:Nat):(Es z hs n).length<=n:=by unfold Es;have:=vT (λy=>!decide (y∈hs)) ((Vj n).map (EZ z));rwa [T7,WS] at this
theorem NA {z:Str}{k:Nat}(h:k+1<=z.length):(EZ z k).length=k+1:=by unfold EZ;rw [Tv (by omega) (by omega)];omega
theorem Aix {z:Str}{hs:List Str}{n:Nat}(I:n+1<=z.length)(hd:Cy z)(B:hs.Nodup):(hs++Es z hs n).Nodup/\∀ y∈Es z hs n,(1<=y.length/\y.length<=n)/\Cy y:=by
 constructor
 .refine Wn.mpr ⟨B,?_,λx hx y hy e=>?_⟩
  .unfold Es;refine List.Pairwise.filter _ (YV.mpr (List.Pairwise.imp_of_mem (λ{i j} D H ne e=>?_) (xw (n:=n))));have J:=Vr.mp D;have L:=Vr.mp H;have:=congrArg Xp e;rw [NA (by omega),NA (by omega)] at this;omega
  .subst e;have:=(Xx.mp hy).2;rw [decide_eq_true hx] at this;cases this
 .intro y hy;obtain ⟨k,hk,rfl⟩:=Ag (Ur.mp (Xx.mp hy).1);have:=Vr.mp hk;rw [NA (by omega)];exact ⟨⟨by omega,by omega⟩,Tw (by omega) hd⟩
def Tz (K:T3):Sp:=λvs H Q _=>∃(p:Addr)(ns:List Int)(at_:Int),vs=[.ref p,.int at_]/\Bg K H p (ns.map V.int)/\ns.length<=63/\0<=at_/\at_<900 /\
 ∀(H':Hp)(t:Addr)(long:Int)(l:Addr)(bq:Int)(g:Addr)(zs:List Str)(ts:List Pr),Ai H H'->H' t=some (.tup [.int long,.ref l,.int bq,.ref g])->H' l=some (.lst (zs.map V.str))->H' g=some (.lst (ts.map A6))->C9 H' ts->J7 long bq zs ts->H t=none->H l=none->H g=none->l≠g->(∀ t∈ts,H t.1=none)->Q (.ref t) H'
theorem TB:AR ["script","at","plan","long","many","draws","stems","lines","k","keep","stem","line","heads","groups","draw","seekers"] ["script","at"] (Ab (top 44)):=.of
theorem TC:Nm (Ab (top 44)) "script":=.of
theorem TF:Nm (Ab (top 44)) "at":=.of
theorem DQ:Nm (Ab (top 44)) "plan":=.of
theorem FA:EI (Ab (top 44)) "long":=by walk_at "k"
theorem TH:Nm (Ab (top 44)) "many":=.of
theorem G7:Nm (Ab (top 44)) "draws":=.of
theorem NB:Nm (Ab (top 44)) "stems":=.of
theorem G8:Nm (Ab (top 44)) "lines":=.of
theorem E8:Nm (Ab (top 44)) "k":=.of
theorem NC:Nm (Ab (top 44)) "keep":=.of
theorem TK:Nm (Ab (top 44)) "stem":=.of
theorem KL:EI (Ab (top 44)) "line":=by walk_at "k"
theorem KN:EI (Ab (top 44)) "heads":=by walk_at "k"
theorem ND:Nm (Ab (top 44)) "groups":=.of
theorem IQ:Nm (Ab (top 44)) "draw":=.of
theorem TL:Nm (Ab (top 44)) "seekers":=.of
theorem NF:Gm (Ab (top 44)) "len":=.of
theorem NG:Gm (Ab (top 44)) "range":=.of
theorem Aiy:Gm (Ab (top 44)) "min":=.of
theorem TM:Gm (Ab (top 44)) "_law_number":=.of
theorem TN:Gm (Ab (top 44)) "_law_draws":=.of
noncomputable def KO:Scope:={ kind:=.function,names:=[(".0",.local),("size",.local),("heads",.free),("line",.free)],isGenerator:=false,isCoroutine:=false,more:=[] }
theorem TQ:BE KO (Ab (top 44)) ["size","heads","line"] ["script","at","plan","long","many","draws","stems","lines","k","keep","stem","line","heads","groups","draw","seekers"] [none,some 12,some 11]:=BE.mk' rfl (by decide +kernel) (by decide +kernel) (by decide +kernel) (by decide +kernel) rfl (by decide +kernel)
theorem NH:Nm KO "size":=.of
theorem Aiz:EJ KO "heads":=by walk_at "k"
theorem TR:EJ KO "line":=by walk_at "k"
noncomputable def KP:Scope:={ kind:=.function,names:=[(".0",.local),("draw",.local),("_law_number",.globalImplicit),("long",.free)],isGenerator:=false,isCoroutine:=false,more:=[] }
theorem TU:BE KP (Ab (top 44)) ["draw","long"] ["script","at","plan","long","many","draws","stems","lines","k","keep","stem","line","heads","groups","draw","seekers"] [none,some 3]:=BE.mk' rfl (by decide +kernel) (by decide +kernel) (by decide +kernel) (by decide +kernel) rfl (by decide +kernel)
theorem TV:Nm KP "draw":=.of
theorem AiA:EJ KP "long":=by walk_at "k"
theorem AiB:Gm KP "_law_number":=.of
theorem AiC (F:AM K "_law_plan" "_law_plan" (top 44) f fd)(T:TxtP K mg a)(gT:BB P w K mg base AB 2 "_law_draws" ["script","k","many","base"] (L5 K))(ka:BB P w K mg base AB 1 "_law_number" ["draw","long"] Qi) :
  AF P w K mg base AB 3 f fd ["script","at"] (Tz K):=by
 refine F.ok TB λah A outer s H vs Q E hr h=>?_
 .replace h:=BZ h;obtain ⟨p,ns,at_,rfl,hS,hn,a0,a1,q⟩:=h
  have hu:=hr.units;have Y:=TB.nd;refine ⟨_,(@Aj _ _ _ _ _ (A1 2 Y DQ (Bx gT TN hr.d A3 (Ac (Aa 0 TC) (Ac (Aa 1 TF) (Ac Am (Ac Am Ae))))))
    (Aj (HN 3 Y FA (AK AL (A0 (Jw rfl)) (As Bz (AK AL (Aa 2 DQ) Am (λ_ _=>rfl)) Am) (λ_ _=>rfl)))
    (Aj (A1 4 Y TH (AK AL (A0 (Ac (As BL Am (As Bz (AK AL (Aa 2 DQ) Am (λ_ _=>rfl)) Am)) (Ac (As BL Am (As Bz (AK AL (Aa 2 DQ) Am (λ_ _=>rfl)) Am)) (Ac Am (Ac (As BL Am (As Bz (AK AL (Aa 2 DQ) Am (λ_ _=>rfl)) Am)) Ae))))) (As Bz (AK AL (Aa 2 DQ) Am (λ_ _=>rfl)) Am) (λ_ _=>rfl)))
    (Aj (A1 5 Y G7 (Bx gT TN hr.d A3 (Ac (Aa 0 TC) (Ac (As BL (Aa 1 TF) Am) (Ac Am (Ac Am Ae))))))
    (Aj (Jz (j:=6) rfl Y rfl (Uh NB.loc) TU (Df (Hw Js (Aa 5 G7) Hu (Hv (As BL Am (As Bz (AK AL (Aa 2 DQ) Am (λ_ _=>rfl)) Am))))) (λcl C fp pins s₂ H₂=>(Bo 0 TU.nd TV.comp)) (λcl C fp pins s₂ H₂=>FQ) (λcl C fp pins s₂ H₂=>(Bx ka AiB.comp hr.d A3 (Ac (Aa 0 TV.comp) (Ac (Fn 1 AiA.comp) Ae)))) (by rfl) (by intro _;rfl) (Uh rfl))
    (Aj (A1 7 Y G8 (A0 Ae))
    (Aj (CO Vp rfl (GA NG T.dW (Ac (Aa 4 TH) Ae)) (Bo 8 Y E8) (Aj (A1 9 Y NC (AK AL (A0 (Ac (As Ec (BW 3 FA) Am) (Ac (As Ec (BW 3 FA) Am) (Ac (As Ec (BW 3 FA) Am) (Ac Am Ae))))) (As Bz (As DX (AK AL (Aa 5 G7) (Aa 8 E8) (λ_ _=>rfl)) Am) Am) (λ_ _=>rfl)))
     (Aj (A1 10 Y TK (Hw Js (AK AL (Aa 6 NB) (As Bz (AK AL (Aa 5 G7) (Aa 8 E8) (λ_ _=>rfl)) (BG Cp NF T.n_len Ca (Ac (Aa 6 NB) Ae))) (λ_ _=>rfl)) Hu (Hv (Aa 9 NC))))
     (Aj (HN 11 Y KL (As BL (Aa 10 TK) (Bx ka TM hr.d A3 (Ac (As BL (As B2 (As DX (AK AL (Aa 5 G7) (Aa 8 E8) (λ_ _=>rfl)) Am) Am) (As B2 (Aa 8 E8) (Aa 8 E8))) (Ac (As Ec (BW 3 FA) (Aa 9 NC)) Ae)))))
     (An (Ba (A5 Jr (BW 11 KL) (Aa 7 G8) (by with_unfolding_all rfl)) (An (Bi (Cm Ve Vy Vz C7 (Aa 7 G8) (Ac (BW 11 KL) Ae)))) Be))))))
    (Aj (HN 12 Y KN (A0 Ae))
    (Aj (CO Vp rfl (Df (As BL (Aa 7 G8) (A0 (Ac (Bx ka TM hr.d A3 (Ac (AK AL (Aa 2 DQ) Am (λ_ _=>rfl)) (Ac (BW 3 FA) Ae))) Ae)))) (AcL 11 Y KL) (An (Bi (Cm Ve PySem.F.slot_list_extend PySem.F.type_list_extend AbO (BW 12 KN) (Ac (Lq rfl TQ (AdK NG T.dW (Ac Am (Ac (As Ec (BW 3 FA) Am) Ae))) (λcl C fp pins s₂ H₂=>(Bo 0 TQ.nd NH.comp)) (λcl C fp pins s₂ H₂=>(Lm (A5 (AcR K rfl) (Hw (Pq K rfl) (Fn 2 TR.comp) Hu (Hv (Aa 0 NH.comp))) (Fn 1 Aiz.comp) (by with_unfolding_all rfl)))) (λcl C fp pins s₂ H₂=>(Hw (Pq K rfl) (Fn 2 TR.comp) Hu (Hv (Aa 0 NH.comp))))) Ae)))))
    (Aj (A1 13 Y ND (A0 Ae))
    (Aj (CO Vp rfl (GA NG T.dW (Ac (BG (AaZ rfl) Aiy T.sr Acu (Ac Am (Ac (BG Cp NF T.n_len Ca (Ac (BW 12 KN) Ae)) Ae))) Ae)) (Bo 8 Y E8) (Aj (A1 14 Y IQ (As DX (AK AL (Aa 5 G7) (As Ec Am (Aa 8 E8)) (λ_ _=>rfl)) Am))
     (An (Ba (A5 Jc (As Bz (Aa 14 IQ) Am) Am (Bb _)) (An (Bi (Cm Ve Vy Vz C7 (Aa 13 ND) (Ac (BN (Ac (AK AL (BW 12 KN) (Aa 8 E8) (λ_ _=>rfl)) (Ac (AK AL (A0 (Ac (As BL Am (As Bz (As DX (Aa 14 IQ) Am) Am)) (Ac (As Bz (As DX (Aa 14 IQ) Am) Am) (Ac Am Ae)))) (As Bz (As DX (Aa 14 IQ) Am) Am) (λ_ _=>rfl)) Ae))) Ae)))) Be))))
    (Aj (A1 15 Y TL (AK AL (A0 (Ac (As BL Am (As Bz (AK AL (Aa 2 DQ) Am (λ_ _=>rfl)) Am)) (Ac (As BL Am (As Bz (AK AL (Aa 2 DQ) Am (λ_ _=>rfl)) Am)) (Ac (BG Cp NF T.n_len Ca (Ac (Aa 7 G8) Ae)) (Ac (As BL Am (As Bz (AK AL (Aa 2 DQ) Am (λ_ _=>rfl)) Am)) Ae))))) (As Bz (AK AL (Aa 2 DQ) Am (λ_ _=>rfl)) Am) (λ_ _=>rfl)))
    (An (AO (BN (Ac (BW 3 FA) (Ac (Aa 7 G8) (Ac (Aa 15 TL) (Ac (Aa 13 ND) Ae))))))))))))))))))),?_⟩
  try dsimp only [av,aw]
  walk_at"";refine C8 p ns at_ _ _ rfl ⟨hS,a0,by omega,hn,by decide,by decide,by decide,by decide,λr row H1 s1 nr du uM fZ=>?_⟩;obtain ⟨v0,v1,v2,v3,v4,v5,v6,v7,rfl⟩:=Ait uM;have b0:=fZ v0 (by simp);have b1:=fZ v1 (by simp);have b2:=fZ v2 (by simp);have b3:=fZ v3 (by simp);have b4:=fZ v4 (by simp);have b5:=fZ v5 (by simp);have b6:=fZ v6 (by simp);clear fZ uM
  walk_at"";refine ⟨by decide,λl1 n1=>?_⟩;have s2:=s1.upd (o:=.lst [V.int 3,V.int 4,V.int 2,V.int 4]) n1;have jI:=((Ai.refl H1).upd (o:=.lst [V.int 3,V.int 4,V.int 2,V.int 4]) n1) _ _ du;obtain ⟨long,el,ml⟩:=Ag (IP (xs:=[3,4,2,4]) (i:=v0 % 4) (VI _ (by decide)) (VJ _ (by decide)));have g7:2<=long/\long<=4:=(by decide:∀ x∈([3,4,2,4]:List Int),2<=x/\x<=4) _ ml;walk_at"";refine Uh (Bw (.of Al) el ?_);generalize upd H1 l1 (.lst [V.int 3,V.int 4,V.int 2,V.int 4])=I at s2 jI ⊢;walk_at"";refine ⟨Ax,λl2 n2=>?_⟩;have s3:=s2.upd (o:=.lst [V.int (2+v1 % 9),V.int (1+v1 % 60),V.int 6,V.int (1+v1 % 24)]) n2;have jJ:=((Ai.refl I).upd (o:=.lst [V.int (2+v1 % 9),V.int (1+v1 % 60),V.int 6,V.int (1+v1 % 24)]) n2) _ _ jI;obtain ⟨J,em,mm⟩:=Ag (IP (xs:=[2+v1 % 9,1+v1 % 60,6,1+v1 % 24]) (i:=v2 % 4) (VI _ (by decide)) (VJ _ (by decide)));have aeH:1<=J/\J<=60:=by simp only [Uo,UZ,or_false] at mm;rcases mm with h | h | h | h<;>omega
  walk_at"";refine Uh (Bw (.of Al) em ?_);generalize upd I l2 (.lst [V.int (2+v1 % 9),V.int (1+v1 % 60),V.int 6,V.int (1+v1 % 24)])=H3 at s3 jJ ⊢;clear em mm el ml
  walk_at"";refine C8 p ns (at_+1) _ _ rfl ⟨s3.seq hS,by omega,by omega,hn,by decide,by decide,by decide,by decide,λd L H4 uN nd4 pY bV lX=>?_⟩;have s4:=s3.trans uN;have iA:=uN _ _ jJ;have bV:L.length=60:=bV;walk_at"";refine Ue (AU d _ rfl (.of pY) (λsl uO=>?_));rw [Aiv _ _ (by omega)];have s5:=s4.upd (o:=.lst ((L.take (1+v3 % 6).toNat).map V.int)) uO;have t5:=(Ai.refl H4).upd (o:=.lst ((L.take (1+v3 % 6).toNat).map V.int)) uO;have pZ:=t5 _ _ iA;have qb:=t5 _ _ pY;have kb:(upd H4 sl (.lst ((L.take (1+v3 % 6).toNat).map V.int))) sl=some (.lst ((L.take (1+v3 % 6).toNat).map V.int)):=Al;generalize upd H4 sl (.lst ((L.take (1+v3 % 6).toNat).map V.int))=H5 at s5 pZ qb kb ⊢;clear t5
  have uP:(L.take (1+v3 % 6).toNat).length=(1+v3 % 6).toNat:=by rw [VF];omega
  generalize L.take (1+v3 % 6).toNat=sd at kb uP ⊢;refine DY sl rfl ⟨_,.of kb⟩ (λst j9=>?_);refine LC (K:=K) (a:=sl) (xs:=sd.map V.int) (λi σ H'=>∃ x,σ=[x,some (.int long)]/\Ai H5 H'/\∃ ss:List Str,ss.length=i/\(∀ z∈ss,(z.length:Int)=long/\Cy z)/\H' st=some (.lst (ss.map V.str))) ⟨none,rfl,(Ai.refl H5).upd j9,[],rfl,λz hz=>absurd hz (by simp),Al⟩ (λi σ H' _ ⟨_,_,O,_⟩=>.of (O _ _ kb)) ?_ ?_
  .intro i y σ H' hi B;replace B:=Av B;obtain ⟨x,rfl,O,ss,e1,e2,e3⟩:=B;have jy:i<sd.length:=by have:=(US.mp hi).1;rwa [T7] at this
   rw [Uj] at hi;cases hk:sd[i]? with
   | none=>rw [hk] at hi;cases hi
   | some v =>
    rw [hk] at hi;cases hi;walk_at"";refine ⟨by omega,by omega,λz hz dz=>?_⟩;refine ⟨_,e3,?_,_,rfl,O.cj j9,ss++[z],?_,?_,?_⟩
    .rw [T7,e1,Uc];omega
    .rw [U2,e1];rfl
    .intro y hy;rcases UU.mp hy with m | m
     .exact e2 y m
     .rw [UL.mp m];exact ⟨by omega,dz⟩
    .rw [Al,Uy];rfl
  intro σ6 H6 B;replace B:=Av B;obtain ⟨x6,rfl,qc,ss,ess,hss,aL⟩:=B;rw [T7,uP] at ess;have s6:=s5.trans qc;have uQ:=qc _ _ pZ;have qd:=qc _ _ qb;clear kb pZ qb iA pY jJ jI du
  walk_at"";refine ⟨Ax,λln iN=>?_⟩;have fln:H ln=none:=s6.free iN;walk_at"";refine ⟨by omega,by omega,Hr (n:=J.toNat) (λi σ I=>∃ x8 x9 fD fE,σ=[some (.ref p),some (.int at_),some (.ref r),some (.int long),some (.int J),some (.ref d),some (.ref st),some (.ref ln),x8,x9,fD,fE,none,none,none,none]/\Ai H6 I/\∃ zs:List Str,I ln=some (.lst (zs.map V.str))/\zs.Nodup/\zs.length<=i/\(0<i->1<=zs.length)/\∀ z∈zs,(z.length:Int)=long/\Cy z) ?_ ?_ ?_⟩
  .exact ⟨none,none,none,none,rfl,(Ai.refl H6).upd iN,[],Al,Wo,Uq _,λh=>absurd h (VA _),λz hz=>absurd hz (by simp)⟩
  .intro i σ I hi B;replace B:=Cj B;obtain ⟨x8,x9,fD,fE,rfl,O,zs,hz,lY,lz,pz,oz⟩:=B;simp only [Yp];have hd2:=O _ _ qd;have aca:=O _ _ aL;have jy:(i:Int)<L.length:=by omega
   have ei:=Fj (ns:=L) (k:=(i:Int)) (by omega) jy;have eb:0<=L.getD ((i:Int)).toNat 0/\L.getD ((i:Int)).toNat 0<10080:=by
    have ak:((i:Int)).toNat<L.length:=by omega
    rw [UM,Uu ak];exact lX _ (Wz ak)
   generalize L.getD ((i:Int)).toNat 0=e at ei eb;walk_at"";refine ⟨Ax,λl3 n3=>?_⟩;have eB:=O.upd (o:=.lst [V.int (long - 1),V.int (long - 2),V.int (long - 1),V.int 0]) n3;have t3:=(Ai.refl I).upd (o:=.lst [V.int (long - 1),V.int (long - 2),V.int (long - 1),V.int 0]) n3;have lZ:=t3 _ _ hd2;have qe:=t3 _ _ aca;have kf:=t3 _ _ hz;obtain ⟨keep,ek,mk⟩:=Ag (IP (xs:=[long - 1,long - 2,long - 1,0]) (i:=e / 6 % 4) (VI _ (by decide)) (VJ _ (by decide)));have uR:0<=keep/\keep<=long:=by simp only [Uo,UZ,or_false] at mk;rcases mk with h | h | h | h<;>omega
   walk_at"";refine Uh (Bw (.of lZ) ei ?_);walk_at"";refine Uh (Bw (.of Al) ek ?_);generalize upd I l3 (.lst [V.int (long - 1),V.int (long - 2),V.int (long - 1),V.int 0])=sX at eB lZ qe kf ⊢;clear ek mk t3
   walk_at"";refine Uh (Bw (.of lZ) ei ?_);walk_at"";refine Ue (AU _ _ rfl (.inl (.of qe)) ?_);rw [T7];have acb:0<(ss.length:Int):=by omega
   walk_at"";obtain ⟨iP,es,ms⟩:=Ag (Ais (xs:=ss) (i:=e % ss.length) (VI _ (by omega)) (VJ _ acb));obtain ⟨ls,ds⟩:=hss iP ms;refine Uh (Bw (.of qe) es ?_);walk_at"";refine Uh (DY iP rfl (by rw [Uc];omega) ?_);walk_at"";refine Uh (Bw (.of lZ) ei ?_);have ii:(i:Int)<60:=by omega
   walk_at"";refine ⟨by omega,by omega,λz2 uS dz2=>?_⟩;have lc:=Tv (z:=iP) uR.1 (by omega);have dl:Cy (DC iP none (some keep)++z2):=Aiu (Tw uR.1 ds) dz2;have ll:((DC iP none (some keep)++z2).length:Int)=long:=by rw [Bk,lc,uS];omega
   refine Ue (Uh (CV _ _ rfl rfl (by rw [lc,uS,Uc];omega) ?_));generalize DC iP none (some keep)++z2=line at dl ll ⊢;walk_at"";refine Ue (DL ln (zs.map V.str) rfl (.inl (.of kf)) rfl (Tt zs) ?_);simp only [if_true];rw [Kj];walk_at"";by_cases hm:line∈zs
   .rw [decide_eq_true hm];refine Cn ?_;exact Hz _ _ _ _ rfl ⟨eB,zs,kf,lY,by omega,λ_=>Z9 hm,oz⟩
   .rw [decide_eq_false hm];refine Co ?_;walk_at"";refine ⟨.inl ⟨rfl,_,.of kf⟩,?_⟩;walk_at"";refine B1 ln _ _ rfl rfl kf (by rw [T7,Uc];omega) ?_;refine Hz _ _ _ _ rfl ⟨eB.cj iN,zs++[line],?_,?_,?_,?_,?_⟩
    .rw [Al,Uy];rfl
    .exact Wn.mpr ⟨lY,UH.mpr ⟨by simp,Wo⟩,λx hx y hy z=>by rw [UL.mp hy] at z;exact hm (z▸hx)⟩
    .rw [U2];simp;omega
    .intro _;rw [U2];simp
    .intro y hy;rcases UU.mp hy with m | m
     .exact oz y m
     .rw [UL.mp m];exact ⟨ll,dl⟩
  .intro σ7 H7 B;replace B:=Cj B;obtain ⟨x8,x9,fD,fE,rfl,qg,zs,hz,lY,lz,pz,oz⟩:=B;have lz1:1<=zs.length:=pz (by omega);have lz2:zs.length<=60:=by omega
   have s7:=s6.trans qg;have jE:=qg _ _ uQ;have uT:=qg _ _ qd;clear aL uQ qd pz lz
   walk_at"";refine ⟨Ax,λhh qh=>?_⟩;have fhh:H hh=none:=s7.free qh;have t8:=(Ai.refl H7).upd (o:=.lst []) qh;have hr8:=t8 _ _ jE;have hd8:=t8 _ _ uT;have uU:=t8 _ _ hz;have s8:=s7.trans t8;have qi:(upd H7 hh (.lst [])) hh=some (.lst (([]:List Str).map V.str)):=Al;generalize upd H7 hh (.lst [])=H8 at t8 hr8 hd8 uU s8 qi ⊢;walk_at"";refine ⟨by omega,by omega,λz4 hz4 dz4=>?_⟩;refine ⟨Ax,λl4 n4=>?_⟩;have t9:=(Ai.refl H8).upd (o:=.lst [V.str z4]) n4;refine Ue (Ue (Bn ln l4 _ _ rfl rfl (t9 _ _ uU) Al (by rw [T7,Uc];simp;omega) (λl5 n5=>?_)));have e5:zs.map V.str++[V.str z4]=(zs++[z4]).map V.str:=by rw [Uy];rfl
   rw [e5];have ta:=t9.upd (o:=.lst ((zs++[z4]).map V.str)) n5;have ha:(upd (upd H8 l4 (.lst [V.str z4])) l5 (.lst ((zs++[z4]).map V.str))) l5=some (.lst ((zs++[z4]).map V.str)):=Al;have nlh:l5≠hh:=λz=>by rw [z,t9 _ _ qi] at n5;cases n5
   generalize upd (upd H8 l4 (.lst [V.str z4])) l5 (.lst ((zs++[z4]).map V.str))=Ha at ta ha ⊢;clear t9 e5 n4 n5
   have oz4:∀ z∈zs++[z4],(z.length:Int)=long/\Cy z:=λy hy=>by
    rcases UU.mp hy with m | m
    .exact oz y m
    .rw [UL.mp m];exact ⟨by omega,dz4⟩
   have lz4:(zs++[z4]).length<=61:=by rw [U2];simp;omega
   walk_at"";refine ⟨⟨_,.of ha⟩,DW (K:=K) (a:=l5) (xs:=(zs++[z4]).map V.str) (λi σ I=>∃ x8 x9 fD fE,σ=[some (.ref p),some (.int at_),some (.ref r),some (.int long),some (.int J),some (.ref d),some (.ref st),some (.ref ln),x8,x9,fD,fE,some (.ref hh),none,none,none]/\CA [hh] Ha I/\∃ hs:List Str,I hh=some (.lst (hs.map V.str))/\hs.Nodup/\hs.length<=4 * i/\∀ z∈hs,(1<=z.length/\(z.length:Int)<=long - 2)/\Cy z)
    ⟨_,_,_,_,rfl,λb o _ e=>e,[],ta _ _ qi,Wo,Uq _,λz hz=>absurd hz (by simp)⟩ (λi σ I _ ⟨_,_,_,_,_,O,_⟩=>.of (O _ _ (by simpa using nlh) ha)) ?_ ?_⟩
   .intro i y σ I hi B;replace B:=Cj B;obtain ⟨x8,x9,fD,fE,rfl,O,hs,hH,qj,lh,oh⟩:=B;have jy:i<(zs++[z4]).length:=by have:=(US.mp hi).1;rwa [T7] at this
    rw [Uj] at hi;cases hk:(zs++[z4])[i]? with
    | none=>rw [hk] at hi;cases hi
    | some z =>
     rw [hk] at hi;cases hi;obtain ⟨zl,zd⟩:=oz4 z (Uw hk);walk_at"";refine ⟨.inl ⟨rfl,_,.of hH⟩,?_⟩;walk_at"";refine ⟨⟨by omega,by omega,by omega,by omega⟩,λD nD=>?_⟩;refine Pp (lo:=1) (n:=(long - 1 - 1).toNat) (λk σ H3=>∃ x,σ=[x,some (.ref hh),some (.str z)]/\Ai I H3/\H3 D=some (.lst ((Es z hs k).map V.str))) ⟨none,rfl,(Ai.refl I).upd nD,Al⟩ ?_ ?_
     .intro k σ H3 hk' B;replace B:=Av B;obtain ⟨x,rfl,eB,hL⟩:=B;walk_at"";refine Uh (DY z rfl (by rw [Uc];omega) ?_);walk_at"";refine Ue (DL hh (hs.map V.str) rfl (.inl (.of (eB _ _ hH))) rfl (Tt hs) ?_);simp only [if_true];rw [Kj];walk_at"";have es:=Aiw z hs k;by_cases hm:EZ z k∈hs
      .have jg:DC z none (some (1+(k:Int)))∈hs:=hm;rw [decide_eq_true jg];refine Cn ?_;rw [if_pos hm,Vu] at es;exact ⟨_,rfl,eB,by rw [es];exact hL⟩
      .have jg:DC z none (some (1+(k:Int))) ∉ hs:=hm;rw [decide_eq_false jg];refine Co ?_;walk_at"";refine Uh (DY z rfl (by rw [Uc];omega) ?_);rw [if_neg hm] at es;have:=Tx z hs k;refine ⟨_,hL,(by rw [T7,Uc];omega),_,rfl,eB.cj nD,?_⟩;rw [Al,es,Uy];rfl
     .intro σ H3 B;replace B:=Av B;obtain ⟨x,rfl,eB,hL⟩:=B;have nl:=Tx z hs (long - 1 - 1).toNat;obtain ⟨ok1,fj⟩:=Aix (z:=z) (hs:=hs) (n:=(long - 1 - 1).toNat) (by omega) zd qj;refine Bn hh D _ _ rfl rfl (eB _ _ hH) hL (by rw [T7,T7,Uc];omega) ?_;refine Hz _ _ _ _ rfl ⟨λb o hb e=>by rw [Au (by simpa using hb)];exact eB _ _ (O b o hb e),hs++Es z hs (long - 1 - 1).toNat,by rw [Al,Uy],ok1,by rw [U2];omega,λy hy=>?_⟩;rcases UU.mp hy with m | m
      .exact oh y m
      .obtain ⟨⟨g1,g2⟩,g3⟩:=fj y m;exact ⟨⟨g1,by omega⟩,g3⟩
   .intro σb Hb B;replace B:=Cj B;obtain ⟨x8b,x9b,aeI,aeJ,rfl,smb,hs,hH,qj,lh,oh⟩:=B;rw [T7] at lh;have nrh:∀ {b o},H7 b=some o->b ∉ [hh]:=λe z=>by rw [UL.mp z,qh] at e;cases e
    have l8:∀ {b o},H7 b=some o->Hb b=some o:=λe=>smb _ _ (nrh e) (ta _ _ (t8 _ _ e));have hrb:=l8 jE;have dj:=l8 uT;have uV:=l8 hz;have sb:Ai H Hb:=λb o e=>l8 (s7 _ _ e);walk_at"";refine ⟨Ax,λgg md=>?_⟩;have fgg:H gg=none:=sb.free md;have tc:=(Ai.refl Hb).upd (o:=.lst []) md;have gc:(upd Hb gg (.lst [])) gg=some (.lst (([]:List Pr).map A6)):=Al;generalize upd Hb gg (.lst [])=Hc at tc gc ⊢;walk_at"";refine Ue (AU _ _ rfl (.inl (.of (tc _ _ hH))) ?_);rw [T7];walk_at"";have mn:0<=(if (hs.length:Int)<40 then (hs.length:Int) else 40)/\(if (hs.length:Int)<40 then (hs.length:Int) else 40)<=40/\(if (hs.length:Int)<40 then (hs.length:Int) else 40)<=hs.length:=by split<;>omega
    generalize (if (hs.length:Int)<40 then (hs.length:Int) else 40)=mm at mn ⊢;refine ⟨by omega,by omega,Hr (n:=mm.toNat) (λi σ I=>∃ x8 x9 fD fE uW,σ=[some (.ref p),some (.int at_),some (.ref r),some (.int long),some (.int J),some (.ref d),some (.ref st),some (.ref ln),x8,x9,fD,fE,some (.ref hh),some (.ref gg),uW,none]/\Ai Hb I/\∃ ts:List Pr,I gg=some (.lst (ts.map A6))/\C9 I ts/\(ts.map (·.2.1)).Sublist (hs.take i)/\(∀ t∈ts,(0<=t.2.2/\t.2.2<=10)/\H t.1=none)) ?_ ?_ ?_⟩
    .exact C8 _ _ _ _ none rfl ⟨tc,[],gc,λt m=>absurd m (by simp),VR _,λt m=>absurd m (by simp)⟩
    .intro i σ I hi B;replace B:=Et B;obtain ⟨x8,x9,fD,fE,uW,rfl,O,ts,hG,lay,sub,ok⟩:=B;simp only [Yp];have hd2:=O _ _ dj;have lu:=O _ _ hH;have uX:ts.length<=i:=by have:=sub.length_le;rw [T7,VF] at this;omega
     have ei:=Fj (ns:=L) (k:=59 - (i:Int)) (by omega) (by omega);have eb:0<=L.getD (59 - (i:Int)).toNat 0/\L.getD (59 - (i:Int)).toNat 0<10080:=by
      have ak:(59 - (i:Int)).toNat<L.length:=by omega
      rw [UM,Uu ak];exact lX _ (Wz ak)
     generalize L.getD (59 - (i:Int)).toNat 0=e at ei eb;have uY:i<hs.length:=by omega
     walk_at"";refine Uh (Bw (.of hd2) ei ?_);walk_at"";have tk:hs.take (i+1)=hs.take i++[hs[i]]:=by rw [VQ,Uu uY];rfl
     by_cases hp:e / 7 % 9 > 0;case neg =>
      refine ED (decide_eq_false hp) ?_;exact C8 _ _ _ _ _ rfl ⟨O,ts,hG,lay,by rw [tk];exact sub.trans (List.sublist_append_left _ _),ok⟩
     refine EC (decide_eq_true hp) ?_;walk_at"";refine ⟨.inl ⟨rfl,_,.of hG⟩,?_⟩;have eh:Cu (hs.map V.str) (i:Int)=some (.str hs[i]):=by obtain ⟨v,e1,e2⟩:=Ag (Fi (xs:=hs.map V.str) (k:=(i:Int)) (by omega) (by rw [T7];omega));rw [e1,<- e2];show (hs.map V.str)[i]?=_;rw [Uj,Uu uY];rfl
     walk_at"";refine Uh (Bw (.of lu) eh ?_);walk_at"";refine ⟨Ax,λl6 n6=>?_⟩;obtain ⟨mv,em,uZ⟩:=Ag (IP (xs:=[1+e / 7 / 9 % 3,e / 7 / 9 % 11,1]) (i:=e / 7 / 99 % 3) (VI _ (by decide)) (VJ _ (by decide)));have hmv:0<=mv/\mv<=10:=by simp only [Uo,UZ,or_false] at uZ;rcases uZ with h | h | h<;>omega
     have td:=(Ai.refl I).upd (o:=.lst [V.int (1+e / 7 / 9 % 3),V.int (e / 7 / 9 % 11),V.int 1]) n6;walk_at"";refine Uh (Bw (.of Al) em ?_);generalize upd I l6 (.lst [V.int (1+e / 7 / 9 % 3),V.int (e / 7 / 9 % 11),V.int 1])=H3 at td ⊢;refine ⟨Ax,λtt gM=>?_⟩;have te:=td.upd (o:=.tup [V.str hs[i],V.int mv]) gM;have gt:(upd H3 tt (.tup [V.str hs[i],V.int mv])) tt=some (.tup [V.str hs[i],V.int mv]):=Al;have ftt:I tt=none:=td.free gM;generalize upd H3 tt (.tup [V.str hs[i],V.int mv])=H4 at te gt ⊢;have u9:=te _ _ hG;walk_at"";refine B1 gg _ _ rfl rfl u9 (by rw [T7,Uc];omega) ?_;refine C8 _ _ _ _ _ rfl ⟨(O.trans te).cj md,ts++[(tt,hs[i],mv)],?_,?_,?_,?_⟩
     .rw [Al,Uy];rfl
     .refine C9.put (λt m=>?_) u9;rcases UU.mp m with z | z
      .exact te _ _ (lay t z)
      .rw [UL.mp z];exact gt
     .rw [tk,Uy];exact sub.append (VR _)
     .intro t m;rcases UU.mp m with z | z
      .exact ok t z
      .rw [UL.mp z];exact ⟨hmv,(sb.trans O).free ftt⟩
    .intro σd Hd B;replace B:=Et B;obtain ⟨y8,y9,y10,y11,y14,rfl,mf,ts,hG,lay,sub,ok⟩:=B;have qY:=mf _ _ hrb;have vb:=mf _ _ uV;walk_at"";refine Ue (AU _ _ rfl (.inl (.of vb)) ?_);rw [T7];walk_at"";refine ⟨Ax,λl7 n7=>?_⟩;have tf:=(Ai.refl Hd).upd (o:=.lst [V.int (1+v5 % 4),V.int (1+v5 % 60),V.int zs.length,V.int (1+v5 % 8)]) n7;have hre:=tf _ _ qY;obtain ⟨bq,em,vc⟩:=Ag (IP (xs:=[1+v5 % 4,1+v5 % 60,(zs.length:Int),1+v5 % 8]) (i:=v6 % 4) (VI _ (by decide)) (VJ _ (by decide)));have ve:1<=bq/\bq<=60:=by
      simp only [Uo,UZ,or_false] at vc;rcases vc with h | h | h | h<;>omega
     walk_at"";refine Uh (Bw (.of Al) em ?_);generalize upd Hd l7 (.lst [V.int (1+v5 % 4),V.int (1+v5 % 60),V.int zs.length,V.int (1+v5 % 8)])=He at tf hre ⊢;walk_at"";refine ⟨Ax,λtt gM=>?_⟩;have tg:=tf.upd (o:=.tup [V.int long,V.ref ln,V.int bq,V.ref gg]) gM;have fW:=sb.trans (mf.trans tg);have uX:ts.length<=40:=by have:=sub.length_le;rw [T7,VF] at this;omega
     refine q _ tt long ln bq gg zs ts fW Al (tg _ _ vb) (tg _ _ hG) (lay.same tg) ⟨⟨g7.1,g7.2,ve.1,ve.2⟩,⟨⟨lz1,lz2⟩,oz,lY⟩,uX,λt m=>?_,?_⟩ ((sb.trans (mf.trans tf)).free gM) fln fgg (B6 uV md) λt m=>(ok t m).2
     .obtain ⟨⟨g1,g2⟩,g3⟩:=oh t.2.1 (yz (sub.subset (Ur.mpr ⟨t,m,rfl⟩)));exact ⟨⟨by omega,g2⟩,g3,(ok t m).1⟩
     .exact (qj.sublist (YD _ _)).sublist sub
section
variable {S:PS}{i j:Nat}{ln lo:Ln}
theorem NI:∀(ts:List (Str×Int))(S:PS),(aq S ts).sk.hs.length=S.sk.hs.length
 | [],_=>rfl
 | t :: ts,S=>(NI ts _).trans (by
  unfold aB;split
  .exact UE
  .rfl)
theorem AiD:(Bq S j lo).2.sk.hs.length=S.sk.hs.length:=by unfold Bq;split<;>exact NI ..
theorem LW.acd (d:LW):(d.go S i ln).2.sk.hs.length=S.sk.hs.length:=by
 cases d with
 | lift =>
  show (BY S i ln).2.sk.hs.length=_;unfold BY;split
  .rfl
  .split
   .rfl
   .split<;>rfl
 | bz =>
  have B:(au S ln).sk.hs.length=S.sk.hs.length:=by unfold au;split<;>rfl
  refine (NI ..).trans ?_;unfold BU;split
  .exact B
  .split
   .exact B
   .exact AiD.trans B
theorem TX:∀(n:Nat)(S:PS),(aC n S).2.sk.hs.length=S.sk.hs.length
 | 0,_=>rfl
 | n+1,S=>by
  unfold aC;split
  .rfl
  .rename_i x e
   refine (TX n _).trans ?_;unfold Dk at e;split at e
   .cases e
   .split at e
    .cases e
    .split at e
     .cases e
     .cases e;exact UE
theorem A8.ace {d:A8}{r:List PyData×PS}(e:d.res S=.inr r)(dd:Addr):(B3 (Cs r.2 dd)).2.sk.hs.length=S.sk.hs.length:=by
 refine (TX ..).trans ?_;show r.2.sk.hs.length=_;cases d with
 | bf b z k =>
  unfold A8.res at e;dsimp only at e;split at e
  .cases e
  .split at e
   .cases e;show (BQ S b z k).sk.hs.length=_;unfold BQ;split<;>rfl
   .cases e
 | line d z =>
  unfold A8.res at e;dsimp only at e;split at e
  .cases e
  .split at e
   .cases e;exact d.acd
   .cases e
end
def B5 (S:PS):Prop:=∀ ln∈S.lns,ln.st=Bh.rests.s\/ln.st=Bh.bF.s\/ln.st=Bh.cP.s
section
variable {S:PS}{i:Nat}{ln:Ln}
theorem B5.set {l:List Ln}(h:∀ ln∈l,ln.st=Bh.rests.s\/ln.st=Bh.bF.s\/ln.st=Bh.cP.s){y:Ln}(t:y.st=Bh.rests.s\/y.st=Bh.bF.s\/y.st=Bh.cP.s):∀ ln∈l.set i y,ln.st=Bh.rests.s\/ln.st=Bh.bF.s\/ln.st=Bh.cP.s:=λln m=>(F8 m).elim (λe=>e▸t) (h ln)
theorem B5.aC:∀(n:Nat){S:PS},B5 S->B5 (aC n S).2
 | 0,_,h=>h
 | n+1,S,h=>by
  unfold Lw.aC;split
  .exact h
  .rename_i x e
   refine B5.aC n ?_;unfold Dk at e;split at e
   .cases e
   .split at e
    .cases e
    .split at e
     .cases e
     .cases e;exact B5.set h (.inr (.inr rfl))
theorem B5.lift (s:B5 S)(h:S.lns[i]?=some ln)(e:ln.st=Bh.rests.s):LW.lift.fits ln=true/\B5 (LW.lift.go S i ln).2:=by refine ⟨by unfold LW.fits;rw [e,decide_eq_true (show Bh.rests.s∈LW.lift.cv by decide +kernel)];rfl,?_⟩;show B5 (BY S i ln).2;rw [show BY S i ln=_ from if_pos e];exact B5.set s (.inr (.inl rfl))
theorem B5.bz (s:B5 S)(w:WF S)(h:S.lns[i]?=some ln)(e:ln.st≠Bh.rests.s):LW.bz.fits ln=true/\B5 (LW.bz.go S i ln).2:=by
 have c:=(s ln (Uw h)).resolve_left e;have fn:ln.ag=none:=by
  rcases c with c | c
  .exact ((w.l i ln h).way (w:=.bF) c).2.1
  .exact ((w.l i ln h).way (w:=.cP) c).1
 refine ⟨?_,?_⟩
 .unfold LW.fits;rw [decide_eq_true (show ln.st∈LW.bz.cv by rcases c with c | c<;>(rw [c];decide +kernel))];rfl
 .show B5 (aH (BU (au S ln) ln).2 i ln);rw [show BU (au S ln) ln=([],au S ln) by simp only [BU,fn]];show ∀ x∈(au S ln).lns.set i _,_;rw [GU];exact B5.set s (.inl rfl)
structure KQ (S:PS)(d:A8)(r:List PyData×PS):Prop where
 e:d.res S=.inr r
 s:B5 r.2
theorem B5.iL (s:B5 S)(w:WF S)(h:S.lns[i]?=some ln){d:LW}(f:d.fits ln=true)(g:B5 (d.go S i ln).2):KQ S (.line d ln.num) (d.go S i ln):=by refine ⟨?_,g⟩;have B:=GS w h;simp only [A8.res,B,h,if_pos f]
theorem B5.acf (s:B5 S)(b:Bool){k:Int}(k0:0<=k)(k1:k<S.sk.hs.length):KQ S (.bf b (Ud "") k) ([],BQ S b (Ud "") k):=by
 refine ⟨?_,?_⟩
 .have:Cg S (Ud "")=some S.sk.hs:=if_pos rfl;simp only [A8.res,this,if_pos (Ei.mpr ⟨k0,k1⟩)]
 .show ∀ x∈(BQ S b (Ud "") k).lns,_;rw [Gb.1];exact s
end
def KR (K:T3):Sp:=λvs H Q _=>∃(p:Addr)(ns:List Int),vs=[.ref p]/\Bg K H p (ns.map V.int)/\ns.length<=63/\∀ H',Q (.bl true) H'
structure AiE (K:T3)(a:Aq)(H:Hp)(X:HX)(W:VW)(R:AH)(n:Int)(dl:List Addr)(ds:List PyData):Prop where
 bt:BT K a H X W R
 wf:WF X.S
 wx:WX X.S
 si:B5 X.S
 hn:(X.S.sk.hs.length:Int)=n
 dn:X.dn=dl.map V.ref
 td:BC K H dl ds
 ld:∀ d∈ds,By 2 d
noncomputable def A8.data:A8->PyData
 | .bf b w k=>.tuple [.str (F4 b),.str w,.int k]
 | .line d z=>.tuple [.str d.wo,.str z]
theorem AiF {K:T3}{H:Hp}{dd:Addr}(d:A8)(h:H dd=some (.tup d.vals)):Is K H (.ref dd) d.data:=by
 cases d with
 | bf b w k=>exact .tup (.of h) (.cons (.str _) (.cons (.str _) (.cons (.int _) .nil)))
 | line d z=>exact .tup (.of h) (.cons (.str _) (.cons (.str _) .nil))
theorem AiG (d:A8)(t:d.txt):By 2 d.data:=by
 cases d with
 | bf b w k=>exact (By.tup (n:=0) (Nq (.str (by cases b<;>exact asc)) (.str t.1) (.int _))).up (by decide)
 | line d z=>exact (By.tup (n:=0) (G5 (.str (by cases d<;>exact asc)) (.str t.1))).up (by decide)
theorem AiH {i:Nat}{x:V}{σ:St}{H:Hp}{Q:St->Hp->Prop}(h:Q (σ.set i (some x)) H):Ez i x σ H Q:=h
theorem AiI (d:A8):Dj d.data=true:=by cases d<;>rfl
theorem At.acg {H:Hp}{a:Aq}{W:VW}{X:HX}{R:AH}{b:Addr}{o:HO}(t:At H (W.C ((b,o) :: AZ a X R))):At H (W.C (AZ a X ((b,o) :: R))):=by
 have B:W.C ((b,o) :: AZ a X R)=W.C []++([(b,o)]++(AZ a X []++R)):=by rw [VW.iK,EW (R:=R)];rfl
 have D:W.C (AZ a X ((b,o) :: R))=W.C []++(AZ a X []++([(b,o)]++R)):=by rw [VW.iK,EW (R:=(b,o) :: R)];rfl
 rw [B] at t;rw [D];exact t.perm (KD λc=>by simp only [Y6];omega)
theorem TY:AR ["script","parts","world","hall","draw","line","deed"] ["script"] (Ab (top 58)):=.of
theorem TZ:Nm (Ab (top 58)) "script":=.of
theorem Gg:Nm (Ab (top 58)) "parts":=.of
theorem G9:Nm (Ab (top 58)) "world":=.of
theorem NJ:Nm (Ab (top 58)) "hall":=.of
theorem IS:Nm (Ab (top 58)) "draw":=.of
theorem KS:Nm (Ab (top 58)) "line":=.of
theorem KU:Nm (Ab (top 58)) "deed":=.of
theorem AiJ:Gm (Ab (top 58)) "_law_draws":=.of
theorem AiK:Gm (Ab (top 58)) "_law_shows":=.of
theorem AiL:Gm (Ab (top 58)) "_law_answer":=.of
theorem AiM:Gm (Ab (top 58)) "_law_due":=.of
theorem AiN:Gm (Ab (top 58)) "int":=.of
theorem AiO:Gm (Ab (top 58)) "len":=.of
theorem AiP:Gm (Ab (top 58)) "Hall":=.of
theorem AiQ:Gm (Ab (top 58)) "Plan":=.of
theorem T1:Gm (Ab (top 58)) "list":=.of
theorem AiR:Gm (Ab (top 58)) "_law_world":=.of
theorem AiS:Gm (Ab (top 58)) "_law_plan":=.of
theorem AiT (F:AM K "law" "law" (top 58) f fd)(T:Nr P w K mg a)(gT:BB P w K mg base AB 2 "_law_draws" ["script","k","many","base"] (L5 K))(qk:BB P w K mg base AB 3 "_law_plan" ["script","at"] (Tz K))(ql:BB P w K mg base AB 2 "_law_world" ["parts"] (Ti K))(qm:BB P w K mg base AB 10 "_law_answer" ["hall","deed"] (S8 K a))(qo:BB P w K mg base AB 5 "_law_due" ["world","deed"] (S5 K))(qp:BB P w K mg base AB 3 "_law_shows" ["hall","world"] (Te K a))(ach:Fm P w K mg base AB 4 a.ae "Hall" ["self","plan"] (Sd K a))(aci:Fm P w K mg base (AJ P w) 3 a.Plan "Plan" ["self","long","lines","seekers","groups"] (Q6 a K))(pc:J5 K a.Plan):AF P w K mg base AB 11 f fd ["script"] (KR K):=by
 refine F.ok TY λah A outer s H vs Q E hr h=>?_
 .replace h:=AY h;obtain ⟨ps,ns,rfl,hS,hn,q⟩:=h
  have hu:=hr.units;have nd:=TY.nd;refine ⟨_,(@Aj _ _ _ _ _ (A1 1 nd Gg (Bx qk AiS hr.d A3 (Ac (Aa 0 TZ) (Ac Am Ae))))
    (Aj (A1 2 nd G9 (Bx ql AiR hr.d A3 (Ac (Aa 1 Gg) Ae)))
    (Aj (A1 3 nd NJ (HM ach AiP hr.d A3 (Ac (HM aci AiQ hr.d Fh (Ac (AK AL (Aa 1 Gg) Am (λ_ _=>rfl)) (Ac (Cw (Eg rfl) T1 T.cJ DZ (Ac (AK AL (Aa 1 Gg) Am (λ_ _=>rfl)) Ae)) (Ac (AK AL (Aa 1 Gg) Am (λ_ _=>rfl)) (Ac (Cw (Eg rfl) T1 T.cJ DZ (Ac (AK AL (Aa 1 Gg) Am (λ_ _=>rfl)) Ae)) Ae))))) Ae)))
    (Aj (CO Vp rfl (Df (Bx gT AiJ hr.d A3 (Ac (Aa 0 TZ) (Ac Am (Ac Am (Ac (As B2 (As B2 Am Am) Am) Ae)))))) (Bo 4 nd IS) (Aj (A1 5 nd KS (AK AL (Az P w K (Aa 2 G9) Ak) (As Bz (Aa 4 IS) (BG Cp AiO T.n_len Ca (Ac (Az P w K (Aa 2 G9) Ak) Ae))) (λ_ _=>rfl)))
     (Aj (A1 6 nd KU (AK AL (A0 (Ac (BN (Ac Ak (Ac (Aa 5 KS) Ae))) (Ac (BN (Ac Ak (Ac (Aa 5 KS) Ae))) Ae))) (Cw LB AiN T.kL Lg (Ac (Gp (Ef hu) (Az P w K (Az P w K (Aa 2 G9) Ak) (Aa 5 KS)) Ak (Bb _)) Ae)) (λ_ _=>rfl)))
     (Aj (Ba (A5 (B7 hu) (As Bz (As DX (Aa 4 IS) Am) Am) Am (Bb _)) (An (A1 6 nd KU (BN (Ac (AK AL (A0 (Ac Ak (Ac Ak (Ac Ak Ae)))) (As Bz (As DX (Aa 4 IS) Am) Am) (λ_ _=>rfl)) (Ac Ak (Ac (As Bz (As DX (Aa 4 IS) Am) (AK AL (Aa 1 Gg) Am (λ_ _=>rfl))) Ae)))))) Be)
     (An (Ba (PW.pt (Hn (A5 (Ef hu) (Bx qm AiL hr.d A3 (Ac (Aa 3 NJ) (Ac (Aa 6 KU) Ae))) (Bx qo AiM hr.d A3 (Ac (Aa 2 G9) (Ac (Aa 6 KU) Ae))) (Bb _)) (Hm (DS (Dy (Bx qp AiK hr.d A3 (Ac (Aa 3 NJ) (Ac (Aa 2 G9) Ae)))))))) (An (AO DR)) Be))))))
    (An (AO DR)))))),?_⟩
  try dsimp only [av,aw]
  have aS:AW ["script","parts","world","hall","draw","line","deed"] [V.ref ps]=[some (.ref ps),none,none,none,none,none,none]:=rfl;simp only [aS,VM,VN];walk_at"";refine BO ps ns 0 rfl ⟨hS,hn,by decide,by decide,λH1 pt long l n g zs ts s1 vf el eg lay good npt nl ng vg nts=>?_⟩;have acj:=good;obtain ⟨⟨uA,lo1,n0,n1⟩,⟨⟨z0,z1⟩,zd,zn⟩,⟨g0,gd,gn⟩⟩:=AD acj;have c0:At H1 [(l,.lst (zs.map V.str)),(g,.lst (ts.map A6))]:=by
   refine ⟨λc m=>?_,?_⟩
   .simp only [Uo,UZ,or_false] at m;rcases m with rfl | rfl
    .exact el
    .exact eg
   .simp [vg]
  obtain ⟨C0,c1,kS⟩:∃ C0:AH,At H1 ((l,.lst (zs.map V.str)) :: (g,.lst (ts.map A6)) :: C0)/\∀ H',At H' C0->Ah H1 H'->Bg K H' ps (ns.map V.int):=by
   rcases hS with (hS | ⟨o,hS⟩) | hS
   .refine ⟨[(ps,.lst (ns.map V.int))],?_,λH' t _=>.of t.hd⟩;have n1:ps≠l:=B6 hS nl;have n2:ps≠g:=B6 hS ng;refine ⟨λc m=>?_,?_⟩
    .simp only [Uo,UZ,or_false] at m;rcases m with rfl | rfl | rfl
     .exact el
     .exact eg
     .exact s1 _ _ hS
    .simp [vg,n1.symm,n2.symm]
   .exact ⟨[],c0,λH' _ p=>.inl (.inr ⟨o,p.f _ _ rfl (s1 _ _ hS)⟩)⟩
   .exact ⟨[],c0,λH' _ _=>.inr hS⟩
  walk_at"";refine Jn pt l g long n zs ts _ rfl ⟨c1,vf,by simp,by simp,lay,good,λI W t2 wok p2=>?_⟩;have kg:=p2.t vf;have tu:I l=some (.lst (zs.map V.str)):=t2.bW.hd;have eg2:I g=some (.lst (ts.map A6)):=t2.bW.tl.hd;walk_at"";refine Ue (Uh (Ao pt _ 0 _ rfl rfl (.of kg) rfl ?_));walk_at"";refine Ue (Uh (Ao pt _ 1 _ rfl rfl (.of kg) rfl ?_));walk_at"";refine .inl (AU l _ rfl (.inl (.of tu)) (λl2 eV=>?_));have s3:=(Ai.refl I).upd (o:=.lst (zs.map V.str)) eV;have e3:(upd I l2 (.lst (zs.map V.str))) l2=some (.lst (zs.map V.str)):=Al;generalize upd I l2 (.lst (zs.map V.str))=H3 at s3 e3 ⊢;walk_at"";refine Ue (Uh (Ao pt _ 2 _ rfl rfl (.of (s3 _ _ kg)) rfl ?_));walk_at"";refine Ue (Uh (Ao pt _ 3 _ rfl rfl (.of (s3 _ _ kg)) rfl ?_));walk_at"";refine .inl (AU g _ rfl (.inl (.of (s3 _ _ eg2))) (λg2 j0=>?_));have s4:=(Ai.refl H3).upd (o:=.lst (ts.map A6)) j0;have e4:(upd H3 g2 (.lst (ts.map A6))) g2=some (.lst (ts.map A6)):=Al;generalize upd H3 g2 (.lst (ts.map A6))=H4 at s4 e4 ⊢;have t4:=t2.same (s3.trans s4);have vh:Ah H1 H4:=p2.trans (.of (s3.trans s4));walk_at"";intro pl bE npl vi jK;have vj:(upd H4 bE (.own pl)) pl=none:=by rw [Au (UQ jK)];exact npl
  have t5:=(t4.new (u:=.own pl) vi).new (u:=.ins a.Plan bE []) vj;have s5:Ai H4 (upd (upd H4 bE (.own pl)) pl (.ins a.Plan bE [])):=((Ai.refl H4).upd vi).upd vj;have e5:(upd (upd H4 bE (.own pl)) pl (.ins a.Plan bE [])) pl=some (.ins a.Plan bE []):=Al;generalize upd (upd H4 bE (.own pl)) pl (.ins a.Plan bE [])=H5 at t5 s5 e5 ⊢;have ack:C9 H5 ts:=λt m=>s5 _ _ (vh.t (lay t m));refine Gy pl long l2 n g2 a.Plan bE zs ts rfl ⟨e5,pc,⟨s5 _ _ (s4 _ _ e3),s5 _ _ e4,ack,λz m=>⟨(zd z m).2.asc,by have:=(zd z m).1;omega⟩,λt m=>⟨(gd t m).2.1.asc,by have:=(gd t m).1.2;omega⟩,by omega,by omega⟩,λ_ H6 lt gt aj br x6 e6 ak lq pm jY bx _=>?_,λng=>absurd good ng⟩;have t6:=At.init (N:=[]) t5 x6 e6 (λc m=>nomatch m) .nil;have p6:Ah H5 H6:=At.ai (C:=[(pl,.ins a.Plan bE [])]) (t5.sub (.cons₂ _ (List.nil_sublist _))) x6 (λw m=>by simpa using m) (λc m=>by rw [UL.mp m];rfl);walk_at"";intro h gU nh vk nhd;have vm:(upd H6 gU (.own h)) h=none:=by rw [Au (UQ nhd)];exact nh
  have t7:=(t6.new (u:=.own h) vk).new (u:=.ins a.ae gU []) vm;have s7:Ai H6 (upd (upd H6 gU (.own h)) h (.ins a.ae gU [])):=((Ai.refl H6).upd vk).upd vm;generalize upd (upd H6 gU (.own h)) h (.ins a.ae gU [])=H7 at t7 s7 ⊢;have p17:Ah H1 H7:=vh.trans ((Ah.of s5).trans (p6.trans (.of s7)));have vn:(br.map (·.2.1)).Nodup:=(bx.map _).nodup_iff.mpr gn;refine ⟨h,gU,pl,bE,lt,gt,long,n,aj,br,_,rfl,t7,by simp,pc,s7 _ _ ak,s7 _ _ lq,λt m=>p17.t (lay t (bx.mem_iff.mp m)),pm.nodup_iff.mpr zn,vn,λt m=>?_,by rw [bx.length_eq];omega,by rw [pm.length_eq];exact z1,by omega,n1,λH8 X eh eS t8 p8=>?_⟩
  .obtain ⟨⟨u1,_⟩,_,u2,u3⟩:=AD (gd t (bx.mem_iff.mp m));refine ⟨λc=>?_,u2,by omega⟩;rw [c] at u1;exact absurd u1 (by decide)
  have qq:Ah I H8:=(Ah.of (s3.trans (s4.trans s5))).trans (p6.trans ((Ah.of s7).trans p8));have wk8:BA K H8 W X.S:=by rw [eS];exact (wok aj br pm jY bx).ai qq
  have b8:BT K a H8 X W ((l,.lst (zs.map V.str)) :: (g,.lst (ts.map A6)) :: C0):=⟨t8.sub (.cons _ (.cons _ (.cons _ (.refl _)))),wk8⟩;have hS8:=kS H8 b8.h.t.rest.bW.tl.tl (p2.trans qq);have acm:=qq.t kg;have wf8:WF X.S:=by
   rw [eS];refine WF.dC uA (by omega) (pm.nodup_iff.mpr zn) (by rw [pm.length_eq];omega) (by rw [pm.length_eq];exact z1) n0 n1 (by rw [UD];exact vn) (λp m=>?_) (λz m=>?_) (λp m=>?_) (λz m=>(zd z (pm.mem_iff.mp m)).1) (λp m=>?_)
   .obtain ⟨t,mt,rfl⟩:=Ag (Ur.mp m);obtain ⟨⟨u1,_⟩,_,u2,u3⟩:=AD (gd t (bx.mem_iff.mp mt));refine ⟨λc=>?_,u2,by omega⟩;rw [c] at u1;exact absurd u1 (by decide)
   .have:=zd z (pm.mem_iff.mp m);exact ⟨⟨this.2.asc,by omega⟩,by omega⟩
   .obtain ⟨t,mt,rfl⟩:=Ag (Ur.mp m);have:=gd t (bx.mem_iff.mp mt);exact ⟨this.2.1.asc,by have:=this.1.2;omega⟩
   .obtain ⟨t,mt,rfl⟩:=Ag (Ur.mp m);exact (gd t (bx.mem_iff.mp mt)).1.2
  have vo:∀ ln∈X.S.lns,∃ z,ln=CG z:=λln m=>by
   rw [eS] at m;obtain ⟨z,_,e⟩:=Ag (Ur.mp m);exact ⟨z,e.symm⟩
  have wx8:WX X.S:=λln m=>by
   obtain ⟨z,rfl⟩:=vo ln m;exact ⟨Gf,(λp m=>nomatch m),.aa⟩
  have si8:B5 X.S:=λln m=>by
   obtain ⟨z,rfl⟩:=vo ln m;exact .inl rfl
  have hn8:(X.S.sk.hs.length:Int)=n:=by rw [eS];show ((Ug n.toNat V.aa).length:Int)=n;rw [Vi];omega
  have dn8:X.dn=[]:=by
   have:X.S.dn=[]:=by rw [eS];rfl
   exact this
  walk_at"";refine C8 ps ns 2 60 _ rfl ⟨hS8,by decide,by decide,hn,by decide,by decide,by decide,by decide,λr J H9 s9 nr hR hlen jh=>?_⟩;have b9:BT K a H9 X W ((r,.lst (J.map V.int)) :: (l,.lst (zs.map V.str)) :: (g,.lst (ts.map A6)) :: C0):=by
   have t9:At H9 (AZ a X ([(r,.lst (J.map V.int))]++W.C ((l,.lst (zs.map V.str)) :: (g,.lst (ts.map A6)) :: C0))):=by
    have t:=b8.h.t;have t':At H9 ((r,.lst (J.map V.int)) :: AZ a X (W.C ((l,.lst (zs.map V.str)) :: (g,.lst (ts.map A6)) :: C0))):=⟨λc m=>by
     rcases Uo.mp m with rfl | m
     .exact hR
     .exact (t.same s9).at_ c m,UH.mpr ⟨t.free nr,t.nd⟩⟩
    rw [EW] at t' ⊢;exact At.swap (P:=[_]) t'
   have z:=At.toW (C:=[(r,.lst (J.map V.int))]) t9;exact ⟨⟨At.toH (C:=[]) z,b8.h.ok.ai (.of s9)⟩,b8.w.ai (.of s9)⟩
  generalize hR1:(r,HO.lst (J.map V.int)) :: (l,.lst (zs.map V.str)) :: (g,.lst (ts.map A6)) :: C0=R at b9;have mr:(r,HO.lst (J.map V.int))∈R:=by rw [<- hR1];simp
  have Cz:∀{H':Hp}{X':HX}{W':VW},BT K a H' X' W' R->H' r=some (.lst (J.map V.int)):=λt=>t.h.t.rest.bW.get mr;have acn:=s9 _ _ acm;have aeK:J.length=60:=hlen;refine DY r rfl ⟨_,.of (Cz b9)⟩ ?_;refine DW (K:=K) (a:=r) (xs:=J.map V.int) (λi σ I=>∃ B Y dl ds x y z,σ=[some (.ref ps),some (.ref pt),some (.ref W.w),some (.ref h),x,y,z]/\AiE K a I B Y R n dl ds/\B.h=h/\Y.w=W.w/\dl.length=i/\Ah H9 I) ⟨X,W,[],[],none,none,none,rfl,⟨b9,wf8,wx8,si8,hn8,dn8,.nil,(λd m=>nomatch m)⟩,eh,rfl,rfl,.refl⟩ (λi σ I _ ⟨_,_,_,_,_,_,_,_,v,_⟩=>.of (Cz v.bt)) ?_ ?_
  .intro i v σ I hi zq;replace zq:=Hh zq;obtain ⟨B,Y,dl,ds,x,y,z,rfl,D,cN,fV,ldl,vp⟩:=zq;rw [Uj] at hi;obtain ⟨d,hd,rfl⟩:=Ag (UX.mp hi);obtain ⟨d0,d1⟩:=jh d (Uw hd);have il:i<60:=by have:=(US.mp hd).1;omega
   have w2:=D.bt.wt;have g2:=D.wf.g;have pos:=g2.pos;have lnE:=w2.ok.ln;have vt:I Y.ln=some (.lst ((B.S.lns.map (·.num)).map V.str)):=by rw [<- lnE];exact w2.t.lC
   have aco:(((B.S.lns.map (·.num)).map V.str).length:Int)=B.S.lns.length:=by rw [T7,T7]
   have i0:=VI d (show (B.S.lns.length:Int)≠0 by omega);have i1:=VJ d (show 0<(B.S.lns.length:Int) by omega);obtain ⟨m,hm⟩:=Yj i0;have ml:m<B.S.lns.length:=by omega
   obtain ⟨ln,f9⟩:∃ ln,B.S.lns[m]?=some ln:=⟨_,Uu ml⟩;have zk:Ok ln.num:=(g2.tx _ (D6 f9)).1;have mz:ln.num∈Y.zs:=w2.ok.fU f9;have lv:=w2.ok.l m ln f9;rw [<- fV,<- cN];refine AiH ?_;simp only [VM,VN];refine ER λC1 cb=>?_;walk_at"";refine Ao Y.w _ (.inr "lines") _ rfl rfl (.of w2.t.vw) II ?_;walk_at"";refine Ao Y.w _ (.inr "lines") _ rfl rfl (.of w2.t.vw) II ?_;walk_at"";refine Ue (AU Y.ln _ rfl (.inl (.of vt)) ?_);rw [aco];refine CV _ _ rfl rfl (by omega) ?_;refine Uh (Ao Y.ln _ _ (.str ln.num) rfl rfl (.of vt) (by rw [hm];exact C4 (by rw [Uj,Uj,f9];rfl)) ?_);show C1 [some (.ref ps),some (.ref pt),some (.ref Y.w),some (.ref B.h),some (.int d),some (.str ln.num),z] I;rw [cb];clear cb C1
   refine ER λC2 cK=>?_;have vy:∀(L:Addr)(O:A8)(r':List PyData×PS)(H6:Hp),Ai I H6->H6 L=some (.tup O.vals)->O.txt->KQ B.S O r'->C2 [some (.ref ps),some (.ref pt),some (.ref Y.w),some (.ref B.h),some (.int d),some (.str ln.num),some (.ref L)] H6:=by
    intro L O r' H6 qr bS tx nx;rw [cK];refine ER λC hC=>?_;have fin:∀(L:Addr)(O:A8)(r':List PyData×PS)(H7:Hp),Ai I H7->H7 L=some (.tup O.vals)->O.txt->KQ B.S O r'->C [some (.ref ps),some (.ref pt),some (.ref Y.w),some (.ref B.h),some (.int d),some (.str ln.num),some (.ref L)] H7:=by
     intro L O r' H7 qv bS tx nx;rw [hC];have b7:=D.bt.same qv;have ldn:B.dn.length<1000:=by rw [D.dn,T7];omega
     have acp:B.S.dn.length<1000000:=by show B.dn.length<_;omega
     walk_at"";refine C8 B _ O L r' rfl ⟨b7.h,bS,D.wf,tx,ldn,nx.e,λH8 X8 p8 iQ t8 eh8 iR q8 td8=>?_⟩;walk_at"";have w8:WT K H8 Y B.S (AZ a X8 ([(p8,.lst (iQ.map V.ref))]++R)):=⟨At.toW (C:=[(p8,.lst (iQ.map V.ref))]) t8.t,b7.w.ai q8⟩;refine Dh w8 D.wf (q8.t bS) acp ?_;rw [nx.e];intro kh W9 p9 mh t9 ew9 q9 ir;obtain ⟨wx9,ly⟩:=D.wx.next D.wf nx.e L
     have wf9:=D.wf.next nx.e L
     have hp9:kh p9=some (.lst (mh.map V.ref)):=t9.t.bW.hd;have vz:At kh (AZ a X8 ([(p9,.lst (mh.map V.ref)),(p8,.lst (iQ.map V.ref))]++W9.C R)):=by exact At.toH (C:=[(p9,.lst (mh.map V.ref)),(p8,.lst (iQ.map V.ref))]) t9.t.acg
     have hp8:kh p8=some (.lst (iQ.map V.ref)):=vz.rest.tl.hd;have b9:BT K a kh X8 W9 R:=⟨⟨vz.sub (by rw [EW,EW (R:=[(p9,HO.lst (mh.map V.ref)),(p8,.lst (iQ.map V.ref))]++W9.C R)];exact (VR _).append (.cons _ (.cons _ (.refl _)))),t8.ok.ai q9⟩,by rw [iR];exact t9.ok⟩;refine Ue ⟨_,_,.lst (.of hp8) (td8.ai q9).i,.lst (.of hp9) ir.i,ly.c,ly.c,(by have:=ly.k;omega),?_⟩;rw [Ys _ ly.c];have lT:BC K kh (dl++[L]) (ds++[O.data]):=((D.td.ai ((Ah.of qv).trans (q8.trans q9))).app (.one (AiF O ((q8.trans q9).t bS)) (AiI O)));have jX:X8.dn=(dl++[L]).map V.ref:=by
      have:X8.S.dn=B.S.dn++[.ref L]:=by rw [iR];exact D.wf.abz nx.e L
      rw [show X8.dn=X8.S.dn from rfl,this,show B.S.dn=B.dn from rfl,D.dn,Uy];rfl
     have vA:∀ e∈ds++[O.data],By 2 e:=λe m=>(UU.mp m).elim (D.ld e) λm=>by rw [UL.mp m];exact AiG O tx
     have vB:WF X8.S:=by rw [iR];exact wf9
     have vC:WX X8.S:=by rw [iR];exact wx9
     rw [<- eh8,<- ew9];walk_at"";refine C8 X8 W9 R (dl++[L]) (ds++[O.data]) rfl ⟨b9,vB,vC,jX,lT,vA,λfq eR=>?_⟩;walk_at"";have si9:B5 X8.S:=by rw [iR];exact B5.aC _ (S:=Cs r'.2 L) nx.s
     have hn9:(X8.S.sk.hs.length:Int)=n:=by rw [iR,A8.ace nx.e L];exact D.hn
     exact ⟨X8,W9,dl++[L],ds++[O.data],_,_,_,rfl,⟨b9.same eR,vB,vC,si9,hn9,jX,lT.ai (.of eR),vA⟩,rfl,rfl,by rw [U2,ldl];rfl,vp.trans ((Ah.of qv).trans (q8.trans (q9.trans (.of eR))))⟩
    clear hC
    have acq:=qr _ _ (vp.t acn);walk_at"";by_cases c:d / 60 % 8=0
    .rw [show decide ((λi j=>V.int (i % j)) (d / 60) 8=V.int 0)=true from decide_eq_true (congrArg V.int c)];refine Co ?_;walk_at"";refine ⟨Ax,λb4 nb4=>?_⟩;have s7:=(Ai.refl H6).upd (o:=.lst [.str "stick",.str "mend",.str "mend"]) nb4;have e7:(upd H6 b4 (.lst [.str "stick",.str "mend",.str "mend"])) b4=some (.lst [.str "stick",.str "mend",.str "mend"]):=Al;generalize upd H6 b4 (.lst [.str "stick",.str "mend",.str "mend"])=H7 at s7 e7 ⊢;walk_at"";obtain ⟨bj,qw⟩:∃ bj:Bool,Cu [V.str "stick",V.str "mend",V.str "mend"] (d / 480 % 3)=some (.str (F4 bj)):=by
      have h3:d / 480 % 3=0\/d / 480 % 3=1\/d / 480 % 3=2:=by omega
      rcases h3 with h3 | h3 | h3
      .exact ⟨true,by rw [h3];rfl⟩
      .exact ⟨false,by rw [h3];rfl⟩
      .exact ⟨false,by rw [h3];rfl⟩
     refine Uh (Bw (.of e7) qw ?_);walk_at"";refine Ue (Uh (Ao pt _ 2 _ rfl rfl (.of (s7 _ _ acq)) rfl ?_));refine CV _ _ rfl rfl (by omega) ?_;refine ⟨Ax,λb5 nb5=>?_⟩;have k0:=VI (d / 3840) (show n≠0 by omega);have k1:=VJ (d / 3840) (show 0<n by omega);exact fin b5 (.bf bj (Ud "") (d / 3840 % n)) _ _ (qr.trans (s7.upd nb5)) Al ⟨Gf,by decide⟩ (D.si.acf bj k0 (by rw [D.hn];exact k1))
    .rw [show decide ((λi j=>V.int (i % j)) (d / 60) 8=V.int 0)=false from decide_eq_false (λe=>c (V.int.inj e))];refine Cn ?_;exact fin L O r' H6 qr bS tx nx
   clear cK
   walk_at"";refine ⟨Ax,λb1 gR=>?_⟩;have s3:=(Ai.refl I).upd (o:=.tup [.str "lift",.str ln.num]) gR;have e3:(upd I b1 (.tup [.str "lift",.str ln.num])) b1=some (.tup [.str "lift",.str ln.num]):=Al;generalize upd I b1 (.tup [.str "lift",.str ln.num])=H3 at s3 e3 ⊢;walk_at"";refine ⟨Ax,λb2 gS=>?_⟩;have s4:=(Ai.refl H3).upd (o:=.tup [.str "hang",.str ln.num]) gS;have e4:(upd H3 b2 (.tup [.str "hang",.str ln.num])) b2=some (.tup [.str "hang",.str ln.num]):=Al;generalize upd H3 b2 (.tup [.str "hang",.str ln.num])=H4 at s4 e4 ⊢;refine ⟨Ax,λb3 lU=>?_⟩;have s5:=(Ai.refl H4).upd (o:=.lst [.ref b1,.ref b2]) lU;have e5:(upd H4 b3 (.lst [.ref b1,.ref b2])) b3=some (.lst [.ref b1,.ref b2]):=Al;generalize upd H4 b3 (.lst [.ref b1,.ref b2])=H5 at s5 e5 ⊢;have qx:Ai I H5:=s3.trans (s4.trans s5);have w5:=w2.same qx;walk_at"";refine Ao Y.w _ (.inr "way") _ rfl rfl (.of w5.t.vw) EU ?_;walk_at"";refine Ao Y.way _ (.inr ln.num) _ rfl rfl (.of w5.t.dD) (D7 mz) ?_;rw [lv.way];walk_at"";refine Uh (CC _ rfl ?_);by_cases c:ln.st=Bh.rests.s
   .obtain ⟨f1,f2⟩:=D.si.lift f9 c;rw [show decide (V.str ln.st=V.str (Ud "rests"))=true from decide_eq_true (congrArg V.str c)];refine Uh (Ao b3 _ 0 (.ref b1) rfl rfl (.of e5) rfl ?_);exact vy b1 (.line .lift ln.num) _ H5 qx (s5 _ _ (s4 _ _ e3)) zk (D.si.iL D.wf f9 f1 f2)
   .obtain ⟨f1,f2⟩:=D.si.bz D.wf f9 c;rw [show decide (V.str ln.st=V.str (Ud "rests"))=false from decide_eq_false (λe=>c (V.str.inj e))];refine Uh (Ao b3 _ 1 (.ref b2) rfl rfl (.of e5) rfl ?_);exact vy b2 (.line .bz ln.num) _ H5 qx (s5 _ _ e4) zk (D.si.iL D.wf f9 f1 f2)
  .intro σ I zq;replace zq:=Hh zq;obtain ⟨B,Y,dl,ds,x,y,z,rfl,_⟩:=zq;walk_at"";exact q I
open PySem PySem.Spec PyProof.Rows L2
section
variable {K:T3}{mg:Str->Option Value}{h:Heap}{CX:B0}{k:Nat}{x q:Str}{st:Stmt}{ps:List Str}{sp:Sp}{C:Addr}{A:Aq}
def NK (K:T3)(x q:Str)(st:Stmt)(R:Addr->Prop):Prop:=∃(f:Addr)(oc:Value)(od:Option Addr)(sl:Array (Option Value))(kV dc pm:Value)(an:Option Addr)(cd ct:Value),R f/\K.lookup f=some ⟨oc,od,.func (VG x q (DK st) (Dp st) (Ab st) .none kV dc pm an cd ct),sl⟩/\Ww K cd q=true/\Vh K (.ref f)=true
structure bg (K:T3)(x q:Str)(st:Stmt):Prop where
 ex:NK K x q st λf=>UC K Ux x=some (some (.ref f))
structure aP (K:T3)(C:Addr)(x q:Str)(st:Stmt):Prop where
 ex:NK K x q st λf=>Uz K (.ref C) x=some (some (.ref f))/\WJ K (.ref f)=true
structure cD (K:T3)(A:Aq)(x q:Str)(st:Stmt):Prop where
 ex:NK K x q st λf=>Uz K (.ref A.aF) x=some (some (.ref f))/\Uz K (.ref A.aR) x=some (some (.ref f))/\WJ K (.ref f)=true
abbrev KW (x q:Str)(st:Stmt)(ps:List Str):Prop:=∀(kV doc pm:Value)(an:Option Addr)(ah ct:Value)(us:List Value),us.length=ps.length->bindArgs (VG x q (DK st) (Dp st) (Ab st) .none kV doc pm an ah ct) ⟨us,[]⟩=pure (ps.zip us)
theorem bg.fn (F:bg K x q st)(P:Ub)(w:T6)(base:Heap)(X:K.In h)(G:h.Ns Ux mg)(o:∀ f fd,AM K x q st f fd->AF P w K mg base CX k f fd ps sp)(b:KW x q st ps):BB P w K mg base CX k x ps sp:=by obtain ⟨f,B,D,H,kV,I,J,L,O,ct,a,l,c,y⟩:=F.ex;have F:=Gw l c y;exact ⟨f,_,U6 X G a,y,F.binds b,o f _ F⟩
theorem aP.me (F:aP K C x q st)(P:Ub)(w:T6)(mg:Str->Option Value)(base:Heap)(o:∀ f fd,AM K x q st f fd->AF P w K mg base CX k f fd ps sp)(b:KW x q st ps):A2 P w K mg base CX k C x ps sp:=by obtain ⟨f,B,D,H,kV,I,J,L,O,ct,⟨a,i⟩,l,c,y⟩:=F.ex;have F:=Gw l c y;exact ⟨f,_,⟨a,i,y⟩,F.binds b,o f _ F⟩
theorem aP.mi {z:Str}(F:aP K C "__init__" q st)(P:Ub)(w:T6)(mg:Str->Option Value)(base:Heap)(g:mg z=some (.ref C))(m:WK K C=true)(n:Vh K (.ref C)=true)(o:∀ f fd,AM K "__init__" q st f fd->AF P w K mg base CX k f fd ps sp)(b:KW "__init__" q st ps):Fm P w K mg base CX k C z ps sp:=by obtain ⟨f,B,D,H,kV,I,J,L,O,ct,⟨a,i⟩,l,c,y⟩:=F.ex;have F:=Gw l c y;exact ⟨f,_,g,⟨m,a,i,n⟩,F.binds b,o f _ F⟩
theorem cD.me (F:cD K A x q st)(P:Ub)(w:T6)(mg:Str->Option Value)(base:Heap)(o:∀ f fd,AM K x q st f fd->AF P w K mg base CX k f fd ps sp)(b:KW x q st ps):∀ C∈A.bR,A2 P w K mg base CX k C x ps sp:=by
 obtain ⟨f,H,I,J,kV,L,O,V,Y,ct,⟨a,B,i⟩,l,c,y⟩:=F.ex;have F:=Gw l c y;intro C D;rcases Uo.mp D with e | e
 .subst e;exact ⟨f,_,⟨a,i,y⟩,F.binds b,o f _ F⟩
 .have e:=UL.mp e;subst e;exact ⟨f,_,⟨B,i,y⟩,F.binds b,o f _ F⟩
section
variable {f:Addr}{oc:Value}{od:Option Addr}{sl:Array (Option Value)}{kV dc pm:Value}{an:Option Addr}{cd ct:Value}
theorem bg.of (a:UC K Ux x=some (some (.ref f)))(l:K.lookup f=some ⟨oc,od,.func (VG x q (DK st) (Dp st) (Ab st) .none kV dc pm an cd ct),sl⟩)(c:Ww K cd q=true)(k:Vh K (.ref f)=true):bg K x q st:=⟨⟨_,_,_,_,_,_,_,_,_,_,a,l,c,k⟩⟩
theorem aP.of (a:Uz K (.ref C) x=some (some (.ref f)))(i:WJ K (.ref f)=true)(l:K.lookup f=some ⟨oc,od,.func (VG x q (DK st) (Dp st) (Ab st) .none kV dc pm an cd ct),sl⟩)(c:Ww K cd q=true)(k:Vh K (.ref f)=true):aP K C x q st:=⟨⟨_,_,_,_,_,_,_,_,_,_,⟨a,i⟩,l,c,k⟩⟩
theorem cD.of (a:Uz K (.ref A.aF) x=some (some (.ref f)))(b:Uz K (.ref A.aR) x=some (some (.ref f)))(i:WJ K (.ref f)=true)(l:K.lookup f=some ⟨oc,od,.func (VG x q (DK st) (Dp st) (Ab st) .none kV dc pm an cd ct),sl⟩)(c:Ww K cd q=true)(k:Vh K (.ref f)=true):cD K A x q st:=⟨⟨_,_,_,_,_,_,_,_,_,_,⟨a,b,i⟩,l,c,k⟩⟩
end
end
theorem us1 {α:Type}{P:List α->Prop}(h:∀ a,P [a]):∀ us:List α,us.length=1->P us
 | [a],_=>h a
theorem us2 {α:Type}{P:List α->Prop}(h:∀ a b,P [a,b]):∀ us:List α,us.length=2->P us
 | [a,b],_=>h a b
theorem us3 {α:Type}{P:List α->Prop}(h:∀ a b c,P [a,b,c]):∀ us:List α,us.length=3->P us
 | [a,b,c],_=>h a b c
theorem us4 {α:Type}{P:List α->Prop}(h:∀ a b c d,P [a,b,c,d]):∀ us:List α,us.length=4->P us
 | [a,b,c,d],_=>h a b c d
theorem us5 {α:Type}{P:List α->Prop}(h:∀ a b c d e,P [a,b,c,d,e]):∀ us:List α,us.length=5->P us
 | [a,b,c,d,e],_=>h a b c d e
local macro_rules | `(tactic| walk_at "b")=>`(tactic| first
 | exact λ_ _ _ _ _ _=>us2 λ_ _=>rfl
 | exact λ_ _ _ _ _ _=>us1 λ_=>rfl
 | exact λ_ _ _ _ _ _=>us3 λ_ _ _=>rfl
 | exact λ_ _ _ _ _ _=>us4 λ_ _ _ _=>rfl
 | exact λ_ _ _ _ _ _=>us5 λ_ _ _ _ _=>rfl)
abbrev mkA {a0 a1 a2 a3 a4 a5 a6 a7 a8 a9 a10 a11 a12 a13 a14 a15:Addr}:Aq:=⟨a0,a1,a2,a3,a4,a5,a6,a7,a8,a9,a10,a11,a12,a13,a14,a15⟩
theorem all_mk {l:ZE}{w:T6}{K:T3}{h:Heap}{mg:Str->Option Value}{fa:Addr}(X:K.In h)(G:h.Ns Ux mg)(L:mg "law"=some (.ref fa)){O B:Addr}{V vD Y acu:Option Addr}{acv acw:Array (Option Value)}{acx vE vF vG qB vH acy acz acA acB vI acC:Value}{A:Aq}{t1 t2 t3 t4:Addr}{acD acE acF acG acH acI acJ acK:Tok}{vJ:Array Ye}{nW n1 n2 n3 n4 n5:Nat}{qC dk qD qE qF:Array Value}{od1 od2 od3 od4 od5:Option Addr}{sl1 sl2 sl3 sl4 sl5:Array (Option Value)}(lS:UC K Ux "HallError"=some (some (.ref A.rN)))(cU:UC K Ux "BadPlan"=some (some (.ref A.fQ)))(ic:UC K Ux "NoSwitch"=some (some (.ref A.cu)))(kY:UC K Ux "NoLine"=some (some (.ref A.eT)))(kZ:UC K Ux "NotSo"=some (some (.ref A.hV)))(oK:UC K Ux "NoFigure"=some (some (.ref A.kJ)))(aeL:UC K Ux "NoRow"=some (some (.ref A.aaO)))(aeM:UC K Ux "NoText"=some (some (.ref A.aaP)))(acL:UC K Ux "Plan"=some (some (.ref A.Plan)))(acM:UC K Ux "Seekers"=some (some (.ref A.aF)))(kQ:UC K Ux "Switches"=some (some (.ref A.gA)))(acN:UC K Ux "Group"=some (some (.ref A.aR)))(acO:UC K Ux "Line"=some (some (.ref A.Line)))(acP:UC K Ux "Hall"=some (some (.ref A.ae)))(kX:UC K Ux "WAYS"=some (some (.ref A.gB)))(oJ:UC K Ux "FIGURES"=some (some (.ref A.kK)))(acQ:UC K Ux "SIGNS"=some (some (.str "0123456789" acD)))(acR:UC K Ux "LEAST_LONG"=some (some (.int 2 acE)))(acS:UC K Ux "MOST_LONG"=some (some (.int 4 acF)))(acT:UC K Ux "MOST_LINES"=some (some (.int 60 acG)))(acU:UC K Ux "MOST_SEEKERS"=some (some (.int 60 acH)))(acV:UC K Ux "MOST_GROUPS"=some (some (.int 40 acI)))(acW:UC K Ux "MOST_SWITCHES"=some (some (.int 10 acJ)))(acX:UC K Ux "AT_SEEKERS"=some (some (.str "" acK)))(haa:bg K "within" "within" (top 11))(hab:bg K "are_figures" "are_figures" (top 12))(mV:bg K "paper_of" "paper_of" (top 18))(had:bg K "check_counts" "check_counts" (top 37))(hae:bg K "check_lines" "check_lines" (top 38))(haf:bg K "check_groups" "check_groups" (top 39))(hag:bg K "_law_cell" "_law_cell" (top 41))(hah:bg K "_law_draws" "_law_draws" (top 42))(hai:bg K "_law_number" "_law_number" (top 43))(haj:bg K "_law_plan" "_law_plan" (top 44))(hak:bg K "_law_world" "_law_world" (top 45))(hal:bg K "_law_begin" "_law_begin" (top 46))(ham:bg K "_law_freed" "_law_freed" (top 47))(han:bg K "_law_free_at" "_law_free_at" (top 48))(hao:bg K "_law_tones" "_law_tones" (top 49))(hap:bg K "_law_paper" "_law_paper" (top 50))(haq:bg K "_law_ended" "_law_ended" (top 51))(har:bg K "_law_gap" "_law_gap" (top 52))(has:bg K "_law_hang" "_law_hang" (top 53))(hat:bg K "_law_at_line" "_law_at_line" (top 54))(hau:bg K "_law_due" "_law_due" (top 55))(hav:bg K "_law_answer" "_law_answer" (top 56))(haw:bg K "_law_shows" "_law_shows" (top 57))(aax:UC K Ux "law"=some (some (.ref O)))(lax:K.lookup O=some ⟨acx,V,.func (VG "law" "law" (DK (top 58)) (Dp (top 58)) (Ab (top 58)) .none vE vF vG vD qB vH),acv⟩)(cax:Ww K qB "law"=true)(kax:Vh K (.ref O)=true)(hay:cD K A "first_free" "Switches.first_free" (Af (top 17) 1))(haz:cD K A "hold" "Switches.hold" (Af (top 17) 2))(hba:cD K A "free" "Switches.free" (Af (top 17) 3))(mO:cD K A "stick" "Switches.stick" (Af (top 17) 4))(hbc:cD K A "mend" "Switches.mend" (Af (top 17) 5))(lX:cD K A "check" "Switches.check" (Af (top 17) 6))(eI:cD K A "holders" "Switches.holders" (Af (top 17) 7))(hbf:cD K A "stuck" "Switches.stuck" (Af (top 17) 8))(hbg:cD K A "shares" "Switches.shares" (Af (top 17) 9))(hbh:aP K A.aF "__init__" "Seekers.__init__" (Af (top 24) 0))(hbi:aP K A.aF "take" "Seekers.take" (Af (top 24) 1))(qw:aP K A.aF "steps" "Seekers.steps" (Af (top 24) 3))(hbk:aP K A.Line "__init__" "Line.__init__" (Af (top 22) 0))(hbl:aP K A.Line "turn" "Line.turn" (Af (top 22) 1))(hbm:aP K A.ae "__init__" "Hall.__init__" (Af (top 28) 0))(hbn:aP K A.ae "do" "Hall.do" (Af (top 28) 1))(hbo:aP K A.ae "at_switch" "Hall.at_switch" (Af (top 28) 2))(hbp:aP K A.ae "at_line" "Hall.at_line" (Af (top 28) 3))(hbq:aP K A.ae "lift" "Hall.lift" (Af (top 28) 4))(hbr:aP K A.ae "pulse" "Hall.pulse" (Af (top 28) 5))(hbs:aP K A.ae "gap" "Hall.gap" (Af (top 28) 6))(hbt:aP K A.ae "hang" "Hall.hang" (Af (top 28) 11))(hbu:aP K A.ae "left_alone" "Hall.left_alone" (Af (top 28) 12))(hbv:aP K A.ae "wait" "Hall.wait" (Af (top 28) 13))(hbw:aP K A.ae "release" "Hall.release" (Af (top 28) 14))(hbx:aP K A.ae "tones" "Hall.tones" (Af (top 28) 15))(hby:aP K A.ae "line_of" "Hall.line_of" (Af (top 28) 16))(hbz:aP K A.ae "switches_of" "Hall.switches_of" (Af (top 28) 17))(hca:aP K A.ae "way" "Hall.way" (Af (top 28) 18))(hcb:aP K A.ae "figures" "Hall.figures" (Af (top 28) 19))(km:aP K A.ae "holds" "Hall.holds" (Af (top 28) 20))(cG:aP K A.ae "other" "Hall.other" (Af (top 28) 21))(hce:aP K A.ae "told_paper" "Hall.told_paper" (Af (top 28) 22))(hcf:aP K A.ae "paper" "Hall.paper" (Af (top 28) 23))(hcg:aP K A.ae "shares" "Hall.shares" (Af (top 28) 24))(bM:aP K A.ae "waiting" "Hall.waiting" (Af (top 28) 25))(hci:aP K A.ae "steps" "Hall.steps" (Af (top 28) 26))(hcj:aP K A.ae "deeds" "Hall.deeds" (Af (top 28) 27))(hck:aP K A.Plan "__init__" "Plan.__init__" (Af (top 36) 0))(rdS:xr K A.gA (.type "type")=true)(spS:Yz K (.ref A.gA) "__getattribute__"=some (some (.builtin "type.__getattribute__")))(fdS:xt K (.ref A.gA) (.type "type") "__init__"=some (.val (.ref B)))(tyS:Zl K (.ref B)=some (.type "function"))(acl:Uz K (.ref A.gA) "__init__"=some (some (.ref B)))(icl:WJ K (.ref B)=true)(lcl:K.lookup B=some ⟨acy,Y,.func (VG "__init__" "Switches.__init__" (DK (Af (top 17) 0)) (Dp (Af (top 17) 0)) (Ab (Af (top 17) 0)) .none acz acA acB acu vI acC),acw⟩)(ccl:Ww K vI "Switches.__init__"=true)(vK:Vh K (.ref B)=true)(aG:Uz K (.ref A.aR) "__init__"=some (some (.ref B)))(acY:WK K A.aF=true)(acZ:Vh K (.ref A.aF)=true)(ac0:WK K A.Line=true)(ac1:Vh K (.ref A.Line)=true)(ac2:WK K A.ae=true)(ac3:Vh K (.ref A.ae)=true)(ac4:WK K A.Plan=true)(ac5:Vh K (.ref A.Plan)=true)(ac6:WK K A.aR=true)(ac7:Vh K (.ref A.aR)=true)(ac8:Wu K A.aF UJ=true)(ac9:WI K A.aF=true)(ada:Xi K A.aF=true)(adb:Uz K (.ref A.aF) "__setattr__"=some (some (.builtin "object.__setattr__")))(ade:Uz K (.ref A.aF) "held_by"=some none)(adf:Uz K (.ref A.aF) "jammed"=some none)(adg:Uz K (.ref A.aF) "taken"=some none)(adh:Uz K (.ref A.aF) "places"=some none)(adi:Uz K (.ref A.aF) "stands"=some none)(adj:Uz K (.ref A.aF) "went"=some none)(adk:Uz K (.ref A.aF) "mark_at"=some none)(adl:Wu K A.aR UJ=true)(adm:WI K A.aR=true)(adn:Xi K A.aR=true)(ado:Uz K (.ref A.aR) "__setattr__"=some (some (.builtin "object.__setattr__")))(adp:Uz K (.ref A.aR) "held_by"=some none)(adq:Uz K (.ref A.aR) "jammed"=some none)(ads:Uz K (.ref A.aR) "taken"=some none)(adt:Wu K A.Line UJ=true)(adu:WI K A.Line=true)(adv:Xi K A.Line=true)(adw:Uz K (.ref A.Line) "__setattr__"=some (some (.builtin "object.__setattr__")))(adx:Uz K (.ref A.Line) "number"=some none)(ady:Uz K (.ref A.Line) "place"=some none)(adz:Uz K (.ref A.Line) "held"=some none)(adA:Uz K (.ref A.Line) "state"=some none)(adB:Uz K (.ref A.Line) "dialled_so_far"=some none)(adC:Uz K (.ref A.Line) "pulses"=some none)(adD:Uz K (.ref A.Line) "far_end"=some none)(adE:Uz K (.ref A.Line) "why"=some none)(adF:Wu K A.ae UJ=true)(adG:WI K A.ae=true)(adH:Xi K A.ae=true)(adI:Uz K (.ref A.ae) "__setattr__"=some (some (.builtin "object.__setattr__")))(adJ:Uz K (.ref A.ae) "long"=some none)(adK:Uz K (.ref A.ae) "lines"=some none)(adL:Uz K (.ref A.ae) "switches"=some none)(adM:Uz K (.ref A.ae) "queue"=some none)(adN:Uz K (.ref A.ae) "done"=some none)(adO:Wu K A.Plan UJ=true)(adP:WI K A.Plan=true)(adQ:Xi K A.Plan=true)(adR:Uz K (.ref A.Plan) "__setattr__"=some (some (.builtin "object.__setattr__")))(adS:Uz K (.ref A.Plan) "long"=some none)(adT:Uz K (.ref A.Plan) "lines"=some none)(adU:Uz K (.ref A.Plan) "seekers"=some none)(adV:Uz K (.ref A.Plan) "groups"=some none)(adW:VH K A.fQ [.type "ValueError",.type "Exception",.type "BaseException",.type "object"] "ValueError.__new__"=true)(adX:VH K A.cu [.type "ValueError",.type "Exception",.type "BaseException",.type "object"] "ValueError.__new__"=true)(adY:VH K A.eT [.type "ValueError",.type "Exception",.type "BaseException",.type "object"] "ValueError.__new__"=true)(adZ:VH K A.hV [.type "ValueError",.type "Exception",.type "BaseException",.type "object"] "ValueError.__new__"=true)(ad0:VH K A.kJ [.type "ValueError",.type "Exception",.type "BaseException",.type "object"] "ValueError.__new__"=true)(lW:K.lookup A.gB=some ⟨.type "dict",none,.dict vJ nW,#[]⟩)(oW:(A.gB == Vq)=false)(vW:JM w.params vJ.toList [("lift",.ref t1),("pulse",.ref t2),("gap",.ref t3),("hang",.ref t4)])(lT1:K.lookup t1=some ⟨.type "tuple",od1,.seq qC n1,sl1⟩)(zT1:qC.size<=10)(vT1:Ay [.str "rests",.str "rung"] qC.toList)(lT2:K.lookup t2=some ⟨.type "tuple",od2,.seq dk n2,sl2⟩)(zT2:dk.size<=10)(vT2:Ay [.str "dials"] dk.toList)(lT3:K.lookup t3=some ⟨.type "tuple",od3,.seq qD n3,sl3⟩)(zT3:qD.size<=10)(vT3:Ay [.str "dials"] qD.toList)(lT4:K.lookup t4=some ⟨.type "tuple",od4,.seq qE n4,sl4⟩)(zT4:qE.size<=10)(vT4:Ay [.str "waits",.str "dials",.str "rings",.str "talks",.str "told"] qE.toList)(lT5:K.lookup A.kK=some ⟨.type "tuple",od5,.seq qF n5,sl5⟩)(zT5:qF.size<=10)(vT5:Ay [.str "1",.str "2",.str "3",.str "4",.str "5",.str "6",.str "7",.str "8",.str "9",.str "0"] qF.toList)(ad1:UC K Ux "len"=some none)(ad2:UC K Ux "isinstance"=some none)(ad3:UC K Ux "bool"=some none)(ad4:UC K Ux "int"=some none)(ad5:UC K Ux "range"=some none)(ad6:UC K Ux "all"=some none)(ad7:UC K Ux "list"=some none)(ad8:UC K Ux "enumerate"=some none)(ad9:UC K Ux "tuple"=some none)(aea:UC K Ux "sorted"=some none)(aeb:UC K Ux "set"=some none)(aec:UC K Ux "min"=some none)(aed:UC K Ux "str"=some none) :
  ∃ fd:Uk,(∀(s:T2)(v:Value),Xl s fd ⟨[v],[]⟩ [("script",v)])/\∀ base:Heap,K.In base->base.Ns Ux mg->AF l.prog w K mg base AB 11 fa fd ["script"] (KR K):=by
 have e:=L.symm.trans (U6 X G aax);cases e;have T:Nr l.prog w K mg A :=
  { n_len:=VT X G ad1,ni:=VT X G ad2,rO:=VT X G ad3,kL:=VT X G ad4,dW:=VT X G ad5,sh:=VT X G ad6,cJ:=VT X G ad7,kM:=VT X G ad8,ia:=VT X G ad9,jz:=VT X G aea,sj:=VT X G aeb,sr:=VT X G aec,uz:=VT X G aed,sv:=⟨_,U6 X G acQ⟩,sy:=⟨_,U6 X G acR⟩,sA:=⟨_,U6 X G acS⟩,sD:=⟨_,U6 X G acT⟩,sE:=⟨_,U6 X G acU⟩,sH:=⟨_,U6 X G acV⟩,sI:=⟨_,U6 X G acW⟩,iq:=⟨_,U6 X G acX⟩,ic:=U6 X G ic,kQ:=U6 X G kQ,cU:=U6 X G cU,kX:=U6 X G kX,kY:=U6 X G kY,kZ:=U6 X G kZ,oK:=U6 X G oK,oJ:=U6 X G oJ,lS:=U6 X G lS,kN:=adX,dY:=adW,sS:=adY,sT:=adZ,abb:=ad0,cv:=⟨t1,t2,t3,t4,Ad4 oW lW vW (show ([("lift":Str),"pulse","gap","hang"]).Nodup by decide +kernel) (show 4<=1000 by decide),λH=>.inr ⟨_,_,_,lT1,rfl,rfl,U7 zT1 (by decide),vT1⟩,λH=>.inr ⟨_,_,_,lT2,rfl,rfl,U7 zT2 (by decide),vT2⟩,λH=>.inr ⟨_,_,_,lT3,rfl,rfl,U7 zT3 (by decide),vT3⟩,λH=>.inr ⟨_,_,_,lT4,rfl,rfl,U7 zT4 (by decide),vT4⟩⟩,aba:=λH=>.inr ⟨_,_,_,lT5,rfl,rfl,U7 zT5 (by decide),vT5⟩,hc:=⟨⟨adF,adG,adH,adI⟩,adJ,adK,adL,adM,adN⟩,lc:=⟨⟨adt,adu,adv,adw⟩,adx,ady,adz,adA,adB,adC,adD,adE⟩,sc:=⟨⟨UY,⟨ac8,ac9,ada,adb⟩,ade,adf,adg⟩,adh,adi,adj,adk⟩,gc:=⟨UO _ (UL.mpr rfl),⟨adl,adm,adn,ado⟩,adp,adq,ads⟩ }
 have pc:J5 K A.Plan:=⟨⟨adO,adP,adQ,adR⟩,adS,adT,adU,adV⟩;have Fax:=Gw (st:=(top 58)) lax cax kax;have qG:=Gw (st:=(Af (top 17) 0)) lcl ccl vK;have vL:=qG.binds (ps:=["self","many"]) λ_ _ _ _ _ _ us hl=>match us,hl with | [_,_],_=>rfl
 refine ⟨VG "law" "law" (DK (top 58)) (Dp (top 58)) (Ab (top 58)) .none vE vF vG vD qB vH,λs v=>.of_eq rfl,λbase _ _=>?_⟩;have J:=haa.fn l.prog w base X G (λ_ _ F=>Aep F T.toTxt) (by walk_at "b");have nk:=hag.fn l.prog w base X G (λ_ _ F=>Aec F T.toTxt) (by walk_at "b");have gT:=hah.fn l.prog w base X G (λ_ _ F=>Aej F T.toTxt nk) (by walk_at "b");have ip:=hab.fn l.prog w base X G (λ_ _ F=>Afe F T.toTxtP) (by walk_at "b");have nP:=had.fn l.prog w base X G (λ_ _ F=>Afm F T.toTxtP J) (by walk_at "b");have nQ:=hae.fn l.prog w base X G (λ_ _ F=>Afr F T.toTxtP J ip) (by walk_at "b");have nR:=haf.fn l.prog w base X G (λ_ _ F=>Afw F T.toTxtP J ip) (by walk_at "b");have oT:=mV.fn l.prog w base X G (λ_ _ F=>AfN F T.toTxtS) (by walk_at "b");have eU:=lX.me l.prog w mg base (λ_ _ F=>AeF F T.toTxtS J) (by walk_at "b");have og:=hba.me l.prog w mg base (λ_ _ F=>AeM F T.toTxtS eU) (by walk_at "b");have oM:=mO.me l.prog w mg base (λ_ _ F=>AeH F T.toTxtS eU) (by walk_at "b");have oN:=hbc.me l.prog w mg base (λ_ _ F=>AeJ F T.toTxtS eU) (by walk_at "b");have oR:=eI.me l.prog w mg base (λ_ _ F=>Aet F T.toTxtS) (by walk_at "b");have oQ:=hbg.me l.prog w mg base (λ_ _ F=>Aex F T.toTxtS) (by walk_at "b");have oS:=hbf.me l.prog w mg base (λ_ _ F=>AeW F T.toTxtS) (by walk_at "b");have nK:=haz.me l.prog w mg base (λ_ _ F=>AeA F T.toTxtS) (by walk_at "b");have aee:=hay.me l.prog w mg base (λ_ _ F=>AeP F T.toTxtS) (by walk_at "b");have aef:=hbi.me l.prog w mg base (λ_ _ F=>Ae7 F T.toTxtK aee nK) (by walk_at "b");have aeg:=qw.me l.prog w mg base (λ_ _ F=>Ae1 F T.toTxtK) (by walk_at "b");have MS:=hbh.mi l.prog w mg base (U6 X G acM) acY acZ (λ_ _ F=>Ae5 F T.toTxtK ⟨rdS,spS,fdS,tyS,vK⟩ (QA qG T.toTxtS) vL) (by walk_at "b");have MG:Fm l.prog w K mg base AB 2 A.aR "Group" ["self","many"] (JT K A):=⟨_,_,U6 X G acN,⟨ac6,aG,icl,ac7⟩,vL,(QA qG T.toTxtS).mono (by decide)⟩;have I:=hbl.me l.prog w mg base (λ_ _ F=>AfE F T.lc) (by walk_at "b");have ML:=hbk.mi l.prog w mg base (U6 X G acO) ac0 ac1 (λ_ _ F=>AfI F T.lc I) (by walk_at "b");have MP:=hck.mi l.prog w mg base (U6 X G acL) ac4 ac5 (λ_ _ F=>AfA F T.toTxtP nP nQ nR) (by walk_at "b");have D:=hby.me l.prog w mg base (λ_ _ F=>AfU F T.toTxtH) (by walk_at "b");have qH:=hbz.me l.prog w mg base (λ_ _ F=>AfX F T.toTxtH) (by walk_at "b");have vM:=hbv.me l.prog w mg base (λ_ _ F=>Af2 F T.toTxtH I) (by walk_at "b");have vN:=hbw.me l.prog w mg base (λ_ _ F=>AfZ F T.toTxtH og) (by walk_at "b");have aeh:=hbq.me l.prog w mg base (λ_ _ F=>Af7 F T.toTxtH vM) (by walk_at "b");have aei:=hbu.me l.prog w mg base (λ_ _ F=>Af6 F T.toTxtH I vN vM) (by walk_at "b");have aej:=hbt.me l.prog w mg base (λ_ _ F=>Af8 F T.toTxtH I vN aei) (by walk_at "b");have aek:A2 l.prog w K mg base (AJ l.prog w) 6 A.ae "pulse" ["self","line"] ES:=hbr.me l.prog w mg base (λ_ _ _=>Ki) (by walk_at "b");have ael:A2 l.prog w K mg base (AJ l.prog w) 7 A.ae "gap" ["self","line"] ES:=hbs.me l.prog w mg base (λ_ _ _=>Ki) (by walk_at "b");have aem:=hbx.me l.prog w mg base (λ_ _ F=>Af3 F T.toTxtH I aef) (by walk_at "b");have aen:=hbo.me l.prog w mg base (λ_ _ F=>Agd F T.toTxtH qH oM oN) (by walk_at "b");have aeo:=hbp.me l.prog w mg base (λ_ _ F=>Agi F T.toTxtG D aeh aej aek ael) (by walk_at "b");have aep:=hbn.me l.prog w mg base (λ_ _ F=>Agj F T.toTxtG aen aeo aem) (by walk_at "b");have aeq:=hca.me l.prog w mg base (λ_ _ F=>Agn F T.toTxtH D) (by walk_at "b");have aer:=hcb.me l.prog w mg base (λ_ _ F=>Agr F T.toTxtH D) (by walk_at "b");have aes:=cG.me l.prog w mg base (λ_ _ F=>Agv F T.toTxtH D) (by walk_at "b");have aet:=hce.me l.prog w mg base (λ_ _ F=>Agz F T.toTxtH D) (by walk_at "b");have aeu:=km.me l.prog w mg base (λ_ _ F=>AgE F T.toTxtH D) (by walk_at "b");have aev:=bM.me l.prog w mg base (λ_ _ F=>AgI F T.toTxtH) (by walk_at "b");have aew:=hcj.me l.prog w mg base (λ_ _ F=>AgM F T.toTxtH) (by walk_at "b");have aex:=hci.me l.prog w mg base (λ_ _ F=>AgQ F T.toTxtH aeg) (by walk_at "b");have aey:=hcg.me l.prog w mg base (λ_ _ F=>AgV F T.toTxtH qH oQ) (by walk_at "b");have aez:=hcf.me l.prog w mg base (λ_ _ F=>Ag2 F T.toTxtH qH oR oS oT) (by walk_at "b");have MH:=hbm.mi l.prog w mg base (U6 X G acP) ac2 ac3 (λ_ _ F=>Ahe F T.toTxtH ML MG MS) (by walk_at "b");have ka:=hai.fn l.prog w base X G (λ_ _ F=>Air F T.toTxt) (by walk_at "b");have qk:=haj.fn l.prog w base X G (λ_ _ F=>AiC F T.toTxtP gT ka) (by walk_at "b");have fX:=hal.fn l.prog w base X G (λ_ _ F=>Ahq F) (by walk_at "b");have lQ:=ham.fn l.prog w base X G (λ_ _ F=>Ahu F) (by walk_at "b");have pf:=han.fn l.prog w base X G (λ_ _ F=>Ahw F) (by walk_at "b");have pN:BB l.prog w K mg base AB 2 "_law_ended" ["world","line","why"] ES:=haq.fn l.prog w base X G (λ_ _ _=>Ki) (by walk_at "b");have pT:=hap.fn l.prog w base X G (λ_ _ F=>AhB F T.toTxtH) (by walk_at "b");have pR:=hao.fn l.prog w base X G (λ_ _ F=>AhK F T.toTxtH pf) (by walk_at "b");have pM:=has.fn l.prog w base X G (λ_ _ F=>AhO F lQ fX) (by walk_at "b");have pO:BB l.prog w K mg base AB 3 "_law_gap" ["world","line"] ES:=har.fn l.prog w base X G (λ_ _ _=>Ki) (by walk_at "b");have pP:=hat.fn l.prog w base X G (λ_ _ F=>AhT F pM pN pO) (by walk_at "b");have qo:=hau.fn l.prog w base X G (λ_ _ F=>Ah1 F T.toTxtW pP pR) (by walk_at "b");have qm:=hav.fn l.prog w base X G (λ_ _ F=>Ah9 F T aep) (by walk_at "b");have qp:=haw.fn l.prog w base X G (λ_ _ F=>Aie F T.toTxtW aeq aer aeu aes aet aez aey aev aex aew pT) (by walk_at "b");have ql:=hak.fn l.prog w base X G (λ_ _ F=>Ain F T.toTxtW fX) (by walk_at "b");exact AiT Fax T gT qk ql qm qo qp MH MP pc
theorem walk {l:ZE}{q:Ub}{B:List Str}{H:(Str->Option Value)->Heap->Prop}{D:T6->Heap->Prop}{d:DefRec}{K:Yc->T3}(I:l.most=some 63)(J:d.params.defaults=[])(L:∀ (w:T6) (h:Heap),D w h->(K w.params).In h)(F:∀ (w:T6) (mg:Str->Option Value) (fa:Addr) (h:Heap),(K w.params).In h->h.Ns Ux mg->mg d.name=some (.ref fa) ->
   ∃ fd:Uk,(∀ (s:T2) (u:Value),Xl s fd ⟨[u],[]⟩ [("script",u)])/\∀ base:Heap,(K w.params).In base->base.Ns Ux mg->AF l.prog w (K w.params) mg base AB 11 fa fd ["script"] (KR (K w.params))) :
  PySem.W.WalkO q B H D l.row.toRowW d [] (λf vs=>ZD f vs) :=
 L2.aay (n:=63) (k:=11) (x:="script") (CX:=λ_=>AB) (sp:=λw=>KR (K w.params)) I (by decide) J ⟨rfl,by decide,by decide⟩ L F (λ_ _ a O V _ hS=>⟨a,O,rfl,hS,V,λ_=>rfl⟩) λ_ _ _ _ _ z=>z
end
end Lw
local macro_rules | `(tactic| walk_at "f")=>`(tactic| (refine' Lw.bg.of ?a ?l ?c ?k;(case a=>k_is);(case l=>k_is);(case c=>k_is);(case k=>k_is)))
local macro_rules | `(tactic| walk_at "fM")=>`(tactic| (refine' Lw.aP.of ?a ?i ?l ?c ?k;(case a=>k_is);(case i=>k_is);(case l=>k_is);(case c=>k_is);(case k=>k_is)))
local macro_rules | `(tactic| walk_at "fR")=>`(tactic| (refine' Lw.cD.of ?a ?b ?i ?l ?c ?k;(case a=>k_is);(case b=>k_is);(case i=>k_is);(case l=>k_is);(case c=>k_is);(case k=>k_is)))
namespace PySem.W.Fast
def tw1711507217756545687:=0
def tw5908151091491950104:=0
def tw627064123945993631:=0
def tw7341822704802157217:=0
def tw2311141100124206032:=0
def tw16140865724044724271:=0
def tw12738361983962069152:=0
def tw14022008572916512957:=0
def tw3934093348190764372:=0
def tw15210226057363434153:=0
def tw7788312613594023484:=0
def tw7509417152913291428:=0
def tw13226513434833632505:=0
def tw9892523058042658870:=0
def tw11244562807982554945:=0
def tw16877253885930887767:=0
def tw1323330881435927236:=0
def tw6865691285397340593:=0
def tw10610312867015972594:=0
def tw16174558265925644020:=0
def tw1688610059301388562:=0
def tw8186323564217910608:=0
def tw11353882649786364982:=0
def tw14201855119459725478:=0
def tw4956739895198615863:=0
def tw5980297411965967882:=0
def tw17152406401747762628:=0
def tw18024611530950551151:=0
def tw11643862160028356070:=0
def tw18348752448516843069:=0
def tw9603623418802805414:=0
def tw16347768188348412106:=0
def tw4926802014286287275:=0
def tw17428531156995649564:=0
def tw15234396286702610017:=0
def tw3166652473949433382:=0
def tw5049061804717800508:=0
def tw3213279103464942504:=0
def tw4266596398729263700:=0
def tw12895664017480942773:=0
def tw722813754729904636:=0
def tw8921826556628155483:=0
def tw10982452200646486081:=0
def tw8985355760388312162:=0
def tw5275579643641656742:=0
def tw10043136412629522333:=0
def tw16608643750955259701:=0
def tw8543390892324140277:=0
def tw4645340125884430435:=0
def tw8467695579030289047:=0
def tw13600600251223764071:=0
def tw7838903541803730550:=0
def tw6268815570680028305:=0
def tw14786940059439747125:=0
def tw6674737668360725408:=0
def tw15554980471630291991:=0
def tw6015080965064495677:=0
def tw13980873163284396578:=0
def tw17774292143148337107:=0
def tw10910895182189251176:=0
def tw5857150381585259639:=0
def tw4620296151949173933:=0
def tw15866447696210187046:=0
def tw14639806910110729413:=0
end PySem.W.Fast
open PySem PySem.W PyProof.Rows
set_option maxRecDepth 100000 in
set_option maxHeartbeats 0 in
theorem PySem.Challenge.cw_stephall_k08_tone_in_order_holds : PySem.Challenge.rw_stephall_k08_tone_in_order.Holds := by
 w_on;o_law;k_head;(case hw=>w_witness2)
 k_fill
 refine Lw.walk (l:=PySem.Challenge.rw_stephall_k08_tone_in_order) rfl rfl (λw h Y=>PySem.W.kIn_of Y) ?F;case F =>
  intro w mg fa h KX G iY;exact Lw.all_mk (A:=Lw.mkA) KX G iY (by k_is) (by k_is) (by k_is) (by k_is) (by k_is) (by k_is) (by k_is) (by k_is) (by k_is) (by k_is) (by k_is) (by k_is) (by k_is) (by k_is) (by k_is) (by k_is) (by k_is) (by k_is) (by k_is) (by k_is) (by k_is) (by k_is) (by k_is) (by k_is) (by walk_at "f") (by walk_at "f") (by walk_at "f") (by walk_at "f") (by walk_at "f") (by walk_at "f") (by walk_at "f") (by walk_at "f") (by walk_at "f") (by walk_at "f") (by walk_at "f") (by walk_at "f") (by walk_at "f") (by walk_at "f") (by walk_at "f") (by walk_at "f") (by walk_at "f") (by walk_at "f") (by walk_at "f") (by walk_at "f") (by walk_at "f") (by walk_at "f") (by walk_at "f") (by k_is) (by k_is) (by k_is) (by k_is) (by walk_at "fR") (by walk_at "fR") (by walk_at "fR") (by walk_at "fR") (by walk_at "fR") (by walk_at "fR") (by walk_at "fR") (by walk_at "fR") (by walk_at "fR") (by walk_at "fM") (by walk_at "fM") (by walk_at "fM") (by walk_at "fM") (by walk_at "fM") (by walk_at "fM") (by walk_at "fM") (by walk_at "fM") (by walk_at "fM") (by walk_at "fM") (by walk_at "fM") (by walk_at "fM") (by walk_at "fM") (by walk_at "fM") (by walk_at "fM") (by walk_at "fM") (by walk_at "fM") (by walk_at "fM") (by walk_at "fM") (by walk_at "fM") (by walk_at "fM") (by walk_at "fM") (by walk_at "fM") (by walk_at "fM") (by walk_at "fM") (by walk_at "fM") (by walk_at "fM") (by walk_at "fM") (by walk_at "fM") (by walk_at "fM") (by k_is) (by k_is) (by k_is) (by k_is) (by k_is) (by k_is) (by k_is) (by k_is) (by k_is) (by k_is) (by k_is) (by k_is) (by k_is) (by k_is) (by k_is) (by k_is) (by k_is) (by k_is) (by k_is) (by k_is) (by k_is) (by k_is) (by k_is) (by k_is) (by k_is) (by k_is) (by k_is) (by k_is) (by k_is) (by k_is) (by k_is) (by k_is) (by k_is) (by k_is) (by k_is) (by k_is) (by k_is) (by k_is) (by k_is) (by k_is) (by k_is) (by k_is) (by k_is) (by k_is) (by k_is) (by k_is) (by k_is) (by k_is) (by k_is) (by k_is) (by k_is) (by k_is) (by k_is) (by k_is) (by k_is) (by k_is) (by k_is) (by k_is) (by k_is) (by k_is) (by k_is) (by k_is) (by k_is) (by k_is) (by k_is) (by k_is) (by k_is) (by k_exc) (by k_exc) (by k_exc) (by k_exc) (by k_exc) (by k_is) (by rfl) (by exact ⟨⟨_,rfl⟩,rfl,rfl,⟨_,rfl⟩,rfl,rfl,⟨_,rfl⟩,rfl,rfl,⟨_,rfl⟩,rfl,rfl,trivial⟩) (by k_is) (by exact (by decide)) (by exact (.cons ⟨_,rfl⟩ (.cons ⟨_,rfl⟩ .nil))) (by k_is) (by exact (by decide)) (by exact (.cons ⟨_,rfl⟩ .nil)) (by k_is) (by exact (by decide)) (by exact (.cons ⟨_,rfl⟩ .nil)) (by k_is) (by exact (by decide)) (by exact (.cons ⟨_,rfl⟩ (.cons ⟨_,rfl⟩ (.cons ⟨_,rfl⟩ (.cons ⟨_,rfl⟩ (.cons ⟨_,rfl⟩ .nil)))))) (by k_is) (by exact (by decide)) (by exact (.cons ⟨_,rfl⟩ (.cons ⟨_,rfl⟩ (.cons ⟨_,rfl⟩ (.cons ⟨_,rfl⟩ (.cons ⟨_,rfl⟩ (.cons ⟨_,rfl⟩ (.cons ⟨_,rfl⟩ (.cons ⟨_,rfl⟩ (.cons ⟨_,rfl⟩ (.cons ⟨_,rfl⟩ .nil))))))))))) (by k_is) (by k_is) (by k_is) (by k_is) (by k_is) (by k_is) (by k_is) (by k_is) (by k_is) (by k_is) (by k_is) (by k_is) (by k_is)
