import PyProof.Rows.All
import Wide.All
import OpenK.AllK
import Wide.FinOn
import Lean
import PyProof.EqAt
import PyProof.EqKinds
import PyProof.TupleCall
import PyProof.NeData
import PyProof.P3In
import PyProof.SliceStr2
import PyProof.StrLaws
import PyProof.WalksEnum
import PyProof.EnumMake
import PyProof.ListRange
import PyProof.Rows.StrInSeq3
import PyProof.Rows.SortWalk
import PyProof.Rows.SortStr
import PyProof.ConsumeWalk
import KE.KSortTup
import PyProof.Rows.SetFrom
import PyProof.CollectWalk
import PyProof.AutoListH
import PyProof.DictCompW
import PyProof.DictWalks
import PyProof.Rows.StrNews
import PyProof.Rows.StrWeight2
import PyProof.StrLawsChain
import PyProof.TupleIter
import PyProof.WalksMore
import KE.KDictList
import PyProof.Rows.StrRules
import PyProof.StrLawsRepr
import PySem.Challenge.RW_stephall_k38_whole_forty_groups_of_ten
set_option genSizeOf false
set_option bootstrap.genMatcherCode false
set_option compiler.extract_closed false
noncomputable section
local macro_rules | `(tactic| omega)=>`(tactic| first | lia | omega +splitNatSub)
open PySem renaming Shared->TF,wpAny->TL,World->TM,Expr->TN,model->TQ,wpAny_bind->TR,Program->TV,sizeLine_eq->TY,eval->TZ,starEach->T2,FuncData->T5,wpAny_pure->T6,Around->Ub,mainGlobals->Ui,backTo->UA,compareOp->UJ,bootBuiltins->U0,codeAny->U8,sysModules->Vh,holding->Vj,step->Vk,standAt->Vq,binaryOp->Vs,hashStr->Vw,wpAny_mono->Vx,pyNext->Vy,IsEnum->VA,assign->VE,wpAny_holding->VF,relabel->VH,backToKw->VM,keywordEach->VN,mem_of_lookup->VP,Builtin->VQ,SetTable->VR,wpAny_field->VS,wpAny_standAt->VY,foldedSetIterable->VZ,getMethod->V1,Model->Wb,assignEach->Wc,NameKind->Wi,bindL->Wj,bindC->Wl,atKey->Wr,relayAll->Ws,field->Wx,wpAny_truthy_bool->WC,swapsWith->WD,wpAny_passesOwn->WE,letOwnedTupleGo->WH,rawInt->WI,Result->WK,BindsTo->WM,callWith->WN,Keyword->WO,sliceBounds->WS,callerA->WT,valueAt->WW,getItem->W2,codeAny_mono->W3,call_meets->W5,compPost->W9,wpAny_call_entry->Xc,layNew->Xd,wpAny_rule->Xe,tupleKind->Xj,GenState->Xl,isTrue->Xm,Operator->Xn,pyIter->Xo,attributeBase->Xr,Params->Xw,DictEntry->Xz,codeAny_builtin->XA,sliceRange->XB,intText?->XD,wpAny_setField_rec->XH,wpAny_execs_nil->XQ,setItem->XR,behindInMarks->XS,wpAny_Call_Name_kw->XW,seqIndex?->XX,seqIndex_of->XY,subscripted->XZ,typeIs_str->X5,compTurn->Ye,compEnvC->Yf,comprehension->Yg,wpAny_newObj_type->Yh,wpAny_pyIter_enum->Yi,wpAny_callSpecial?_slot->Yp,IsEnumOut->Yr,Within->YF,builtinsNs->YH,wpAny_Name->YK,PassesOwn->YL,wpAny_pyIter_list->YM,wpAny_pyIter_tuple->YN,wpAny_call->YW,cellsFrom->YY,seqIndex_neg->Y2,typeIs_int->Y5,call->Zb,codeAny_call_builtin->Ze,checkBuiltinCall->Zf,reprText->Zh,codeAny_loop->Zi,wpAny_noted->Zj,firstIterPos->Zk,wpAny_comprehension_free->Zl,wpAny_newFunctionEnv->Zm,setAddHashedIn->Zu,codeAny_of_tree->Zx,wpAny_askSetting->Zy,sizeLine->ZT,wpAny_eqBool_int->ZV,wpAny_execs_cons->Z0,wpAny_assign_Name->Z1,wpAny_loadPart->Z5,slot_list_getitem->tH,fitsIndex_both->tL,wpAny_loadPart_at->tR,wpAny_formatField_str->tX,wpAny_letOwnedTupleGo_enum->tY,wpAny_newTuple->um,wpAny_storeSet_of->uv,wpAny_seqItems->uB,wpAny_setField->uC,firstArgMember->uE
open PySem.W renaming Frag->TH,findIn->Uh,nsIn->Us,mg_of->UP,keepIn->U5,fnOf->Vm,excIn->Vn,mg_none_of->Vv,kia_one->Vz,plainGet->V0,emptyDict->V2,codeIn->V4,instObj->Wa,hasDictIn->Wf,isFn->Wg,makesIn->Wh,plainOver->WJ,hideAll_get->Xk,kitOne->Xs,callWith_K->Xt,methodCall_KW->Xu,hideAll->XN,lookIn->XT,specialIn->XU,methodObj->YG,plainGet_of->YR,takerIn->YS,typeIn->YT,OpenLaw->Zc,nsOkIn->Zd,of_hideAll->ZY,handedIn->Z4,kitx_list->Z6,kitx_dict->Z7,callWith_K0->Z8,cellsFrom_some->Z9,tail_of_in->tN,kitAny->tW,readsIn->ug,findCls->uh
open PySem.Str renaming ofString->TK,empty->UI,length->WR
open List renaming length_map->TU,replicate->TX,getElem?_map->T7,mem_cons->T8,mem_map->Ua,length_set->Ud,mem_of_getElem?->Ue,getElem?_eq_getElem->Ug,map_append->Um,map_map->Uo,append_assoc->Ur,getElem?_set_ne->Ut,mem_cons_of_mem->Uu,nodup_cons->Uv,size_toArray->Uw,getElem?_eq_some_iff->Uy,mem_singleton->UB,mem_cons_self->UC,mem_append_right->UD,length_append->UK,getD->UO,length_replicate->UR,not_mem_nil->UT,set_cons_succ->UW,set_cons_zero->UX,range->UY,mem_range->UZ,mem_append->U1,map_cons->U4,length_singleton->U6,map_set->Vb,getElem_of_mem->Vd,length_cons->Vf,length_range->Vg,set_set->Vp,length_take->Vt,take_add_one->VB,take_length->VC,getElem?_set_self->VD,find?_cons->VI,map->VU,append_nil->V3,getElem_mem->V5,replicate_succ->Wm,lookup_cons->Wo,cons_append->Wq,nodup_append->Wt,nodup_nil->Wu,map_id->Wz,mem_append_left->WB,lookup->WL,length->WQ,map_congr_left->WV,range_succ->WZ,mem_filter->W0,flatten_cons->W4,all_eq_true->Xb,any_cons->Xv,map_nil->Xy,map_replicate->XC,pairwise_map->XG,ext_getElem?->XJ,getElem_inj->XO,lt_trans->Yk,getElem?_eq_none->Yt,filter_append->Yu,perm_middle->Yv,flatMap_append->Yw,mem_or_eq_of_mem_set->Yx,getD_eq_getElem?_getD->YC,filterMap_cons->YJ,mem_filterMap->YO,of_mem_zip->YX,foldl->Y6,eraseIdxIfInBounds_toArray->Y9,nil_append->Za,idxOf_lt_length_of_mem->Zn,length_erase_le->Zo,le_antisymm->Zp,mem_erase_of_ne->ZA,length_erase_of_mem->ZC,filter_cons->ZF,filter_nil->ZG,length_filter_le->ZH,find?_eq_none->ZK,getElem_take->ZL,pairwise_lt_range->ZP,eq_of_mem_replicate->ZQ,getElem?_append_left->tf,length_drop->tu,foldl_cons->tK,length_eq_zero_iff->tU,take_of_length_le->tV,idxOf_cons->tZ,length_nil->uf,pairwise_cons->ui,ext_getElem->uk,length_pos_of_mem->uy,find?_append->uJ,take_append_drop->uK,any_eq_true->uL,mem_of_find?_eq_some->uM,find?_some->uN,perm_append_comm->uO,getElem?_set->uQ,mem_replicate->uT,getElem?_eq_none_iff->uV,eq_nil_of_length_eq_zero->uW
open Or renaming inr->T1,inl->T9
open Nat renaming le_refl->T3,ne_of_lt->Uq,lt_of_lt_of_le->Ux,le_of_ble_eq_true->UE,zero_le->UH,le_trans->UM,le_succ->U9,lt_irrefl->Vi,ne_of_gt->Wd,lt_of_le_of_lt->Xa,lt_succ_self->Xq,succ_ne_self->XE,succ_le_succ->Ya,lt_succ_of_lt->Yl,le_of_lt->YI,not_lt_zero->Zz,add_le_add_left->ZM,toDigits->ZS,min_le_left->tT
open PySem.Heap renaming lt_size->Uc,get?_push_of_some->Ul,SameBut->UN,get?_push_size->U2,size_push->VG,get?_update_self->Y3,size_update->Zt,get?_update_other->tI,get?_push_ne->uo,get?_update_ne->uq
open Ne renaming symm->Uj
open Option.some renaming inj->Uk
open PySem.Value renaming ref->Uz,str->UQ,int->U3,none->Vc,bool->Xh,type->Xi,isStrOf->XM,builtin->Yb,isInt->YD,float->YE,isStrOf_shape->ZU
open Bool renaming false_ne_true->UG,and_eq_true->Vu,eq_iff_iff->We,eq_false_iff->WU,false_eq_true->W7,false_and->Z2
open Sum renaming inr->UL,inl->WA
open PyProof.Rows renaming seqObj->US,AllBare->VL,envOfC->VO,callWith_type1->Xp,IntsAre->Xx,Subscript_->Y0,subscriptTail->Y1,listUpdate_at->Zq,seqEpoch_at->Zs,subscriptTail_builtinR->tF
open Option renaming map_eq_some_iff->UU,map_some->U7,bind_some->YA,isSome_iff_exists->YZ,getD_none->Y4,map_eq_none_iff->uR
open PySem.Obj renaming mapSeq->Va,putSet->Ym,data_mapFields->uD
open Array renaming length_toList->Ve,getElem?_eq_getElem->W6,getElem?_toList->Y8,mem_toList_iff->Z3,perm_iff_toList_perm->uj,all_toList->uP
open True renaming intro->Vl
open Int renaming toNat_natCast->Vo,natCast_nonneg->VW,emod_nonneg->WX,emod_lt_of_pos->WY,zero_add->Xf,le_refl->Xg,le_of_lt->Yy,eq_ofNat_of_zero_le->ue
open False renaming elim->Vr
open PySem.F renaming plainAttrs_list->VJ,slot_list_append->V6,type_list_append->V7,called_set->Ww,slot_tuple_iterator_next->Yq,slot_enumerate_next->Ys,slot_int_rmul->tM,excBase_ValueError->tO,typeOf_object_class->tQ,attr_ValueError->tS,slot_list_remove->ua,entry_list_remove->ub,args_list_remove_2->uc,plain_set_new->ux,entry_tuple_iterator_next->uz,args_tuple_iterator_next_1->uA,entry_enumerate_next->uH,args_enumerate_next_1->uI
open PySem.PassesOwn renaming never->VT,leaving->ZJ
open PySem.SeqAt renaming eqv_refl->VX
open PySem.PyData renaming depth->V8,depthAll->YB,eqv->Zg,canLay0->ZR,canLayAll0->uU
open Sum.inr renaming inj->V9
open PySem.NameKind renaming free->Wn
open PySem.SetTable renaming grown->Wv,orStandIn->ur,standIn->uu
open PySem.W.KasT renaming kasWp_bind->XF
open Prod renaming ext->XI
open PySem.Builtin.Str renaming strSliceIndices->Yc,occurrences->YQ
open ForInStep renaming yield->Yd
open Classical renaming byContradiction->Yj
open PySem.Heap.SameBut renaming update->Yn
open PySem.Builtin.SmallTypes renaming nextOf->Yo,ownedTupleIsFree->uF,ownedTupleHandOut->uG
open List.Sublist renaming refl->Yz
open PySem.Around renaming under->YU,under_plainId->Zv
open PySem.Code renaming isFrame->YV,quiet_builtin->tP
open PySem.Builtin.List renaming listTooLong->Y7
open PyProof.Rows.F renaming plain_set_update_loop->Zw,entry_set_update_loop->uw
open PySem.AutoSeq1 renaming wpAny_loadPart'->ZD
open And renaming intro->ZE
open List.Perm renaming append_right->ZI,swap->ZN,cons->uS
open List.Pairwise renaming imp_of_mem->ZO
open PySem.SeqAt.EqAt renaming int_str->ZW,str_int->ZX
open PySem.Calls renaming Name_function_global->ZZ,evalArgs_plain->tJ
open PySem.MeetsSeq renaming list_remove->ud
set_option Elab.async false
set_option linter.all false
set_option maxRecDepth 100000
set_option maxHeartbeats 4000000
namespace L2
theorem Aw {n:Nat}(h:Nat.ble n ZT=true:=by rfl):n<=ZT:=UE h
theorem Ct {α:Type}{B R:α->Prop}{G:Prop}(h:∃ a,B a/\R a)(q:∀ a,B a->R a->G):G:=by obtain ⟨a,D,r⟩:=h;exact q a D r
theorem GG {α β:Type}{B R:α->β->Prop}{G:Prop}(h:∃ a b,B a b/\R a b)(q:∀ a b,B a b->R a b->G):G:=by obtain ⟨a,b,D,r⟩:=h;exact q a b D r
theorem AH {α β:Type}{B D R:α->β->Prop}{G:Prop}(h:∃ a b,B a b/\D a b/\R a b)(q:∀ a b,B a b->D a b->R a b->G):G:=by obtain ⟨a,b,H,I,r⟩:=h;exact q a b H I r
theorem GH {α β:Type}{B D P3 R:α->β->Prop}{G:Prop}(h:∃ a b,B a b/\D a b/\P3 a b/\R a b)(q:∀ a b,B a b->D a b->P3 a b->R a b->G):G:=by obtain ⟨a,b,H,I,J,r⟩:=h;exact q a b H I J r
inductive NA (P1 P2 R:Prop):Prop
 | mk (h1:P1) (h2:P2) (r:R):NA P1 P2 R
inductive NB {α:Type}(P1 R:α->Prop):Prop
 | mk (a) (h1:P1 a) (r:R a):NB P1 R
inductive NC {α:Type}(P1 P2 R:α->Prop):Prop
 | mk (a) (h1:P1 a) (h2:P2 a) (r:R a):NC P1 P2 R
inductive ND {α β:Type}(P1 R:α->β->Prop):Prop
 | mk (a b) (h1:P1 a b) (r:R a b):ND P1 R
inductive NF {α β:Type}(P1 P2 R:α->β->Prop):Prop
 | mk (a b) (h1:P1 a b) (h2:P2 a b) (r:R a b):NF P1 P2 R
inductive NG {α β:Type}(P1 P2 P3 P4 R:α->β->Prop):Prop
 | mk (a b) (h1:P1 a b) (h2:P2 a b) (h3:P3 a b) (h4:P4 a b) (r:R a b):NG P1 P2 P3 P4 R
inductive NH {α β γ:Type}(P1 R:α->β->γ->Prop):Prop
 | mk (a b c) (h1:P1 a b c) (r:R a b c):NH P1 R
inductive NI {α β γ:Type}(P1 P2 P3 P4 R:α->β->γ->Prop):Prop
 | mk (a b c) (h1:P1 a b c) (h2:P2 a b c) (h3:P3 a b c) (h4:P4 a b c) (r:R a b c):NI P1 P2 P3 P4 R
inductive NJ {α β γ δ:Type}(P1 R:α->β->γ->δ->Prop):Prop
 | mk (a b c d) (h1:P1 a b c d) (r:R a b c d):NJ P1 R
inductive NK {α β γ δ:Type}(P1 P2 P3 P4 P5 R:α->β->γ->δ->Prop):Prop
 | mk (a b c d) (h1:P1 a b c d) (h2:P2 a b c d) (h3:P3 a b c d) (h4:P4 a b c d) (h5:P5 a b c d) (r:R a b c d):NK P1 P2 P3 P4 P5 R
inductive NL {α β γ δ ε:Type}(P1 R:α->β->γ->δ->ε->Prop):Prop
 | mk (a b c d e) (h1:P1 a b c d e) (r:R a b c d e):NL P1 R
inductive NM {α β γ δ ε:Type}(P1 P2 P3 P4 P5 R:α->β->γ->δ->ε->Prop):Prop
 | mk (a b c d e) (h1:P1 a b c d e) (h2:P2 a b c d e) (h3:P3 a b c d e) (h4:P4 a b c d e) (h5:P5 a b c d e) (r:R a b c d e):NM P1 P2 P3 P4 P5 R
inductive Q81 {α β γ δ ε ζ η θ:Type}(P1 R:α->β->γ->δ->ε->ζ->η->θ->Prop):Prop
 | mk (a b c d e f g h) (h1:P1 a b c d e f g h) (r:R a b c d e f g h):Q81 P1 R
inductive NO {α β γ δ ε ζ η θ ι:Type}(P1 R:α->β->γ->δ->ε->ζ->η->θ->ι->Prop):Prop
 | mk (a b c d e f g h i) (h1:P1 a b c d e f g h i) (r:R a b c d e f g h i):NO P1 R
theorem AW {B D R:Prop}(h:B/\D/\R):NA B D R:=by obtain ⟨H,I,r⟩:=h;exact ⟨H,I,r⟩
theorem Ao {α:Type}{B R:α->Prop}(h:∃ a,B a/\R a):NB B R:=by obtain ⟨a,D,r⟩:=h;exact ⟨a,D,r⟩
theorem AF {α:Type}{B D R:α->Prop}(h:∃ a,B a/\D a/\R a):NC B D R:=by obtain ⟨a,H,I,r⟩:=h;exact ⟨a,H,I,r⟩
theorem Bp {α β:Type}{B R:α->β->Prop}(h:∃ a b,B a b/\R a b):ND B R:=by obtain ⟨a,b,D,r⟩:=h;exact ⟨a,b,D,r⟩
theorem Bk {α β:Type}{B D R:α->β->Prop}(h:∃ a b,B a b/\D a b/\R a b):NF B D R:=by obtain ⟨a,b,H,I,r⟩:=h;exact ⟨a,b,H,I,r⟩
theorem GI {α β:Type}{B D P3 H R:α->β->Prop}(h:∃ a b,B a b/\D a b/\P3 a b/\H a b/\R a b):NG B D P3 H R:=by obtain ⟨a,b,I,J,L,O,r⟩:=h;exact ⟨a,b,I,J,L,O,r⟩
theorem Dh {α β γ:Type}{B R:α->β->γ->Prop}(h:∃ a b c,B a b c/\R a b c):NH B R:=by obtain ⟨a,b,c,D,r⟩:=h;exact ⟨a,b,c,D,r⟩
theorem F0 {α β γ:Type}{B D P3 H R:α->β->γ->Prop}(h:∃ a b c,B a b c/\D a b c/\P3 a b c/\H a b c/\R a b c):NI B D P3 H R:=by obtain ⟨a,b,c,I,J,L,O,r⟩:=h;exact ⟨a,b,c,I,J,L,O,r⟩
theorem Dp {α β γ δ:Type}{B R:α->β->γ->δ->Prop}(h:∃ a b c d,B a b c d/\R a b c d):NJ B R:=by obtain ⟨a,b,c,d,D,r⟩:=h;exact ⟨a,b,c,d,D,r⟩
theorem Ir {α β γ δ:Type}{B D P3 H I R:α->β->γ->δ->Prop}(h:∃ a b c d,B a b c d/\D a b c d/\P3 a b c d/\H a b c d/\I a b c d/\R a b c d):NK B D P3 H I R:=by obtain ⟨a,b,c,d,J,L,O,V,Y,r⟩:=h;exact ⟨a,b,c,d,J,L,O,V,Y,r⟩
theorem Aaa {α β γ δ ε:Type}{B R:α->β->γ->δ->ε->Prop}(h:∃ a b c d e,B a b c d e/\R a b c d e):NL B R:=by obtain ⟨a,b,c,d,e,D,r⟩:=h;exact ⟨a,b,c,d,e,D,r⟩
theorem Fl {α β γ δ ε:Type}{B D P3 H I R:α->β->γ->δ->ε->Prop}(h:∃ a b c d e,B a b c d e/\D a b c d e/\P3 a b c d e/\H a b c d e/\I a b c d e/\R a b c d e):NM B D P3 H I R:=by obtain ⟨a,b,c,d,e,J,L,O,V,Y,r⟩:=h;exact ⟨a,b,c,d,e,J,L,O,V,Y,r⟩
theorem KA {α β γ δ ε ζ η θ ι:Type}{B R:α->β->γ->δ->ε->ζ->η->θ->ι->Prop}(h:∃ a b c d e f g h i,B a b c d e f g h i/\R a b c d e f g h i):NO B R:=by obtain ⟨a,b,c,d,e,f,g,h,i,D,r⟩:=h;exact ⟨a,b,c,d,e,f,g,h,i,D,r⟩
end L2
namespace L2
open PySem PySem.Spec PyProof.Rows
abbrev Av:=Sum Int Str
noncomputable def DO:Av->Value->Bool
 | .inl k,v=>YD k v
 | .inr x,v=>XM x v
noncomputable def NP (w:TM):Av->Int
 | .inl k=>hashInt k
 | .inr x=>Vw w x
theorem Ea:∀{k:Av}{v:Value},DO k v=true->(∃ i t,k=WA i/\v=U3 i t)\/(∃ x t,k=UL x/\v=UQ x t)
 | .inl i,v,h=>by
  obtain ⟨t,e⟩:=Value.isInt_shape (k:=i) (v:=v) h;exact .inl ⟨i,t,rfl,e⟩
 | .inr x,v,h=>by
  obtain ⟨t,e⟩:=ZU (x:=x) (v:=v) h;exact .inr ⟨x,t,rfl,e⟩
theorem Aab (i:Int)(t:Tok):DO (.inl i) (.int i t)=true:=by simp [DO,YD]
theorem NQ (x:Str)(t:Tok):DO (.inr x) (.str x t)=true:=by simp [DO,XM]
theorem Aac (a b:Int):decide ((WA a:Av)=WA b)=(a == b):=by
 by_cases e:a=b
 .subst e;simp
 .have h:¬ (WA a:Av)=WA b:=λq=>e (Sum.inl.inj q);rw [decide_eq_false h];exact (beq_eq_false_iff_ne.mpr e).symm
theorem Aad (a b:Str):decide ((UL a:Av)=UL b)=decide (a=b):=by
 by_cases e:a=b
 .subst e;simp
 .have h:¬ (UL a:Av)=UL b:=λq=>e (V9 q);rw [decide_eq_false h,decide_eq_false e]
theorem Aae (a:Int)(b:Str):decide ((WA a:Av)=UL b)=false:=decide_eq_false (λq=>nomatch q)
theorem Aaf (a:Str)(b:Int):decide ((UL a:Av)=WA b)=false:=decide_eq_false (λq=>nomatch q)
noncomputable def Br (prog:TV)(w:TM):PySem.KeyKind prog w Av where
 is:=DO
 hash:=NP w
 inj:=λv a b ha hb=>by
  rcases Ea ha with ⟨i,t,rfl,rfl⟩ | ⟨x,t,rfl,rfl⟩
  .rcases Ea hb with ⟨j,u,rfl,e⟩ | ⟨y,u,rfl,e⟩
   .injection e with e1 _;rw [e1]
   .exact nomatch e
  .rcases Ea hb with ⟨j,u,rfl,e⟩ | ⟨y,u,rfl,e⟩
   .exact nomatch e
   .injection e with e1 _;rw [e1]
 byValue:=λk v h=>by
  rcases Ea h with ⟨i,t,rfl,rfl⟩ | ⟨x,t,rfl,rfl⟩<;>rfl
 pyHash:=λhv h=>by
  rcases Ea hv with ⟨i,t,rfl,rfl⟩ | ⟨x,t,rfl,rfl⟩
  .exact wpAny_pyHash_int h
  .exact wpAny_pyHash_str h
 eqBool:=λhu hv h=>by
  rcases Ea hu with ⟨i,t,rfl,rfl⟩ | ⟨x,t,rfl,rfl⟩
  .rcases Ea hv with ⟨j,u,rfl,rfl⟩ | ⟨y,u,rfl,rfl⟩
   .rw [Aac] at h;exact ZV h
   .rw [Aae] at h;exact ZW i t y u _ _ _ _ h
  .rcases Ea hv with ⟨j,u,rfl,rfl⟩ | ⟨y,u,rfl,rfl⟩
   .rw [Aaf] at h;exact ZX x t j u _ _ _ _ h
   .rw [Aad] at h;exact wpAny_eqBool_str h
 «strs»:=λk x t v h=>by
  rcases Ea h with ⟨i,u,rfl,e⟩ | ⟨y,u,rfl,e⟩
  .exact nomatch e
  .injection e with e1 _;subst e1;cases v<;>rfl
theorem Aag (prog:TV)(w:TM)(k:Av)(v:Value):(Br prog w).is k v=DO k v:=rfl
theorem Aah (prog:TV)(w:TM)(i:Int)(t:Tok):(Br prog w).is (.inl i) (.int i t)=true:=Aab i t
theorem F1 (prog:TV)(w:TM)(x:Str)(t:Tok):(Br prog w).is (.inr x) (.str x t)=true:=NQ x t
inductive V where
 | aa | bl (b:Bool) | int (i:Int) | str (x:Str) | cm (b:Array UInt8) | fq (b:UInt64) | ref (a:Addr) | ty (n:String)
 deriving DecidableEq
def AG:V->Value->Prop
 | .aa,u=>u=Vc
 | .bl b,u=>u=Xh b
 | .int i,u=>∃ t,u=U3 i t
 | .str x,u=>∃ t,u=UQ x t
 | .cm b,u=>∃ t,u=Value.bytes b t
 | .fq b,u=>∃ t,u=YE b t
 | .ref a,u=>u=Uz a
 | .ty n,u=>u=Xi n
abbrev As:List V->List Value->Prop:=Paired AG
theorem As.length {xs:List V}{us:List Value}(r:As xs us):xs.length=us.length:=Paired.length r
theorem As.get:∀{xs:List V}{us:List Value}{i:Nat}{x:V},As xs us->xs[i]?=some x->∃ u,us[i]?=some u/\AG x u
 | _,_,_,_,.nil,e=>by simp at e
 | _,_,0,_,.cons r _,e=>by simp at e;subst e;exact ⟨_,rfl,r⟩
 | _,_,i+1,x,.cons _ t,e=>by
  obtain ⟨u,B,D⟩:=Ao (As.get (i:=i) (x:=x) t (by simpa using e));exact ⟨u,by simpa using B,D⟩
theorem As.set {x:V}{u:Value}(r:AG x u):∀{xs:List V}{us:List Value}(i:Nat),As xs us->As (xs.set i x) (us.set i u)
 | _,_,_,.nil=>.nil
 | _,_,0,.cons _ t=>.cons r t
 | _,_,i+1,.cons q t=>.cons q (As.set r i t)
theorem As.append:∀{xs ys:List V}{us ws:List Value},As xs us->As ys ws->As (xs++ys) (us++ws)
 | _,_,_,_,.nil,s=>s
 | _,_,_,_,.cons r t,s=>.cons r (As.append t s)
theorem As.take:∀{xs:List V}{us:List Value}(n:Nat),As xs us->As (xs.take n) (us.take n)
 | _,_,0,_=>.nil
 | _,_,_+1,.nil=>.nil
 | _,_,n+1,.cons r t=>.cons r (As.take n t)
theorem As.drop:∀{xs:List V}{us:List Value}(n:Nat),As xs us->As (xs.drop n) (us.drop n)
 | _,_,0,r=>r
 | _,_,_+1,.nil=>.nil
 | _,_,n+1,.cons _ t=>As.drop n t
def CP:Option V->Option Value->Prop
 | some v,some u=>AG v u
 | none,none=>True
 | _,_=>False
def KV {κ:Type}:List (κ×V)->List (κ×Value)->Prop:=Paired λ(p:κ×V) (q:κ×Value)=>p.1=q.1/\AG p.2 q.2
noncomputable def kV:Av->V
 | .inl i=>.int i
 | .inr x=>.str x
inductive HO where
 | lst (xs:List V)
 | tup (xs:List V)
 | dK (kvs:List (Av×V)) | dT (kvs:List (List Av×V))
 | set (S:Int->Bool) (n:Nat)
 | ins (C dx:Addr) (fs:List (Str×V))
 | own (x:Addr)
 | xd (fs:List (Str×V))
 | met (f x:Addr)
 | cL (lo hi:Int)
 | aL (o:Obj) (u:HO)
 | dE (ps:Array Value)
 | ext (φ:Heap->Prop)
abbrev Hp:=Addr->Option HO
noncomputable def upd (H:Hp)(a:Addr)(o:HO):Hp:=λb=>if b=a then some o else H b
theorem Ai {H:Hp}{a:Addr}{o:HO}:upd H a o a=some o:=by unfold upd;rw [if_pos rfl]
theorem Ap {H:Hp}{a b:Addr}{o:HO}(h:b≠a):upd H a o b=H b:=by unfold upd;rw [if_neg h]
theorem Eb {H:Hp}{a:Addr}{o u:HO}:upd (upd H a o) a u=upd H a u:=by funext b;unfold upd;split<;>rfl
theorem Iu {H:Hp}{a b:Addr}{o u:HO}(h:H a=some o)(h':H b=some u)(d:o≠u):a≠b:=by intro e;subst e;rw [h] at h';exact d (Uk h')
theorem Cb {H:Hp}{a b:Addr}{o:HO}(h:H a=some o)(h':H b=none):a≠b:=by intro e;subst e;rw [h] at h';cases h'
section
variable (P:TV)(w:TM)
def Bg (H:Hp)(h:Heap)(a:Addr):HO->Prop
 | .lst xs=>xs.length<=sizeLine/\∃(its:List Value)(n:Nat),As xs its/\h.get? a=some { cls:=.type "list",data:=.seq its.toArray n }
 | .tup xs=>xs.length<=sizeLine/\∃ its:List Value,As xs its/\IsTup h a its.toArray
 | .dK kvs=>kvs.length<=sizeLine/\(a == Vh)=false/\∃ vs,KV kvs vs/\h.DictOf (Br P w) a vs
 | .dT kvs=>kvs.length<=sizeLine/\(a == Vh)=false/\∃ xs:List (List Av×Addr×Value),
   Paired (λ(p:List Av×V) (q:List Av×Addr×Value)=>p.1=q.1/\H q.2.1=some (.tup (p.1.map kV))/\AG p.2 q.2.2) kvs xs /\
   ∃ o es ep,h.get? a=some o/\o.ExactDict/\o.data=.dict es ep/\es.toList=xs.map (entryOfKey (Xj (Br P w)))/\(xs.map (·.1)).Nodup
 | .set S n=>h.SetOf (intKind P w) a S n
 | .ins C dx fs=>H dx=some (.own a)/\fs.length<=1000/\dx≠a/\h.get? a=some (Wa C dx) /\
   ∃ mA,h.Ns1 dx mA/\(∀ f,CP (fs.lookup f) (mA f))/\YF mA (fs.map (·.1))
 | .own _=>∃ o,h.get? a=some o
 | .xd fs=>∃ mA,h.Ns1 a mA/\∀ f,CP (fs.lookup f) (mA f)
 | .cL lo hi=>∃ t u v,h.get? a=some { cls:=.type "range",data:=.fields #[.int lo t,.int hi u,.int 1 v] }
 | .aL o u=>h.get? a=some o/\Bg H h a u
 | .dE ps=>h.get? a=some { cls:=.none,data:=.fields ps }
 | .met f x=>h.get? a=some (YG (.ref f) (.ref x))
 | .ext φ=>φ h/\(∃ o,h.get? a=some o)/\∀ h1 h2:Heap,φ h1->(∀ o,h1.get? a=some o->h2.get? a=some o)->φ h2
def AM (H:Hp)(h:Heap):Prop:=∀ a o,H a=some o->Bg P w H h a o
end
section
variable {P:TV}{w:TM}{H H':Hp}{h h':Heap}{a:Addr}{o:HO}
theorem Bg.lt (x:Bg P w H h a o):a<h.objs.size:=by
 cases o with
 | lst D=>obtain ⟨_,_,_,_,e⟩:=x;exact Uc e
 | tup D=>obtain ⟨_,_,_,p⟩:=x;exact p.lt
 | dK B=>obtain ⟨_,_,_,_,o,_,_,e,_⟩:=AW x;exact Uc e
 | dT B=>obtain ⟨_,_,_,_,o,_,_,e,_⟩:=AW x;exact Uc e
 | set S n=>obtain ⟨o,_,_,_,e,_⟩:=Dp x;exact Uc e
 | ins C dx fs=>obtain ⟨_,_,_,e,_⟩:=AW x;exact Uc e
 | own y=>obtain ⟨_,e⟩:=x;exact Uc e
 | xd fs=>obtain ⟨_,⟨_,_,_,e,_⟩,_⟩:=Ao x;exact Uc e
 | cL lo I=>obtain ⟨_,_,_,e⟩:=x;exact Uc e
 | aL J u=>obtain ⟨e,_⟩:=x;exact Uc e
 | dE L=>exact Uc (show h.get? a=some _ from x)
 | met f y=>exact Uc (show h.get? a=some _ from x)
 | ext φ=>obtain ⟨_,⟨_,e⟩,_⟩:=AW x;exact Uc e
theorem Paired.kf {α β:Type}{F G:α->β->Prop}:∀{B:List α}{D:List β},Paired F B D->(∀ a b,F a b->G a b)->Paired G B D
 | _,_,.nil,_=>.nil
 | _,_,.cons r t,f=>.cons (f _ _ r) (Paired.kf t f)
theorem Bg.de (x:Bg P w H h a o)(k:∀ b u,(b=a\/H b=some (.own a))->h.get? b=some u->h'.get? b=some u)(V:∀ b,H b=some (.own a)->H' b=some (.own a))(Y:∀ b xs,H b=some (.tup xs)->H' b=some (.tup xs)):Bg P w H' h' a o:=by
 induction o with
 | lst xs=>obtain ⟨z,its,n,r,e⟩:=x;exact ⟨z,its,n,r,k _ _ (.inl rfl) e⟩
 | tup xs=>obtain ⟨z,its,r,B,e,c⟩:=x;exact ⟨z,its,r,B,k _ _ (.inl rfl) e,c⟩
 | dK I=>obtain ⟨z,y,vs,r,B,es,D,e,c⟩:=AW x;exact ⟨z,y,vs,r,B,es,D,k _ _ (.inl rfl) e,c⟩
 | dT I =>
  obtain ⟨z,y,xs,r,B,es,D,e,c⟩:=AW x;exact ⟨z,y,xs,Paired.kf r λp q z=>⟨z.1,Y _ _ z.2.1,z.2.2⟩,B,es,D,k _ _ (.inl rfl) e,c⟩
 | set S n=>obtain ⟨B,es,D,t,e,c⟩:=Dp x;exact ⟨B,es,D,t,k _ _ (.inl rfl) e,c⟩
 | ins C dx fs =>
  obtain ⟨d,z,ne,e,J,⟨L,es,D,e2,c⟩,r⟩:=AW x;exact ⟨V _ d,z,ne,k _ _ (.inl rfl) e,J,⟨L,es,D,k _ _ (.inr d) e2,c⟩,r⟩
 | own y=>obtain ⟨B,e⟩:=x;exact ⟨B,k _ _ (.inl rfl) e⟩
 | xd fs=>obtain ⟨J,⟨L,es,D,e,c⟩,r⟩:=Ao x;exact ⟨J,⟨L,es,D,k _ _ (.inl rfl) e,c⟩,r⟩
 | cL lo hi=>obtain ⟨t,u,v,e⟩:=x;exact ⟨t,u,v,k _ _ (.inl rfl) e⟩
 | aL B u ih=>obtain ⟨e,q⟩:=x;exact ⟨k _ _ (.inl rfl) e,ih q⟩
 | dE O =>
  have e:h.get? a=some { cls:=.none,data:=.fields O }:=x;show h'.get? a=some { cls:=.none,data:=.fields O };exact k a _ (.inl rfl) e
 | met f y =>
  have e:h.get? a=some (YG (.ref f) (.ref y)):=x;show h'.get? a=some (YG (.ref f) (.ref y));exact k a _ (.inl rfl) e
 | ext φ=>obtain ⟨p,⟨o,e⟩,st⟩:=AW x;exact ⟨st _ _ p λo q=>k _ _ (.inl rfl) q,⟨o,k _ _ (.inl rfl) e⟩,st⟩
theorem AM.lt (x:AM P w H h)(e:H a=some o):a<h.objs.size:=(x a o e).lt
theorem AM.fresh (x:AM P w H h)(e:h.objs.size<=a):H a=none:=by
 cases q:H a with
 | none=>rfl
 | some u=>exact absurd (Ux (x.lt q) e) (Vi _)
theorem AM.kept (x:AM P w H h)(k:∀ b u,h.get? b=some u->h'.get? b=some u):AM P w H h':=λa o e =>
 (x a o e).de (λb u _ q=>k b u q) (λ_ q=>q) λ_ _ q=>q
theorem AM.laid (x:AM P w H h)(k:∀ b u,h.get? b=some u->h'.get? b=some u)(D:h.objs.size<=a)(new:Bg P w (upd H a o) h' a o):AM P w (upd H a o) h':=λb u e=>by
 have B:=x.fresh D;by_cases hb:b=a
 .subst hb;rw [Ai] at e;cases e;exact new
 .rw [Ap hb] at e;exact (x b u e).de (λc v _ q=>k c v q) (λc q=>by rw [Ap (Cb q B)];exact q) λc I q=>by rw [Ap (Cb q B)];exact q
end
def Rd (H:Hp)(a:Addr)(u:HO):Prop:=H a=some u\/∃ o,H a=some (.aL o u)
theorem Rd.ok {P:TV}{w:TM}{H:Hp}{h:Heap}{a:Addr}{u:HO}(r:Rd H a u)(x:AM P w H h):Bg P w H h a u:=by
 rcases r with r | ⟨o,r⟩
 .exact x a u r
 .obtain ⟨_,q⟩:=x a _ r;exact q
def GJ:Option HO->Prop
 | some (.lst _)=>True
 | some (.dK _)=>True
 | some (.dT _)=>True
 | some (.set _ _)=>True
 | some (.ins _ _ _)=>True
 | some (.ext _)=>True
 | _=>False
section
variable {P:TV}{w:TM}{H:Hp}{h h':Heap}{x e:Addr}{o':HO}
theorem AM.write (ok:AM P w H h)(B:GJ (H x))(L:e=x\/H e=some (.own x))(k:∀ b u,b≠e->h.get? b=some u->h'.get? b=some u)(Y:∃ u,h'.get? e=some u)(new:Bg P w (upd H x o') h' x o'):AM P w (upd H x o') h':=λb u q=>by
 have O:∀ c y,H c=some (.own y)->c≠x:=λc y r z=>by subst z;rw [r] at B;exact B
 have J:∀ c D,H c=some (.tup D)->c≠x:=λc D r z=>by subst z;rw [r] at B;exact B
 by_cases hb:b=x
 .subst hb;rw [Ai] at q;cases q;exact new
 .rw [Ap hb] at q;by_cases I:b=e
  .have V:H b=some (.own x):=by
    rcases L with z | z
    .exact absurd (I.trans z) hb
    .rw [I];exact z
   rw [q] at V;cases V;obtain ⟨v,hv⟩:=Y;exact ⟨v,by rw [I];exact hv⟩
  .refine (ok b u q).de (λc v hc r=>k c v ?_ r) (λc r=>by rw [Ap (O c b r)];exact r) λc D r=>by rw [Ap (J c D r)];exact r
   rcases hc with rfl | hc
   .exact I
   .rintro rfl;rcases L with z | z
    .exact O c b hc z
    .rw [hc] at z;cases z;exact hb rfl
end
structure Un (fs ex:List Addr)(H H':Hp)(h h':Heap):Prop where
 keep:∀ b o,h.get? b=some o->H b=none->b ∉ fs->b ∉ ex->h'.get? b=some o
 slot:∀ b o,h.get? b=some o->H b=none->b∈fs->b ∉ ex->∃ sl,h'.get? b=some { o with slots:=sl }
 free:∀ b o,h.get? b=some o->H b=none->b ∉ ex->H' b=none
 there:∀ b o,h.get? b=some o->b ∉ ex->∃ o',h'.get? b=some o'
 av:∀ b xs,H b=some (.tup xs)->H' b=some (.tup xs)
 cC:∀ b o u,H b=some (.aL o u)->H' b=some (.aL o u)
 cR:∀ b ps,H b=some (.dE ps)->∃ more,H' b=some (.dE (ps++more))
section
variable {fs eF ex oo:List Addr}{H H1 H2:Hp}{h h1 h2 h':Heap}{a x e:Addr}{o:HO}
theorem Un.any (u:Un fs ex H H1 h h1){b:Addr}{B:Obj}(q:h.get? b=some B)(n:H b=none)(hx:b ∉ ex):∃ D,h1.get? b=some { B with slots:=D }:=by
 by_cases hb:b∈fs
 .exact u.slot b B q n hb hx
 .exact ⟨B.slots,u.keep b B q n hb hx⟩
theorem Un.kept (k:∀ b u,h.get? b=some u->h'.get? b=some u):Un fs ex H H h h' :=
 ⟨λb B q _ _ _=>k b B q,λb B q _ _ _=>⟨B.slots,k b B q⟩,λ_ _ _ n _=>n,λb B q _=>⟨B,k b B q⟩,λ_ _ q=>q,λ_ _ _ q=>q,λ_ D q=>⟨#[],by rw [q];simp⟩⟩
theorem Un.refl:Un fs ex H H h h:=Un.kept λ_ _ q=>q
theorem Un.laid (k:∀ b u,h.get? b=some u->h'.get? b=some u)(D:h.objs.size<=a)(B:H a=none):Un fs ex H (upd H a o) h h' where
 keep:=λb u q _ _ _=>k b u q
 slot:=λb u q _ _ _=>⟨u.slots,k b u q⟩
 free:=λb u q n _=>by rw [Ap (Uq (Ux (Uc q) D))];exact n
 there:=λb u q _=>⟨u,k b u q⟩
 av:=λb I q=>by rw [Ap (Cb q B)];exact q
 cC:=λb u I q=>by rw [Ap (Cb q B)];exact q
 cR:=λb J q=>⟨#[],by rw [Ap (Cb q B),q];simp⟩
theorem Un.write (B:GJ (H x))(J:e=x\/H e=some (.own x))(k:∀ b u,b≠e->h.get? b=some u->h'.get? b=some u)(L:∃ u,h'.get? e=some u):Un fs ex H (upd H x o) h h':=by
 have hx:∀ b,H b=none->b≠x:=λb n z=>by subst z;rw [n] at B;exact B
 have hb:∀ b,H b=none->b≠e:=λb n z=>by
  subst z;rcases J with r | r
  .exact hx b n r
  .rw [n] at r;cases r
 have D:∀ b u,H b=some u->¬ GJ (some u)->b≠x:=λb u q O z=>by subst z;rw [q] at B;exact O B
 refine ⟨λb u q n _ _=>k b u (hb b n) q,λb u q n _ _=>⟨u.slots,k b u (hb b n) q⟩,λb u q n _=>by rw [Ap (hx b n)];exact n,λb u q _=>?_,
  λb V q=>by rw [Ap (D b _ q λz=>z)];exact q,λb u V q=>by rw [Ap (D b _ q λz=>z)];exact q,λb Y q=>⟨#[],by rw [Ap (D b _ q λz=>z),q];simp⟩⟩
 by_cases I:b=e
 .subst I;exact L
 .exact ⟨u,k b u I q⟩
end
noncomputable def Iv (h:Heap)(H:Hp):List Addr:=(UY h.objs.size).filter λa=>(H a).isSome
def Ec (h:Heap)(H:Hp):Heap:=XN h (Iv h H)
theorem Aai (h:Heap)(H:Hp):(Ec h H).objs.size=h.objs.size:=PySem.W.hideAll_size _ _
theorem Aaj {h:Heap}{H:Hp}{b:Addr}{o:Obj}(e:h.get? b=some o)(n:H b=none):(Ec h H).get? b=some o :=
 Xk _ e λB=>by
  have q:(H b).isSome=true:=(W0.mp B).2;rw [n] at q;simp at q
theorem Aak {h:Heap}{H:Hp}{b:Addr}{o:Obj}(e:(Ec h H).get? b=some o):h.get? b=some o/\H b=none:=by
 have B:h.get? b=some o:=ZY (Iv h H) e;refine ⟨B,?_⟩;cases q:H b with
 | none=>rfl
 | some x =>
  have D:b∈Iv h H:=W0.mpr ⟨UZ.mpr (Uc B),by simp [q]⟩;have z:(Ec h H).get? b=none:=PySem.W.hideAll_none (Iv h H) D;rw [z] at e;cases e
structure Mod (K:TH)(mg:Str->Option Value)(base:Heap):Prop where
 eI:K.In base
 glob:base.Ns Ui mg
 blt:∃ mb,base.Ns YH mb/\∀ x:Str,x≠"__name__"->mb x=U0 x
 nolimit:base.NoLimit
structure Cx where
 prog:TV
 w:TM
 K:TH
 mg:Str->Option Value
 base:Heap
 A:Ub
 N:List Str
 s₀:TF
 H₀:Hp
 env:Env
 outer:List Env
 stack:List Env
 ex:List Addr
 fn:Str->Bool
 calm:Bool
 pn:List (Addr×Obj)
 xe:Value->TF->Prop
noncomputable def Cu (l:List Env):List Addr:=l.filterMap (·.frame)
abbrev Cx.fs (X:Cx):List Addr:=Cu X.outer
def GK (sc:Scope)(x:Str):Prop:=sc.names.lookup x=some .local\/sc.names.lookup x=some .cell\/sc.names.lookup x=some .free
def GN (sc:Scope)(x:Str):Prop:=sc.names.lookup x=some .local\/sc.names.lookup x=some .cell
def Aal (env:Env)(h:Heap)(m:Str->Option Value)(x:Str)(u:Value):Prop :=
 (env.kindOf x=some .local/\m x=some u)\/((env.kindOf x=some .cell\/env.kindOf x=some .free)/\∃ c,env.cells.lookup x=some c/\h.IsCell c (some u))
structure Cx.Ok (X:Cx):Prop where
 mod:Mod X.K X.mg X.base
 kind:X.env.scope.kind=.function
 glob:X.env.globals=Ui
 blt:X.env.builtins=YH
 above:X.s₀.heap.objs.size<=X.env.locals
 inj:∀ x y c,X.env.cells.lookup x=some c->X.env.cells.lookup y=some c->x=y
 has:∀ x,(X.env.kindOf x=some .cell\/X.env.kindOf x=some .free)->∃ c,X.env.cells.lookup x=some c
 gb:∀ x c,X.fn x=true->X.env.cells.lookup x=some c->X.s₀.heap.objs.size<=c
 hd:X.calm=true->X.A.handled=none
 frames:X.A.frames=some X.stack
 gZ:X.stack=X.outer\/(X.stack=X.env :: X.outer/\X.env.frame=some X.env.locals)
 gh:∀ b∈X.ex,b≠X.env.locals/\∀ x c,X.env.cells.lookup x=some c->c≠b
 bs:∀ b o,X.base.get? b=some o->X.s₀.heap.get? b=some o/\X.H₀ b=none
 dG:X.base.objs.size<=X.s₀.heap.objs.size
 gi:∀ b o,X.base.get? b=some o->b ∉ X.ex
 eJ:∀ b∈X.ex,b ∉ X.fs
 cq:X.s₀.heap.FunFrames X.base X.outer
 eK:∀ b∈X.fs,X.H₀ b=none
structure Ae (X:Cx)(pins:List (Addr×Obj))(σ:List (Option V))(H:Hp)(s:TF):Prop where
 ok:X.Ok
 os:s.os=X.s₀.os
 bare:VL s.gens
 base:Un X.fs X.ex X.H₀ H X.s₀.heap s.heap
 loc:∃ m,s.heap.Ns X.env.locals m/\∀(i:Nat)(x:Str)(v:V),X.N[i]?=some x->σ[i]?=some (some v)->GK X.env.scope x->∃ u,AG v u/\Aal X.env s.heap m x u
 cell:∀ x c,X.env.cells.lookup x=some c->∃ v,s.heap.IsCell c v
 free:H X.env.locals=none
 cu:∀ x c,X.env.cells.lookup x=some c->H c=none
 pin:∀ p∈X.pn++pins,s.heap.get? p.1=some p.2/\H p.1=none/\p.1≠X.env.locals/\p.1 ∉ X.fs/\∀ v,p.2.data≠.cell v
 af:AM X.prog X.w H s.heap
 len:σ.length=X.N.length
section
variable {X:Cx}{pins:List (Addr×Obj)}{σ:List (Option V)}{H H':Hp}{s:TF}{h':Heap}
theorem Cx.Ok.aab (ok:X.Ok){b:Addr}{o:Obj}(e:X.base.get? b=some o):b ∉ X.fs:=λhb=>by
 have:=(ok.cq.mem hb).1;rw [e] at this;cases this
theorem Ae.bs (I:Ae X pins σ H s):∀ b o,X.base.get? b=some o->s.heap.get? b=some o/\H b=none:=λb o e =>
 ⟨I.base.keep b o (I.ok.bs b o e).1 (I.ok.bs b o e).2 (I.ok.aab e) (I.ok.gi b o e),I.base.free b o (I.ok.bs b o e).1 (I.ok.bs b o e).2 (I.ok.gi b o e)⟩
theorem Ae.bk (I:Ae X pins σ H s):∀ b o,X.base.get? b=some o->s.heap.get? b=some o:=λb o e=>(I.bs b o e).1
theorem Ae.mod (I:Ae X pins σ H s):Mod X.K X.mg X.base:=I.ok.mod
theorem Ae.aN (I:Ae X pins σ H s):X.K.In s.heap:=I.ok.mod.eI.keeps I.bk
theorem Ae.lt (I:Ae X pins σ H s):X.env.locals<s.heap.objs.size:=let ⟨_,B,_⟩:=I.loc;B.lt
theorem Ae.sz (I:Ae X pins σ H s):X.s₀.heap.objs.size<=s.heap.objs.size:=UM I.ok.above (YI I.lt)
theorem Ae.aac (I:Ae X pins σ H s){a:Addr}(h:s.heap.objs.size<=a):a ∉ X.fs:=λhb=>by
 obtain ⟨_,o,B,_⟩:=I.ok.cq.mem hb;exact absurd (Ux (Uc B) (UM I.sz h)) (Vi _)
theorem Ae.ft (I:Ae X pins σ H s):∀ x c,X.env.cells.lookup x=some c->c≠X.env.locals:=λx c e z=>by
 obtain ⟨v,o,B,hd⟩:=Bp (I.cell x c e);obtain ⟨m,⟨L,es,O,D,J,_⟩,_⟩:=Ao I.loc;rw [z,D] at B;cases B;rw [J] at hd;cases hd
theorem Ae.cq (I:Ae X pins σ H s):s.heap.FunFrames X.base X.outer:=by
 have all:∀(l:List Env),(∀ b∈Cu l,b∈X.fs)->X.s₀.heap.FunFrames X.base l->s.heap.FunFrames X.base l:=by
  intro l;induction l with
  | nil=>intro _ _;trivial
  | cons env r ih =>
   intro hs J;obtain ⟨hk,⟨L,o,B,O,Y,hd⟩,hr⟩:=AW J;have D:L∈X.fs:=hs L (by unfold Cu;rw [YJ,B];exact UC);obtain ⟨sl,e⟩:=I.base.slot L o Y (I.ok.eK L D) D λz=>I.ok.eJ L z D;exact ⟨hk,⟨L,_,B,O,e,hd⟩,ih (λb hb=>hs b (by unfold Cu;rw [YJ,B];exact Uu _ hb)) hr⟩
 exact all X.outer (λ_ hb=>hb) I.ok.cq
theorem Ae.stack (I:Ae X pins σ H s):s.heap.FunFrames X.base X.stack:=by
 rcases I.ok.gZ with e | ⟨e,B⟩
 .rw [e];exact I.cq
 .rw [e];obtain ⟨m,D,_⟩:=Ao I.loc;refine .cons (by rw [I.ok.kind];decide) B D ?_ I.cq;exact Heap.get?_none_of_le (UM I.ok.dG I.ok.above)
theorem Ae.cS (I:Ae X pins σ H s):∀ b∈Cu X.stack,b∈X.env.locals :: X.fs:=λb hb=>by
 rcases I.ok.gZ with e | ⟨e,B⟩
 .rw [e] at hb;exact Uu _ hb
 .rw [e] at hb;unfold Cu at hb;rw [YJ,B] at hb;exact hb
theorem Ae.kh (I:Ae X pins σ H s):∀ b∈Cu X.stack,H b=none:=λb hb=>by
 rcases T8.mp (I.cS b hb) with e | hb
 .rw [e];exact I.free
 .obtain ⟨_,o,B,_⟩:=I.ok.cq.mem hb;exact I.base.free b o B (I.ok.eK b hb) λz=>I.ok.eJ b z hb
theorem Ae.step {g':Array Xl}{t':Nat}{d':Drawn}{ch:List Addr}(I:Ae X pins σ H s)(L:∀ b∈ch,(b∈X.ex\/X.s₀.heap.objs.size<=b)/\b≠X.env.locals/\(∀ x c,X.env.cells.lookup x=some c->c≠b)/\∀ p∈X.pn++pins,p.1≠b)(keep:∀ b o,b≠X.env.locals->b ∉ X.fs->b ∉ ch->s.heap.get? b=some o->H b=none->h'.get? b=some o)(slot:∀ b o,b≠X.env.locals->b∈X.fs->b ∉ ch->s.heap.get? b=some o->H b=none->∃ sl,h'.get? b=some { o with slots:=sl })(free:∀ b o,b ∉ ch->s.heap.get? b=some o->H b=none->H' b=none)(there:∀ b o,b ∉ ch->s.heap.get? b=some o->∃ o',h'.get? b=some o')(av:∀ b xs,H b=some (.tup xs)->H' b=some (.tup xs))(cC:∀ b o u,H b=some (.aL o u)->H' b=some (.aL o u))(cR:∀ b ps,H b=some (.dE ps)->∃ more,H' b=some (.dE (ps++more)))(ns:∀ m,s.heap.Ns X.env.locals m->h'.Ns X.env.locals m)(af:AM X.prog X.w H' h')(hg:VL g') :
  Ae X pins σ H' { s with heap:=h',gens:=g',drawn:=d',toks:=t' }:=by
 have gj:∀ b o,X.s₀.heap.get? b=some o->b≠X.env.locals:=λb o e=>Uq (Ux (Uc e) I.ok.above);have ji:∀ b o,X.s₀.heap.get? b=some o->b ∉ X.ex->b ∉ ch:=λb o e hx hb=>by
  rcases (L b hb).1 with z | z
  .exact hx z
  .exact absurd (Ux (Uc e) z) (Vi _)
 have B:∀ x c,X.env.cells.lookup x=some c->∀ v,s.heap.IsCell c v->h'.IsCell c v:=λx c e v zz=>Ct zz λo J hd=>by
  have O:c ∉ ch:=λz=>(L c z).2.2.1 x c e rfl;by_cases hc:c∈X.fs
  .obtain ⟨sl,q⟩:=slot c o (I.ft x c e) hc O J (I.cu x c e);exact ⟨_,q,hd⟩
  .exact ⟨o,keep c o (I.ft x c e) hc O J (I.cu x c e),hd⟩
 refine ⟨I.ok,I.os,hg,⟨λb o e n hb hx=>?_,λb o e n hb hx=>?_,λb o e n hx=>?_,λb o e hx=>?_,λb xs e=>av b xs (I.base.av b xs e),λb o xs e=>cC b o xs (I.base.cC b o xs e),λb ps e=>?_⟩,?_,λx c e=>?_,?_,λx c e=>?_,λp hp=>?_,af,I.len⟩
 .exact keep b o (gj b o e) hb (ji b o e hx) (I.base.keep b o e n hb hx) (I.base.free b o e n hx)
 .obtain ⟨sl,D⟩:=I.base.slot b o e n hb hx;obtain ⟨gm,Y⟩:=slot b _ (gj b o e) hb (ji b o e hx) D (I.base.free b o e n hx);exact ⟨gm,Y⟩
 .obtain ⟨o',D⟩:=I.base.there b o e hx;exact free b o' (ji b o e hx) D (I.base.free b o e n hx)
 .obtain ⟨o',D⟩:=I.base.there b o e hx;exact there b o' (ji b o e hx) D
 .obtain ⟨m1,D⟩:=I.base.cR b ps e;obtain ⟨m2,Y⟩:=cR b _ D;exact ⟨m1++m2,by rw [Y,Array.append_assoc]⟩
 .obtain ⟨m,hn,hl⟩:=Ao I.loc;refine ⟨m,ns m hn,λi x v D Y e3=>?_⟩;obtain ⟨u,r,l⟩:=Ao (hl i x v D Y e3);refine ⟨u,r,?_⟩;rcases l with l | ⟨k,c,e,z⟩
  .exact .inl l
  .exact .inr ⟨k,c,e,B x c e _ z⟩
 .obtain ⟨v,z⟩:=I.cell x c e;exact ⟨v,B x c e v z⟩
 .obtain ⟨m,⟨o,_,_,J,_⟩,_⟩:=Ao I.loc;exact free _ o (λz=>(L _ z).2.1 rfl) J I.free
 .obtain ⟨v,o,J,hd⟩:=Bp (I.cell x c e);exact free c o (λz=>(L c z).2.2.1 x c e rfl) J (I.cu x c e)
 .obtain ⟨e,n,ne,nf,d⟩:=AW (I.pin p hp);have O:p.1 ∉ ch:=λz=>(L p.1 z).2.2.2 p hp rfl;exact ⟨keep p.1 p.2 ne nf O e n,free p.1 p.2 O e n,ne,nf,d⟩
theorem Ae.un {t':Nat}(I:Ae X pins σ H s)(u:Un X.fs [] H H' s.heap h')(L:AM X.prog X.w H' h'):Ae X pins σ H' { s with heap:=h',toks:=t' }:=by
 obtain ⟨m,⟨o,es,ep,D,r⟩,_⟩:=Ao (id I.loc);obtain ⟨sl,O⟩:=u.any D I.free (by simp);exact I.step (g':=s.gens) (d':=s.drawn) (ch:=[]) (λ_ z=>nomatch z) (λb o _ hb _ e n=>u.keep b o e n hb (by simp)) (λb o _ hb _ e n=>u.slot b o e n hb (by simp)) (λb o _ e n=>u.free b o e n (by simp)) (λb o _ e=>u.there b o e (by simp)) u.av u.cC u.cR (λm' Y=>by
  obtain ⟨o',B,ki,J,r'⟩:=Dh Y;rw [D] at J;cases J;exact ⟨_,B,ki,O,r'⟩) L I.bare
theorem Ae.call {g':Array Xl}{t':Nat}{d':Drawn}{ch:List Addr}(I:Ae X pins σ H s)(u:Un (Cu X.stack) ch H H' s.heap h')(Y:AM X.prog X.w H' h')(hg:VL g')(J:∀ b∈ch,(b∈X.ex\/X.s₀.heap.objs.size<=b)/\b≠X.env.locals/\(∀ x c,X.env.cells.lookup x=some c->c≠b)/\∀ p∈X.pn++pins,p.1≠b) :
  Ae X pins σ H' { s with heap:=h',gens:=g',drawn:=d',toks:=t' }:=by
 obtain ⟨m,⟨o,es,ep,L,r⟩,_⟩:=Ao (id I.loc);obtain ⟨sl,B⟩:=u.any L I.free λz=>(J _ z).2.1 rfl;exact I.step (ch:=ch) J (λb o B hb hc e n=>u.keep b o e n (λz=>(T8.mp (I.cS b z)).elim B hb) hc) (λb o _ _ hc e n=>u.any e n hc) (λb o hc e n=>u.free b o e n hc) (λb o hc e=>u.there b o e hc) u.av u.cC u.cR (λm' hm=>by
  obtain ⟨o',D,ki,O,r'⟩:=Dh hm;rw [L] at O;cases O;exact ⟨_,D,ki,B,r'⟩) Y hg
theorem Ae.turned {t':Nat}{it:Addr}(I:Ae X pins σ H s)(k:∀ b o,b≠it->s.heap.get? b=some o->h'.get? b=some o)(J:H it=none)(B:it≠X.env.locals)(L:it∈X.ex\/X.s₀.heap.objs.size<=it)(O:∀ x c,X.env.cells.lookup x=some c->c≠it)(Y:∀ p∈X.pn++pins,p.1≠it):Ae X pins σ H { s with heap:=h',toks:=t' }:=by
 have D:∀ b u,H b=some u->b≠it:=λb u e z=>by rw [z,J] at e;cases e
 refine I.step (g':=s.gens) (d':=s.drawn) (ch:=[it]) (λb hb=>?_) (λb o _ _ hc e _=>k b o (λz=>hc (by simp [z])) e) (λb o _ _ hc e _=>⟨o.slots,k b o (λz=>hc (by simp [z])) e⟩) (λ_ _ _ _ n=>n)
  (λb o hc e=>⟨o,k b o (λz=>hc (by simp [z])) e⟩) (λ_ _ e=>e) (λ_ _ _ e=>e) (λb ps e=>⟨#[],by rw [e];simp⟩) (λm hm=>?_) (λb u e=>?_) I.bare
 .have e:b=it:=by simpa using hb
  subst e;exact ⟨L,B,O,Y⟩
 .obtain ⟨o,es,ep,ho,r⟩:=Dh hm;exact ⟨o,es,ep,k _ o (Uj B) ho,r⟩
 .refine (I.af b u e).de (λc v hc q=>k c v ?_ q) (λ_ q=>q) λ_ _ q=>q;rcases hc with z | z
  .rw [z];exact D b u e
  .exact D c _ z
theorem Ae.tok (I:Ae X pins σ H s)(t:Nat):Ae X pins σ H { s with toks:=t }:=I.un (h':=s.heap) (t':=t) Un.refl I.af
theorem Ae.kept {t':Nat}(I:Ae X pins σ H s)(k:∀ b u,s.heap.get? b=some u->h'.get? b=some u):Ae X pins σ H { s with heap:=h',toks:=t' }:=I.un (Un.kept k) (I.af.kept k)
theorem Ae.laid {a:Addr}{o:HO}{t':Nat}(I:Ae X pins σ H s)(k:∀ b u,s.heap.get? b=some u->h'.get? b=some u)(B:s.heap.objs.size<=a)(new:Bg X.prog X.w (upd H a o) h' a o) :
  Ae X pins σ (upd H a o) { s with heap:=h',toks:=t' }:=I.un (Un.laid k B (I.af.fresh B)) (I.af.laid k B new)
theorem Ae.write {x e:Addr}{o:HO}{t':Nat}(I:Ae X pins σ H s)(B:GJ (H x))(D:e=x\/H e=some (.own x))(k:∀ b u,b≠e->s.heap.get? b=some u->h'.get? b=some u)(J:∃ u,h'.get? e=some u)(new:Bg X.prog X.w (upd H x o) h' x o):Ae X pins σ (upd H x o) { s with heap:=h',toks:=t' }:=I.un (Un.write B D k J) (I.af.write B D k J new)
theorem Ae.ou {B:List (Addr×Obj)}(I:Ae X pins σ H s)(h:∀ p∈B,s.heap.get? p.1=some p.2/\H p.1=none/\p.1≠X.env.locals/\p.1 ∉ X.fs/\∀ v,p.2.data≠.cell v):Ae X B σ H s :=
 ⟨I.ok,I.os,I.bare,I.base,I.loc,I.cell,I.free,I.cu,λp D=>(U1.mp D).elim (λz=>I.pin p (WB _ z)) (h p),I.af,I.len⟩
theorem NR {N:List Str}(B:N.Nodup){i j:Nat}{x:Str}(a:N[i]?=some x)(b:N[j]?=some x):i=j:=by obtain ⟨J,D⟩:=Uy.mp a;obtain ⟨L,I⟩:=Uy.mp b;exact (XO B).mp (D.trans I.symm)
theorem NS {M:Wb}{A:Ub}{E:Value->TF->Prop}{i:Nat}{x:Str}{v:V}{u:Value}{Q:Unit->TF->Prop}(I:Ae X pins σ H s)(hN:X.N.Nodup)(O:X.N[i]?=some x)(hx:GN X.env.scope x)(r:AG v u)(h:∀ s',Ae X pins (σ.set i (some v)) H s'->(∃ a,UN a s.heap s'.heap/\(a=X.env.locals\/X.env.cells.lookup x=some a))->Q () s')(hf:X.fn x=true\/X.env.scope.names.lookup x=some .local:=by first | exact .inl rfl | exact .inr rfl | assumption):TL M A (storeName X.env x u) Q E s:=by
 obtain ⟨m,hn,hl⟩:=Ao (id I.loc);have aad:(X.env.scope.kind == .class || (X.env.scope.kind == .module && X.env.locals != X.env.globals))=false:=by rw [I.ok.kind];rfl
 have oy:i<σ.length:=by rw [I.len];exact (Uy.mp O).1
 have ft:=I.ft;have B:∀{a:Addr}{h':Heap},(∃ o,s.heap.get? a=some o/\H a=none)->UN a s.heap h'->AM X.prog X.w H h':=λ{a h'} ha hs b ob e=>by
  obtain ⟨_,_,oz⟩:=Ao ha;refine (I.af b ob e).de (λc Y hc q=>(hs.2 c ?_).trans q) (λ_ q=>q) λ_ _ q=>q;rintro rfl;rcases hc with rfl | hc
  .rw [oz] at e;cases e
  .rw [oz] at hc;cases hc
 rcases hx with hk | hk
 .refine wpAny_storeName_local hk hn (λh' hn' hs=>?_) aad;obtain ⟨oL,_,_,hoL,_⟩:=Dh (id hn);refine h _ ⟨I.ok,I.os,I.bare,⟨λb o e n hb hx=>?_,λb o e n hb hx=>?_,I.base.free,λb o e hx=>?_,I.base.av,I.base.cC,I.base.cR⟩,⟨_,hn',λj y v' D J e3=>?_⟩,λy c e=>?_,I.free,I.cu,λp hp=>?_,B ⟨oL,hoL,I.free⟩ hs,by simpa using I.len⟩ ⟨_,hs,.inl rfl⟩
  .exact (hs.2 b (Uq (Ux (Uc e) I.ok.above))).trans (I.base.keep b o e n hb hx)
  .obtain ⟨sl,D⟩:=I.base.slot b o e n hb hx;exact ⟨sl,(hs.2 b (Uq (Ux (Uc e) I.ok.above))).trans D⟩
  .obtain ⟨o',D⟩:=I.base.there b o e hx;exact ⟨o',(hs.2 b (Uq (Ux (Uc e) I.ok.above))).trans D⟩
  .by_cases L:j=i
   .subst L;rw [O] at D;cases D;rw [VD oy] at J;cases J;exact ⟨u,r,.inl ⟨hk,by simp⟩⟩
   .rw [Ut (Uj L)] at J;obtain ⟨u',r',q⟩:=Ao (hl j y v' D J e3);refine ⟨u',r',?_⟩;rcases q with ⟨k,e⟩ | ⟨k,c,e,z⟩
    .refine .inl ⟨k,?_⟩;have:y≠x:=λe=>L (NR hN D (e▸O));simp [this,e]
    .exact .inr ⟨k,c,e,z.sameBut hs (ft y c e)⟩
  .obtain ⟨Y,z⟩:=I.cell y c e;exact ⟨Y,z.sameBut hs (ft y c e)⟩
  .obtain ⟨e,n,ne,nf,d⟩:=AW (I.pin p hp);exact ⟨(hs.2 p.1 ne).trans e,n,ne,nf,d⟩
 .have kj:X.fn x=true:=by
   rcases hf with z | z
   .exact z
   .rw [z] at hk;cases hk
  obtain ⟨c,hc⟩:=I.ok.has x (.inl hk);obtain ⟨Y,z⟩:=I.cell x c hc;refine wpAny_storeName_cell I.ok.kind hk hc z (λh' oA hs=>?_);obtain ⟨oc,oB,aae⟩:=Ao (id z);refine h { s with heap:=h' } ⟨I.ok,I.os,I.bare,⟨λb o e n hb hx=>?_,λb o e n hb hx=>?_,I.base.free,λb o e hx=>?_,I.base.av,I.base.cC,I.base.cR⟩,⟨m,hn.sameBut hs (Uj (ft x c hc)),λj y v' D J e3=>?_⟩,λy c' e=>?_,I.free,I.cu,λp hp=>?_,B ⟨oc,oB,I.cu x c hc⟩ hs,by simpa using I.len⟩ ⟨c,hs,.inr hc⟩
  .exact (hs.2 b (Uq (Ux (Uc e) (I.ok.gb x c kj hc)))).trans (I.base.keep b o e n hb hx)
  .obtain ⟨sl,D⟩:=I.base.slot b o e n hb hx;exact ⟨sl,(hs.2 b (Uq (Ux (Uc e) (I.ok.gb x c kj hc)))).trans D⟩
  .obtain ⟨o',D⟩:=I.base.there b o e hx;exact ⟨o',(hs.2 b (Uq (Ux (Uc e) (I.ok.gb x c kj hc)))).trans D⟩
  .by_cases L:j=i
   .subst L;rw [O] at D;cases D;rw [VD oy] at J;cases J;exact ⟨u,r,.inr ⟨.inl hk,c,hc,oA⟩⟩
   .rw [Ut (Uj L)] at J;obtain ⟨u',r',q⟩:=Ao (hl j y v' D J e3);refine ⟨u',r',?_⟩;rcases q with q | ⟨k,c',e,z'⟩
    .exact .inl q
    .refine .inr ⟨k,c',e,z'.sameBut hs ?_⟩;rintro rfl;exact L (NR hN D (I.ok.inj _ _ _ e hc▸O))
  .by_cases oC:c'=c
   .subst oC;exact ⟨_,oA⟩
   .obtain ⟨w2,z2⟩:=I.cell y c' e;exact ⟨w2,z2.sameBut hs oC⟩
  .obtain ⟨e,n,ne,nf,d⟩:=AW (I.pin p hp);refine ⟨(hs.2 p.1 ?_).trans e,n,ne,nf,d⟩;intro q;rw [q,oB] at e;have q':oc=p.2:=Uk e;exact d Y (by rw [<- q'];exact aae)
theorem NT {M:Wb}{A:Ub}{E:Value->TF->Prop}{i:Nat}{x:Str}{v:V}{u:Value}{Q:Unit->TF->Prop}(I:Ae X pins σ H s)(D:X.N.Nodup)(J:X.N[i]?=some x)(hx:GN X.env.scope x)(r:AG v u)(h:∀ B,Ae X pins (σ.set i (some v)) H B->Q () B)(L:X.fn x=true\/X.env.scope.names.lookup x=some .local:=by first | exact .inl rfl | exact .inr rfl | assumption):TL M A (storeName X.env x u) Q E s :=
 NS I D J hx r (λB O _=>h B O) L
theorem Ae.oE {B:TF}{ch:List Addr}(I:Ae X pins σ H s)(O:B.os=s.os)(u:Un (Cu X.stack) ch H H' s.heap B.heap)(Y:AM X.prog X.w H' B.heap)(hg:VL B.gens)(bN:∀ b∈ch,(b∈X.ex\/X.s₀.heap.objs.size<=b)/\b≠X.env.locals/\(∀ x c,X.env.cells.lookup x=some c->c≠b)/\∀ p∈X.pn++pins,p.1≠b):Ae X pins σ H' B:=by obtain ⟨h',D,J,L,o'⟩:=B;have e:o'=s.os:=O;subst e;exact I.call (g':=D) (t':=L) (d':=J) u Y hg bN
end
abbrev XK:=Value->Option Addr->Hp->Prop
abbrev St:=List (Option V)
abbrev VK:=V->Hp->Prop
abbrev TE:=St->Hp->VK->Prop
abbrev TT:=St->Hp->(Bool->Hp->Prop)->Prop
abbrev TA:=St->Hp->(List V->Hp->Prop)->Prop
structure Di where
 nx:St->Hp->Prop
 rt:VK
 bk:St->Hp->Prop:=λ_ _=>False
 ct:St->Hp->Prop:=λ_ _=>False
abbrev TS:=Di->St->Hp->Prop
def EP (X:Cx)(pins:List (Addr×Obj))(σ:St)(Q:VK)(u:Value)(s':TF):Prop:=∃ v H',Ae X pins σ H' s'/\AG v u/\Q v H'
def TP (X:Cx)(pins:List (Addr×Obj))(σ:St)(Q:Bool->Hp->Prop)(b:Bool)(s':TF):Prop:=∃ H',Ae X pins σ H' s'/\Q b H'
def AP (X:Cx)(pins:List (Addr×Obj))(σ:St)(Q:List V->Hp->Prop)(us:List Value)(s':TF):Prop:=∃ vs H',Ae X pins σ H' s'/\As vs us/\Q vs H'
def SP (X:Cx)(pins:List (Addr×Obj))(D:Di)(f:Flow)(s':TF):Prop :=
 match f with
 | .next=>∃ σ' H',Ae X pins σ' H' s'/\D.nx σ' H'
 | .brk=>∃ σ' H',Ae X pins σ' H' s'/\D.bk σ' H'
 | .cont=>∃ σ' H',Ae X pins σ' H' s'/\D.ct σ' H'
 | .ret u=>∃ v σ' H',Ae X pins σ' H' s'/\AG v u/\D.rt v H'
def PE (X:Cx)(e:TN)(t:TE):Prop :=
 ∀(pins:List (Addr×Obj))(s:TF)(σ:St)(H:Hp)(Q:VK),Ae X pins σ H s->t σ H Q->TL (TQ X.prog X.w) X.A (TZ e X.env) (EP X pins σ Q) X.xe s
def PT (X:Cx)(e:TN)(t:TT):Prop :=
 ∀(pins:List (Addr×Obj))(s:TF)(σ:St)(H:Hp)(Q:Bool->Hp->Prop),Ae X pins σ H s->t σ H Q->TL (TQ X.prog X.w) X.A (Xm e X.env (TZ e X.env)) (TP X pins σ Q) X.xe s
def PW (X:Cx)(e:TN)(t:TT):Prop :=
 ∀(whole:Sem Value)(pins:List (Addr×Obj))(s:TF)(σ:St)(H:Hp)(Q:Bool->Hp->Prop),Ae X pins σ H s->t σ H Q->TL (TQ X.prog X.w) X.A (Xm e X.env whole) (TP X pins σ Q) X.xe s
theorem PW.pt {X:Cx}{e:TN}{t:TT}(h:PW X e t):PT X e t:=h _
def PA (X:Cx)(es:List TN)(t:TA):Prop :=
 ∀(pos:Pos)(pins:List (Addr×Obj))(s:TF)(σ:St)(H:Hp)(Q:List V->Hp->Prop),Ae X pins σ H s->t σ H Q->TL (TQ X.prog X.w) X.A (spliced (UA pos (T2 es X.env))) (AP X pins σ Q) X.xe s
def PS (X:Cx)(st:Stmt)(t:TS):Prop :=
 ∀(pins:List (Addr×Obj))(s:TF)(σ:St)(H:Hp)(D:Di),Ae X pins σ H s->t D σ H->TL (TQ X.prog X.w) X.A (exec st X.env) (SP X pins D) X.xe s
def CQ (X:Cx)(st:List Stmt)(t:TS):Prop :=
 ∀(pins:List (Addr×Obj))(s:TF)(σ:St)(H:Hp)(D:Di),Ae X pins σ H s->t D σ H->TL (TQ X.prog X.w) X.A (execs st X.env) (SP X pins D) X.xe s
theorem Am {α:Type}{t:Sem α}{Q B:α->TF->Prop}{M:Wb}{A:Ub}{E:Value->TF->Prop}{s:TF}(h:TL M A t Q E s)(D:∀ a s,Q a s->B a s):TL M A t B E s:=Vx h D λ_ _ x=>x
section
variable {X:Cx}
def Iw (i:Nat):TE:=λσ H Q=>∃ v,σ[i]?=some (some v)/\Q v H
def tC (v:V):TE:=λ_ H Q=>Q v H
theorem KC {i:Nat}{x:Str}{pos:Pos}(J:X.N[i]?=some x)(hv:GK X.env.scope x)(hd:(x == ("__debug__":Str))=false:=by decide)(L:(x == ("__classdict__":Str))=false:=by decide):PE X (.Name x pos) (Iw i):=by
 intro pins s σ H Q I h;replace h:=Ao h;obtain ⟨v,e,h⟩:=h
 obtain ⟨m,O,V⟩:=Ao I.loc;obtain ⟨u,r,l⟩:=Ao (V i x v J e hv);have B:EP X pins σ Q u s:=⟨v,H,I,r,h⟩;rcases l with ⟨hk,Y⟩ | ⟨hk,c,hc,D⟩
 .exact YK (wpAny_loadName_local I.ok.kind hk O Y B) hd
 .rcases hk with hk | hk
  .exact YK (wpAny_loadName_cell I.ok.kind hk hc D B) hd
  .exact YK (wpAny_loadName_free I.ok.kind hk hc D B L) hd
theorem Aq {i j pos}:PE X (.Constant (.int i) j pos) (tC (.int i)):=λ_ _ _ H _ I h=>wpAny_Constant_int ⟨.int i,H,I.tok _,⟨_,rfl⟩,h⟩
theorem Dq {b j pos}:PE X (.Constant (.bool b) j pos) (tC (.bl b)):=λ_ _ _ H _ I h=>Constant_bool ⟨.bl b,H,I,rfl,h⟩
theorem B8 {j pos}:PE X (.Constant .none j pos) (tC .aa):=λ_ _ _ H _ I h=>Constant_none ⟨.aa,H,I,rfl,h⟩
theorem Az {x j pos}:PE X (.Constant (.str x) j pos) (tC (.str x)):=λ_ _ _ H _ I h=>Calls.Constant_str ⟨.str x,H,I.tok _,⟨_,rfl⟩,h⟩
def Gl (X:Cx)(x:Str):Prop:=X.env.kindOf x=some .globalImplicit
theorem Iy {E:Value->TF->Prop}{pins:List (Addr×Obj)}{s:TF}{σ:St}{H:Hp}{x:Str}{u:Value}{pos:Pos}{Q:Value->TF->Prop}(I:Ae X pins σ H s)(B:Gl X x)(D:X.mg x=some u)(h:Q u s)(hd:(x == ("__debug__":Str))=false:=by decide):TL (TQ X.prog X.w) X.A (TZ (.Name x pos) X.env) Q E s :=
 ZZ I.ok.kind B (Calls.loadGlobal_global (by rw [I.ok.glob];exact I.mod.glob.keeps I.bk) D h) hd
theorem Fm {E:Value->TF->Prop}{pins:List (Addr×Obj)}{s:TF}{σ:St}{H:Hp}{x:Str}{u:Value}{pos:Pos}{Q:Value->TF->Prop}(I:Ae X pins σ H s)(B:Gl X x)(D:X.mg x=none)(hv:U0 x=some u)(h:Q u s)(J:x≠"__name__":=by decide)(hd:(x == ("__debug__":Str))=false:=by decide):TL (TQ X.prog X.w) X.A (TZ (.Name x pos) X.env) Q E s:=by obtain ⟨V,L,O⟩:=Ao I.mod.blt;exact ZZ I.ok.kind B (Calls.loadGlobal_builtin (by rw [I.ok.glob];exact I.mod.glob.keeps I.bk) D (by rw [I.ok.blt];exact L.keeps I.bk) ((O x J).trans hv) h) hd
theorem Aam {x:Str}{v:V}{u:Value}{pos:Pos}(B:Gl X x)(D:X.mg x=some u)(r:AG v u)(hd:(x == ("__debug__":Str))=false:=by decide):PE X (.Name x pos) (tC v) :=
 λ_ _ _ H _ I h=>Iy I B D ⟨v,H,I,r,h⟩ hd
theorem Aan {x:Str}{v:V}{u:Value}{pos:Pos}(B:Gl X x)(D:X.mg x=none)(hv:U0 x=some u)(r:AG v u)(J:x≠"__name__":=by decide)(hd:(x == ("__debug__":Str))=false:=by decide):PE X (.Name x pos) (tC v) :=
 λ_ _ _ H _ I h=>Fm I B D hv ⟨v,H,I,r,h⟩ J hd
variable {a b:TN}{ta tb:TE}{pos:Pos}
def tB (t:TE):TT:=λσ H Q=>t σ H λx H1=>∃ c,x=.bl c/\Q c H1
theorem Dj {e:TN}{t:TE}(h:PE X e t)(J:∀ B,Xm e X.env B=(do let v <- B;Vq e.pos;Vj [v] (truthy v)):=by intro _;rfl):PT X e (tB t):=by
 intro pins s σ H Q I hw;refine isTrue_plain (Am (h pins s σ H _ I hw) λv s1 L=>AH L λx O V Y D=>?_) (J _);replace D:=Ao D;obtain ⟨d,rfl,q⟩:=D
 cases Y;exact WC ⟨O,V,q⟩
variable {tA jj:TT}{rest:List TN}
def Aao (t u:TT):TT:=λσ H Q=>t σ H λc H1=>if c=true then u σ H1 Q else Q false H1
def tOr (t u:TT):TT:=λσ H Q=>t σ H λc H1=>if c=true then Q true H1 else u σ H1 Q
def Aap (t:TT):TT:=λσ H Q=>t σ H λc H1=>Q (!c) H1
theorem NU (ha:PT X a tA):PW X (.BoolOp .And [a] pos) tA:=by
 intro B pins s σ H Q I h;refine isTrue_and (Am (ha pins s σ H Q I h) λc D e=>?_);cases c with
 | true=>exact isTrue_and_nil e
 | false=>exact e
theorem Iz (ha:PT X a tA):PW X (.BoolOp .Or [a] pos) tA:=by
 intro B pins s σ H Q I h;refine isTrue_or (Am (ha pins s σ H Q I h) λc D e=>?_);cases c with
 | false=>exact isTrue_or_nil e
 | true=>exact e
theorem NV (ha:PT X a tA)(hb:PW X (.BoolOp .And (b :: rest) pos) jj):PW X (.BoolOp .And (a :: b :: rest) pos) (Aao tA jj):=by
 intro L pins s σ H Q I h;refine isTrue_and (Am (ha pins s σ H _ I h) λc O V=>Ct V λB D J=>?_);cases c with
 | true=>exact hb L pins O σ B Q D J
 | false=>exact ⟨B,D,J⟩
theorem IA (ha:PT X a tA)(hb:PW X (.BoolOp .Or (b :: rest) pos) jj):PW X (.BoolOp .Or (a :: b :: rest) pos) (tOr tA jj):=by
 intro L pins s σ H Q I h;refine isTrue_or (Am (ha pins s σ H _ I h) λc O V=>Ct V λB D J=>?_);cases c with
 | true=>exact ⟨B,D,J⟩
 | false=>exact hb L pins O σ B Q D J
theorem Dr (ha:PT X a tA):PT X (.UnaryOp .Not a pos) (Aap tA):=by intro pins s σ H Q I h;exact isTrue_not (ha pins s σ H (λc B=>Q (!c) B) I h)
def Aaq (ta tb:TE):TE:=λσ H Q=>ta σ H λx H1=>∃ c,x=.bl c/\if c=true then tb σ H1 Q else Q (.bl false) H1
def Aar (ta:TE):TE:=λσ H Q=>ta σ H λx H1=>∃ c,x=.bl c/\Q (.bl (!c)) H1
theorem NW {op} {t:TE} (h:PE X a t):PE X (.BoolOp op [a] pos) t:=λpins s σ H Q I hw=>BoolOp_one (h pins s σ H Q I hw)
theorem Aas (ha:PE X a ta)(hb:PE X (.BoolOp .And (b :: rest) pos) tb):PE X (.BoolOp .And (a :: b :: rest) pos) (Aaq ta tb):=by
 intro pins s σ H Q I h;refine BoolOp_and (Am (ha pins s σ H _ I h) λv L O=>AH O λx D J V B=>?_);replace B:=Ao B;obtain ⟨c,rfl,B⟩:=B
 cases V;refine WC ?_;cases c with
 | true=>exact hb pins L σ D Q J B
 | false=>exact ⟨.bl false,D,J,rfl,B⟩
theorem Aat (ha:PE X a ta):PE X (.UnaryOp .Not a pos) (Aar ta):=by
 intro pins s σ H Q I h;refine UnaryOp_ (Am (ha pins s σ H _ I h) λv V D=>AH D λx J L O B=>?_);replace B:=Ao B;obtain ⟨c,rfl,B⟩:=B
 cases O;exact not_of (WC ⟨.bl (!c),J,L,rfl,B⟩)
def tIf (t:TT)(ta tb:TE):TE:=λσ H Q=>t σ H λc H1=>if c=true then ta σ H1 Q else tb σ H1 Q
theorem KD {c:TN}(hc:PT X c tA)(ha:PE X a ta)(hb:PE X b tb):PE X (.IfExp c a b pos) (tIf tA ta tb):=by
 intro pins s σ H Q I h;refine wpAny_IfExp (Am (hc pins s σ H _ I h) λd B O=>Ct O λD J L=>?_);cases d with
 | true=>exact ha pins B σ D Q J L
 | false=>exact hb pins B σ D Q J L
end
def A7 (K:TH)(H:Hp)(a:Addr)(xs:List V):Prop :=
 Rd H a (.lst xs) \/
  ∃(o:Obj)(its:Array Value)(n:Nat),K.lookup a=some o/\o.cls=.type "list"/\o.dict=none/\o.data=.seq its n/\its.size<=sizeLine/\As xs its.toList
def Bl (K:TH)(H:Hp)(a:Addr)(xs:List V):Prop :=
 Rd H a (.tup xs) \/
  ∃(o:Obj)(its:Array Value)(n:Nat),K.lookup a=some o/\o.cls=.type "tuple"/\o.data=.seq its n/\its.size<=sizeLine/\As xs its.toList
noncomputable def Aau:Value->Option V
 | .none=>some .aa
 | .bool b=>some (.bl b)
 | .int i _=>some (.int i)
 | .str x _=>some (.str x)
 | .bytes b _=>some (.cm b)
 | .float b _=>some (.fq b)
 | .ref a=>some (.ref a)
 | .type n=>some (.ty n)
 | _=>none
theorem AG.abs {x:V}{u:Value}(r:AG x u):Aau u=some x:=by
 cases x with
 | aa=>cases r;rfl
 | bl _=>cases r;rfl
 | int _=>obtain ⟨t,rfl⟩:=r;rfl
 | str _=>obtain ⟨t,rfl⟩:=r;rfl
 | cm _=>obtain ⟨t,rfl⟩:=r;rfl
 | fq _=>obtain ⟨t,rfl⟩:=r;rfl
 | ref _=>cases r;rfl
 | ty _=>cases r;rfl
theorem AG.inj {x y:V}{u:Value}(r:AG x u)(q:AG y u):x=y:=Uk (r.abs.symm.trans q.abs)
theorem As.inj:∀{xs ys:List V}{us:List Value},As xs us->As ys us->xs=ys
 | _,_,_,.nil,.nil=>rfl
 | _,_,_,.cons r t,.cons B D=>by rw [r.inj B,As.inj t D]
section
variable {X:Cx}{pins:List (Addr×Obj)}{σ:St}{H:Hp}{s:TF}{a:Addr}{xs ys:List V}
theorem A7.of {K:TH}(h:H a=some (.lst xs)):A7 K H a xs:=.inl (.inl h)
theorem Bl.of {K:TH}(h:H a=some (.tup xs)):Bl K H a xs:=.inl (.inl h)
theorem Ae.list (I:Ae X pins σ H s)(h:A7 X.K H a xs):∃ its:List Value,As xs its/\PlainL s.heap a its.toArray/\xs.length<=sizeLine:=by
 rcases h with h | ⟨o,its,n,hk,hc,hd,hs,B,r⟩
 .obtain ⟨z,its,n,r,e⟩:=h.ok I.af;exact ⟨its,r,⟨_,n,e,rfl,rfl,rfl⟩,z⟩
 .refine ⟨its.toList,r,⟨o,n,I.aN a o hk,hc,hd,by simpa using hs⟩,?_⟩;have e:=r.length;simp only [Ve] at e;omega
theorem Ae.tuple (I:Ae X pins σ H s)(h:Bl X.K H a xs):∃ its:List Value,As xs its/\IsTup s.heap a its.toArray/\xs.length<=sizeLine:=by
 rcases h with h | ⟨o,its,n,hk,hc,hs,B,r⟩
 .obtain ⟨z,its,r,p⟩:=h.ok I.af;exact ⟨its,r,p,z⟩
 .refine ⟨its.toList,r,⟨o,I.aN a o hk,hc,n,by simpa using hs⟩,?_⟩;have e:=r.length;simp only [Ve] at e;omega
theorem Ae.oG (I:Ae X pins σ H s)(h:A7 X.K H a xs)(h':A7 X.K H a ys):xs=ys:=by
 obtain ⟨its,r,⟨o,n,e,_,_,d⟩,_⟩:=AF (I.list h);obtain ⟨B,L,⟨Y,n',D,_,_,J⟩,_⟩:=AF (I.list h');rw [e] at D;cases D;rw [d] at J;injection J with O _;have:its=B:=by simpa using congrArg Array.toList O
 subst this;exact r.inj L
theorem Ae.oH (I:Ae X pins σ H s)(h:Bl X.K H a xs)(h':Bl X.K H a ys):xs=ys:=by
 obtain ⟨its,r,⟨o,e,_,n,d⟩,_⟩:=AF (I.tuple h);obtain ⟨B,L,⟨Y,D,_,n',J⟩,_⟩:=AF (I.tuple h');rw [e] at D;cases D;rw [d] at J;injection J with O _;have:its=B:=by simpa using congrArg Array.toList O
 subst this;exact r.inj L
end
noncomputable abbrev Cx.dh (X:Cx)(E:Value->TF->Prop):Cx:={ X with xe:=E }
noncomputable abbrev Cx.jk (X:Cx):Cx:=X.dh λ_ _=>False
theorem Cx.Ok.dh {X:Cx}(ok:X.Ok)(E:Value->TF->Prop):(X.dh E).Ok :=
 ⟨ok.mod,ok.kind,ok.glob,ok.blt,ok.above,ok.inj,ok.has,ok.gb,ok.hd,ok.frames,ok.gZ,ok.gh,ok.bs,ok.dG,ok.gi,ok.eJ,ok.cq,ok.eK⟩
theorem Cx.Ok.eN {X:Cx}{E:Value->TF->Prop}(ok:(X.dh E).Ok):X.Ok :=
 ⟨ok.mod,ok.kind,ok.glob,ok.blt,ok.above,ok.inj,ok.has,ok.gb,ok.hd,ok.frames,ok.gZ,ok.gh,ok.bs,ok.dG,ok.gi,ok.eJ,ok.cq,ok.eK⟩
section
variable {X:Cx}{pins:List (Addr×Obj)}{σ:St}{H:Hp}{s:TF}{E:Value->TF->Prop}
theorem Ae.dh (I:Ae X pins σ H s)(E:Value->TF->Prop):Ae (X.dh E) pins σ H s:=⟨I.ok.dh E,I.os,I.bare,I.base,I.loc,I.cell,I.free,I.cu,I.pin,I.af,I.len⟩
theorem Ae.eN (I:Ae (X.dh E) pins σ H s):Ae X pins σ H s:=⟨I.ok.eN,I.os,I.bare,I.base,I.loc,I.cell,I.free,I.cu,I.pin,I.af,I.len⟩
theorem SP.eN {D:Di}{f:Flow}{J:TF}(h:SP (X.dh E) pins D f J):SP X pins D f J:=by
 cases f with
 | next=>obtain ⟨σ',B,I,q⟩:=Bp h;exact ⟨σ',B,I.eN,q⟩
 | brk=>obtain ⟨σ',B,I,q⟩:=Bp h;exact ⟨σ',B,I.eN,q⟩
 | cont=>obtain ⟨σ',B,I,q⟩:=Bp h;exact ⟨σ',B,I.eN,q⟩
 | ret u=>obtain ⟨v,σ',B,I,r,q⟩:=Dh h;exact ⟨v,σ',B,I.eN,r,q⟩
theorem CQ.jk {st:List Stmt}{t:TS}(h:CQ X.jk st t):CQ X st t:=λpins s σ H D I hw =>
 Vx (h pins s σ H D (I.dh _) hw) (λ_ _ q=>q.eN) λ_ _ z=>Vr z
end
section
variable {X:Cx}{st:Stmt}{rest:List Stmt}{t u:TS}{e:TN}{te:TE}{pos:Pos}
def Aav:TS:=λD σ H=>D.nx σ H
def KG (t u:TS):TS:=λD σ H=>t { D with nx:=u D } σ H
theorem A5:CQ X [] Aav:=λ_ _ σ H _ I h=>XQ ⟨σ,H,I,h⟩
theorem Aj (B:PS X st t)(J:CQ X rest u):CQ X (st :: rest) (KG t u):=by
 intro pins s σ H D I h;refine Z0 (Am (B pins s σ H { D with nx:=u D } I h) λf L q=>?_);cases f with
 | next =>
  replace q:=Bp q;obtain ⟨σ',O,V,q⟩:=q
  exact J pins L σ' O D V q
 | ret v=>exact q
 | brk=>exact q
 | cont=>exact q
theorem Al (B:PS X st t):CQ X [st] t:=by
 intro pins s σ H D I h;refine Z0 (Am (B pins s σ H D I h) λf J q=>?_);cases f with
 | next=>exact XQ q
 | ret v=>exact q
 | brk=>exact q
 | cont=>exact q
theorem Ae.quiet {pins:List (Addr×Obj)}{σ:St}{H:Hp}{s:TF}(I:Ae X pins σ H s):interactive X.env=false:=by simp [interactive,I.ok.kind]
def Aaw (te:TE):TS:=λD σ H=>te σ H λ_ H1=>D.nx σ H1
theorem Bm (B:PE X e te)(hs:WD e none pos.line X.env=pure false:=by rfl):PS X (.Expr e pos) (Aaw te):=by intro pins s σ H D I h;exact wpAny_Expr_any (Am (B pins s σ H _ I h) λv Y J=>AH J λx L O r1 V=>⟨σ,L,O,V⟩) I.quiet hs
def Aax (te:TE):TS:=λD σ H=>te σ H D.rt
theorem AN (B:PE X e te):PS X (.Return (some e) pos) (Aax te):=by intro pins s σ H D I h;exact wpAny_Return_some (Am (B pins s σ H _ I h) λv s1 J=>AH J λx L O V Y=>⟨x,σ,L,O,V,Y⟩)
def Aay (c:TT)(t u:TS):TS:=λD σ H=>c σ H λb H1=>if b=true then t D σ H1 else u D σ H1
theorem AZ {c:TN}{a b:List Stmt}{B:TT}(hc:PT X c B)(ha:CQ X a t)(hb:CQ X b u):PS X (.If c a b pos) (Aay B t u):=by
 intro pins s σ H D I h;refine wpAny_If (Am (hc pins s σ H _ I h) λd J Y=>Ct Y λL O V=>?_);cases d with
 | true=>exact ha pins J σ L D O V
 | false=>exact hb pins J σ L D O V
end
abbrev TG:=V->St->Hp->(St->Hp->Prop)->Prop
abbrev Ey:=List V->St->Hp->(St->Hp->Prop)->Prop
def PG (X:Cx)(target:TN)(t:TG):Prop :=
 ∀(pins:List (Addr×Obj))(s:TF)(σ:St)(H:Hp)(v:V)(u:Value)(Q:St->Hp->Prop),Ae X pins σ H s->AG v u->t v σ H Q ->
  TL (TQ X.prog X.w) X.A (VE target X.env u) (λ_ s'=>∃ σ' H',Ae X pins σ' H' s'/\Q σ' H') X.xe s
def GO (X:Cx)(ts:List TN)(t:Ey):Prop :=
 ∀(pins:List (Addr×Obj))(s:TF)(σ:St)(H:Hp)(vs:List V)(us:List Value)(Q:St->Hp->Prop),Ae X pins σ H s->As vs us->t vs σ H Q ->
  TL (TQ X.prog X.w) X.A (assignInOrder ((Wc ts X.env).map (·.2)) us) (λ_ s'=>∃ σ' H',Ae X pins σ' H' s'/\Q σ' H') X.xe s
abbrev GP:=V->V->V->Hp->(Hp->Prop)->Prop
def KH (X:Cx)(t:GP):Prop :=
 ∀(pins:List (Addr×Obj))(s:TF)(σ:St)(H:Hp)(o i v:V)(ov iv u:Value)(Q:Hp->Prop),Ae X pins σ H s->AG o ov->AG i iv->AG v u->t o i v H Q ->
  TL (TQ X.prog X.w) X.A (XR ov iv u) (λ_ s'=>∃ H',Ae X pins σ H' s'/\Q H') X.xe s
abbrev IC:=V->V->Hp->VK->Prop
def NX (X:Cx)(op:Xn)(t:IC):Prop :=
 ∀(pins:List (Addr×Obj))(s:TF)(σ:St)(H:Hp)(x y:V)(v u:Value)(Q:VK),Ae X pins σ H s->AG x v->AG y u->t x y H Q ->
  TL (TQ X.prog X.w) X.A (inplaceOp op v u) (EP X pins σ Q) X.xe s
section
variable {X:Cx}{pos:Pos}
def Cj (i:Nat):TG:=λv σ H Q=>Q (σ.set i (some v)) H
theorem Aaz {i:Nat}{x:Str}(B:X.N.Nodup)(D:X.N[i]?=some x)(hx:GN X.env.scope x)(J:X.fn x=true\/X.env.scope.names.lookup x=some .local:=by first | exact .inl rfl | exact .inr rfl | assumption):PG X (.Name x pos) (Cj i):=by intro pins s σ H v u Q I r h;exact Z1 (NT I B D hx r (λO L=>⟨_,H,L,h⟩) J)
def AaA:Ey:=λvs σ H Q=>vs=[]/\Q σ H
def AaB (t:TG)(u:Ey):Ey:=λvs σ H Q=>∃ v r,vs=v :: r/\t v σ H λσ' H'=>u r σ' H' Q
theorem Ez:GO X [] AaA:=by intro pins s σ H vs B Q I r h;obtain ⟨e,h⟩:=h;subst e;cases r;exact assignInOrder_nil ⟨σ,H,I,h⟩
theorem CJ {e:TN}{es:List TN}{t:TG}{u:Ey}(B:PG X e t)(D:GO X es u)(hs:(Wc (e :: es) X.env).map (·.2)=VE e X.env :: (Wc es X.env).map (·.2):=by rfl):GO X (e :: es) (AaB t u):=by
 intro pins s σ H vs us Q I r h;replace h:=Bp h;obtain ⟨v,vr,J,h⟩:=h
 subst J;cases r with
 | cons r L =>
  rw [hs];refine assignInOrder_cons (Am (B pins s σ H _ _ _ I r h) λ_ O V=>GG V λσ1 Y I1 q1=>?_);exact D pins O σ1 Y _ _ Q I1 L q1
def NY (K:TH)(n:Nat)(t:Ey):TG:=λv σ H Q=>∃ a xs,v=.ref a/\Bl K H a xs/\xs.length=n/\t xs σ H Q
theorem GQ {es:List TN}{k:Nat}{t:Ey}{n:Nat}(hc:X.calm=true)(h:GO X es t)(D:(Wc es X.env).length=n:=by rfl)(J:(Wc es X.env).findIdx? (·.1)=none:=by rfl):PG X (.Tuple es k pos) (NY X.K n t):=by
 intro pins s σ H v u Q I r hw;replace hw:=Bk hw;obtain ⟨a,L,O,hq,V,hw⟩:=hw
 subst O;cases r;obtain ⟨its,B,Y,hz⟩:=AF (I.tuple hq);refine assign_Tuple_tuple (I.ok.hd hc) Y (by simp [D,<- V,B.length]) J λh' hx=>?_;have I1:Ae X pins σ H { s with heap:=h' }:=I.kept (t':=s.toks) λb o e=>hx b o (Uq (Uc e)) e;exact h pins _ σ H L _ Q I1 (by simpa using B) hw
def AaC (to ti:TE)(t:GP):TG:=λv σ H Q=>to σ H λo H1=>ti σ H1 λi H2=>t o i v H2 λH3=>Q σ H3
theorem Fn {o i:TN}{L O:TE}{t:GP}(V:PE X o L)(Y:PE X i O)(hs:KH X t)(ha:∀ v,VE (.Subscript o i pos) X.env v=(do
   let B <- Vj [v] (TZ o X.env)
   let D <- Vj [v,B] (TZ i X.env)
   Vq pos
   Vj [v,B,D] (XR B D v)
   release [v,B,D] []):=by intro _;rfl):PG X (.Subscript o i pos) (AaC L O t):=by
 intro pins s σ H v u Q I r h;rw [ha];refine TR (VF (Am (V pins s σ H _ I h) λB s1 J=>AH J λx H1 I1 r1 q1=>?_));refine TR (VF (Am (Y pins s1 σ H1 _ I1 q1) λD s2 J=>AH J λy H2 I2 r2 q2=>?_));refine TR (VY (TR (VF (Am (hs pins s2 σ H2 x y v B D u _ I2 r1 r2 r q2) λ_ s3 J=>Ct J λH3 I3 q3=>?_))));exact wpAny_release ⟨σ,H3,I3,q3⟩
def GR (te:TE)(g:TG):TS:=λD σ H=>te σ H λx H1=>g x σ H1 D.nx
theorem EA {B e:TN}{J:TE}{g:TG}(L:PE X e J)(O:PG X B g)(hs:swapsWithSole [B] e pos.line X.env=pure false:=by rfl)(hw:swappedStores [B] e X.env=pure none:=by rfl)(V:(Wc [B] X.env).map (·.2)=[VE B X.env]:=by rfl):PS X (.Assign [B] e pos) (GR J g):=by intro pins s σ H D I h;refine wpAny_Assign_stores (Am (L pins s σ H _ I h) λv Y zz=>AH zz λx H1 I1 r1 q1=>?_) hs hw;rw [V];exact Am (O pins Y σ H1 x v _ I1 r1 q1) λ_ s2 q=>q
theorem NZ {i:Nat}{x:Str}{e:TN}{J:TE}{B:Pos}(L:X.N.Nodup)(O:X.N[i]?=some x)(hx:GN X.env.scope x)(V:PE X e J)(hs:WD e (some (.Name x B)) pos.line X.env=pure false:=by rfl)(Y:X.fn x=true\/X.env.scope.names.lookup x=some .local:=by first | exact .inl rfl | exact .inr rfl | assumption) :
  PS X (.Assign [.Name x B] e pos) (GR J (Cj i)):=by
 intro pins s σ H D I h;refine wpAny_Assign_Name (Am (V pins s σ H _ I h) λv s1 zz=>AH zz λy H1 I1 r1 q1=>?_) hs;exact NT I1 L O hx r1 (λs2 I2=>⟨_,H1,I2,q1⟩) Y
def AaD (to ti te:TE)(jm:V->V->Hp->VK->Prop)(jn:IC)(jo:GP):TS:=λD σ H=>to σ H λo H1=>ti σ H1 λi H2=>jm o i H2 λx H3=>te σ H3 λy H4=>jn x y H4 λz H5=>jo o i z H5 λH6=>D.nx σ H6
def N0 (X:Cx)(t:V->V->Hp->VK->Prop):Prop :=
 ∀(pins:List (Addr×Obj))(s:TF)(σ:St)(H:Hp)(o i:V)(ov iv:Value)(Q:VK),Ae X pins σ H s->AG o ov->AG i iv->t o i H Q ->
  TL (TQ X.prog X.w) X.A (W2 ov iv) (EP X pins σ Q) X.xe s
theorem KI {o i e:TN}{Y ti te:TE}{jm:V->V->Hp->VK->Prop}{jn:IC}{jo:GP}{op:Xn}{jq:Pos}(ho:PE X o Y)(hi:PE X i ti)(hg:N0 X jm)(he:PE X e te)(hp:NX X op jn)(hs:KH X jo)(ha:∀ J L new,augStore i J L new=(do Vj [new,J,L] (XR J L new);release [new,J,L] [];pure .next):=by intros;rfl):PS X (.AugAssign (.Subscript o i jq) op e pos) (AaD Y ti te jm jn jo):=by intro pins s σ H D I h;refine wpAny_AugAssign_SubscriptAny (Am (ho pins s σ H _ I h) λJ s1 B=>AH B λx1 H1 I1 r1 q1=>?_) ha;refine Am (hi pins s1 σ H1 _ I1 q1) λL s2 B=>AH B λx2 H2 I2 r2 q2=>?_;refine Am (hg pins s2 σ H2 x1 x2 J L _ I2 r1 r2 q2) λO s3 B=>AH B λx3 H3 I3 r3 q3=>?_;refine Am (he pins s3 σ H3 _ I3 q3) λv s4 B=>AH B λx4 H4 I4 r4 q4=>?_;refine Am (hp pins s4 σ H4 x3 x4 O v _ I4 r3 r4 q4) λnew s5 B=>AH B λx5 H5 I5 r5 q5=>?_;exact Am (hs pins s5 σ H5 x1 x2 x5 J L new _ I5 r1 r2 r5 q5) λ_ s6 B=>Ct B λH6 I6 q6=>⟨σ,H6,I6,q6⟩
def ipI (f:Int->Int->Int):IC:=λx y H Q=>∃ i j,x=.int i/\y=.int j/\Q (.int (f i j)) H
theorem KJ:NX X .Add (ipI λi j=>i+j):=by intro pins s σ H x y v u Q I B D h;obtain ⟨i,j,J,L,q⟩:=Bk h;subst J;subst L;obtain ⟨t,rfl⟩:=B;obtain ⟨O,rfl⟩:=D;exact iadd_int ⟨.int _,H,I.tok _,⟨_,rfl⟩,q⟩
end
section
variable {X:Cx}{pos:Pos}
def AaE (c:TT)(tb:TS):TS:=λD σ H=>∃ W:Nat->St->Hp->Prop,(∃ m,W m σ H)/\∀ m σ H,W m σ H ->
 c σ H λb H1=>if b=true then ∃ N:St->Hp->Prop,(∀ σ' H',N σ' H'->∃ m',m'<m/\W m' σ' H')/\tb { D with nx:=N,ct:=N,bk:=D.nx } σ H1 else D.nx σ H1
theorem AaF {c:TN}{body:List Stmt}{tc:TT}{tb:TS}(hp:YL (TQ X.prog X.w) X.A X.env X.xe)(hc:PT X c tc)(hb:CQ X body tb):PS X (.While c body [] pos) (AaE tc tb):=by
 intro pins s σ H D I h;obtain ⟨W,⟨m0,w0⟩,turn⟩:=Ao h;refine wpAny_While (codeAny_whileLoop (λn s'=>∃ σ' H',Ae X pins σ' H' s'/\W n σ' H') ?_ m0 ⟨σ,H,I,w0⟩);rintro n s1 ⟨σ1,H1,I1,w1⟩;refine WE hp (Am (hc pins s1 σ1 H1 _ I1 (turn n σ1 H1 w1)) λb s2 zz=>Ct zz λH2 I2 B=>?_);cases b with
 | true =>
  replace B:=Ao B;obtain ⟨N,hN,B⟩:=B
  rw [if_pos rfl];refine WE hp (Am (hb pins s2 σ1 H2 _ I2 B) λf s3 L=>?_);cases f with
  | next =>
   obtain ⟨σ3,J,O,V⟩:=Bp L;obtain ⟨m',Y,w3⟩:=Ao (hN σ3 J V);exact ⟨m',Y,σ3,J,O,w3⟩
  | cont =>
   obtain ⟨σ3,J,O,V⟩:=Bp L;obtain ⟨m',Y,w3⟩:=Ao (hN σ3 J V);exact ⟨m',Y,σ3,J,O,w3⟩
  | brk=>exact L
  | ret v=>exact L
 | false =>
  rw [if_neg UG];exact XQ ⟨σ1,H2,I2,B⟩
end
structure It where
 go:Nat->Hp->Prop
 bU:Nat->Hp->V->Hp->Prop
 stop:Nat->Hp->Prop
def CS (X:Cx)(pins:List (Addr×Obj))(H:Hp)(b:Addr):Prop :=
 H b=none/\b≠X.env.locals/\b ∉ X.fs/\(b∈X.ex\/X.s₀.heap.objs.size<=b)/\(∀ x c,X.env.cells.lookup x=some c->c≠b)/\∀ p∈X.pn++pins,p.1≠b
theorem Ae.dI {X:Cx}{pins:List (Addr×Obj)}{σ:St}{H B:Hp}{s:TF}{b:Addr}(I:Ae X pins σ H s)(hb:s.heap.objs.size<=b)(D:B b=none):CS X pins B b:=by
 refine ⟨D,Wd (Ux I.lt hb),I.aac hb,.inr (UM I.sz hb),λx c e z=>?_,λp J z=>?_⟩
 .obtain ⟨v,q⟩:=I.cell x c e;exact absurd (Ux q.lt (by rw [z];exact hb)) (Vi _)
 .exact absurd (Ux (Uc (I.pin p J).1) (by rw [z];exact hb)) (Vi _)
structure EB (P:TV)(w:TM)(K:TH)(tg:TN)(J:It)(fp:List Addr)(it:Addr)(tn:Nat->Heap->Prop):Prop where
 mem:it∈fp
 obj:∀ i h,tn i h->∀ b∈fp,∃ o,h.get? b=some o/\∀ v,o.data≠.cell v
 keep:∀ i h h',tn i h->(∀ b∈fp,∀ o,h.get? b=some o->h'.get? b=some o)->tn i h'
 item:∀(X:Cx),X.prog=P->X.w=w->X.K=K->X.calm=true->∀(i:Nat)(pins:List (Addr×Obj))(s:TF)(σ:St)(H:Hp)(E:Value->TF->Prop),Ae X pins σ H s->(∀ b∈fp,CS X pins H b)->tn i s.heap->J.go i H ->
  TL (TQ P w) X.A (Vy (.ref it)) (λr s1=>∃ u,r=some u /\
   TL (TQ P w) X.A (WH tg (.ref it) u) (λ_ s2=>∃ x H',Ae X pins σ H' s2/\AG x u/\J.bU i H x H'/\tn (i+1) s2.heap/\∀ b∈fp,H' b=none) E s1) E s
 done:∀(X:Cx),X.prog=P->X.w=w->X.K=K->X.calm=true->∀(i:Nat)(pins:List (Addr×Obj))(s:TF)(σ:St)(H:Hp)(E:Value->TF->Prop),Ae X pins σ H s->(∀ b∈fp,CS X pins H b)->tn i s.heap->J.stop i H ->
  TL (TQ P w) X.A (Vy (.ref it)) (λr s1=>r=none/\Ae X pins σ H s1) E s
 self:∀(A:Ub)(i:Nat)(s:TF)(Q:Value->TF->Prop)(E:Value->TF->Prop),tn i s.heap->Q (.ref it) s->TL (TQ P w) A (Xo (.ref it)) Q E s
abbrev TI:=St->Hp->(It->Hp->Prop)->Prop
def N1 (X:Cx)(pins:List (Addr×Obj))(σ:St)(tg:TN)(R:It->Hp->Prop)(g5:Value)(s2:TF):Prop :=
 ∃(it:Addr)(fp:List Addr)(tn:Nat->Heap->Prop)(J:It)(H':Hp),g5=.ref it/\Ae X pins σ H' s2/\EB X.prog X.w X.K tg J fp it tn/\tn 0 s2.heap/\(∀ b∈fp,CS X pins H' b)/\R J H'
def PI (X:Cx)(tg iter:TN)(wi:TI):Prop :=
 ∀(pins:List (Addr×Obj))(s:TF)(σ:St)(H:Hp)(R:It->Hp->Prop),Ae X pins σ H s->wi σ H R ->
  TL (TQ X.prog X.w) X.A (TZ iter X.env) (λv s1=>TL (TQ X.prog X.w) X.A (Xo v) (N1 X pins σ tg R) X.xe s1) X.xe s
theorem GS {M:Wb}{A:Ub}{E:Value->TF->Prop}{s:TF}{D:TN}{it:Addr}{u:Value}{o:Obj}{n:String}{vs:Array Value}{Q:Unit->TF->Prop}(H:s.heap.get? it=some o)(hc:o.cls=.type n)(hd:o.data=.fields vs)(I:["enumerate","zip","dict_itemiterator","dict_reverseitemiterator","odict_iterator","itertools.zip_longest","itertools.pairwise"].contains n=false)(B:Q () s):TL M A (WH D (.ref it) u) Q E s:=by
 unfold WH;cases D<;>first
  | exact T6 B
  | (cases u<;>first
    | exact T6 B
    | (refine TR (wpAny_load H ?_)
       rw [hc,hd];show TL M A (if (["enumerate","zip","dict_itemiterator","dict_reverseitemiterator","odict_iterator","itertools.zip_longest","itertools.pairwise"].contains n && vs[0]? == some (WI _))=true then _ else _) Q E s;rw [if_neg (by intro h;rw [I,Z2] at h;cases h)];exact T6 B))
def DA (K:TH)(a:Addr):It :=
 ⟨λi H=>∃ xs x,A7 K H a xs/\xs[i]?=some x,λi H x H'=>H'=H/\∀ xs,A7 K H a xs->xs[i]?=some x,λi H=>∃ xs,A7 K H a xs/\xs.length<=i⟩
def GU (K:TH)(a:Addr):It :=
 ⟨λi H=>∃ xs x,Bl K H a xs/\xs[i]?=some x,λi H x H'=>H'=H/\∀ xs,Bl K H a xs->xs[i]?=some x,λi H=>∃ xs,Bl K H a xs/\xs.length<=i⟩
def DP (lo:Int)(n:Nat):It:=⟨λi _=>i<n,λi H x H'=>H'=H/\x=.int (lo+i),λi _=>n<=i⟩
theorem AaG {P:TV}{w:TM}{K:TH}{tg:TN}(a it:Addr):EB P w K tg (DA K a) [it] it (λi h=>h.IsListIter it a i) where
 mem:=by simp
 obj:=λi h st b hb=>by
  have e:b=it:=by simpa using hb
  subst e;obtain ⟨o,e,c,d⟩:=AF st;exact ⟨o,e,λv z=>by rw [d] at z;cases z⟩
 keep:=λi h B st k=>st.at λo e=>k it (by simp) o e
 item:=by intro X J hw L hc i pins s σ H E I D st O;subst J hw L;obtain ⟨xs,x,hq,hx⟩:=Bp O;obtain ⟨its,V,p,hz⟩:=AF (I.list hq);obtain ⟨u,hu,ru⟩:=Ao (V.get hx);obtain ⟨Y,f1,f2,f3,f4,f5⟩:=AW (D it (by simp));refine wpAny_pyNext_list_item st p.isList (x:=u) (by simpa using hu) λB bg sb=>?_;have I1:Ae X pins σ H { s with heap:=B }:=I.turned (t':=s.toks) (λb o hb e=>(sb.2 b hb).trans e) Y f1 f3 f4 f5;obtain ⟨o,e,c,d⟩:=AF (id bg);exact ⟨u,rfl,GS (s:={ s with heap:=B }) e c d (by decide) ⟨x,H,I1,ru,⟨rfl,λys hy=>by rw [I.oG hy hq];exact hx⟩,bg,λb hb=>(D b hb).1⟩⟩
 done:=by intro X J hw L hc i pins s σ H E I D st O;subst J hw L;obtain ⟨xs,hq,hx⟩:=Ao O;obtain ⟨its,V,p,hz⟩:=AF (I.list hq);obtain ⟨Y,f1,f2,f3,f4,f5⟩:=AW (D it (by simp));have hl:=V.length;exact wpAny_pyNext_list_end (I.ok.hd hc) st p.isList (by simp;omega) λB eb=>⟨rfl,I.turned (t':=s.toks) (λb o hb e=>eb b o hb e) Y f1 f3 f4 f5⟩
 self:=λ_ _ _ _ _ st h=>wpAny_pyIter_listiter st h
theorem AaH {P:TV}{w:TM}{K:TH}{tg:TN}(a it:Addr):EB P w K tg (GU K a) [it] it (λi h=>h.IsTupleIter it a i) where
 mem:=by simp
 obj:=λi h st b hb=>by
  have e:b=it:=by simpa using hb
  subst e;obtain ⟨o,e,c,d⟩:=AF st;exact ⟨o,e,λv z=>by rw [d] at z;cases z⟩
 keep:=λi h B st k=>st.at λo e=>k it (by simp) o e
 item:=by intro X J hw L hc i pins s σ H E I D st O;subst J hw L;obtain ⟨xs,x,hq,hx⟩:=Bp O;obtain ⟨its,V,p,hz⟩:=AF (I.tuple hq);obtain ⟨u,hu,ru⟩:=Ao (V.get hx);obtain ⟨Y,f1,f2,f3,f4,f5⟩:=AW (D it (by simp));refine wpAny_pyNext_tuple_item st (show s.heap.IsTuple a its.toArray from p) (x:=u) (by simpa using hu) λB bg sb=>?_;have I1:Ae X pins σ H { s with heap:=B }:=I.turned (t':=s.toks) (λb o hb e=>(sb.2 b hb).trans e) Y f1 f3 f4 f5;obtain ⟨o,e,c,d⟩:=AF (id bg);exact ⟨u,rfl,GS (s:={ s with heap:=B }) e c d (by decide) ⟨x,H,I1,ru,⟨rfl,λys hy=>by rw [I.oH hy hq];exact hx⟩,bg,λb hb=>(D b hb).1⟩⟩
 done:=by intro X J hw L hc i pins s σ H E I D st O;subst J hw L;obtain ⟨xs,hq,hx⟩:=Ao O;obtain ⟨its,V,p,hz⟩:=AF (I.tuple hq);obtain ⟨Y,f1,f2,f3,f4,f5⟩:=AW (D it (by simp));have hl:=V.length;exact wpAny_pyNext_tuple_end (I.ok.hd hc) st (show s.heap.IsTuple a its.toArray from p) (by simp;omega) λB eb=>⟨rfl,I.turned (t':=s.toks) (λb o hb e=>eb b o hb e) Y f1 f3 f4 f5⟩
 self:=λ_ _ _ _ _ st h=>wpAny_pyIter_tupleiter st h
theorem AaI {P:TV}{w:TM}{K:TH}{tg:TN}(it:Addr)(lo:Int)(n:Nat):EB P w K tg (DP lo n) [it] it (λi h=>IsRangeIter h it (lo+(i:Nat) * 1) ((n:Int) - (i:Nat)) 1) where
 mem:=by simp
 obj:=λi h st b hb=>by
  have e:b=it:=by simpa using hb
  subst e;exact ⟨_,st,λv z=>by
   have z':Data.fields _=Data.cell v:=z;cases z'⟩
 keep:=λi h B st k=>k it (by simp) _ st
 item:=by intro X J hw L hc i pins s σ H E I D st O;subst J hw L;obtain ⟨V,f1,f2,Y,f4,f5⟩:=AW (D it (by simp));have W:=Walks.range (prog:=X.prog) (w:=X.w) (I.ok.hd hc) it lo 1 n;refine W.item i s _ _ O st λv B tk hv bg kk=>?_;obtain ⟨t,rfl⟩:=hv;have I1:Ae X pins σ H { s with heap:=B,toks:=tk }:=I.turned (λb o hb e=>kk b o (by simpa using hb) e) V f1 Y f4 f5;refine ⟨_,rfl,GS (s:={ s with heap:=B,toks:=tk }) (n:="range_iterator") bg rfl rfl (by decide) ⟨.int (lo+i),H,I1,⟨t,?_⟩,⟨rfl,rfl⟩,bg,λb hb=>(D b hb).1⟩⟩;rw [Int.mul_one]
 done:=by intro X J hw L hc i pins s σ H E I D st O;subst J hw L;obtain ⟨V,f1,f2,Y,f4,f5⟩:=AW (D it (by simp));exact wpAny_pyNext_range_end (I.ok.hd hc) st (by have:n<=i:=O;omega) λB eb=>⟨rfl,I.turned (t':=s.toks) (λb o hb e=>eb b o hb e) V f1 Y f4 f5⟩
 self:=λ_ _ _ _ _ st h=>wpAny_pyIter_rangeiter st h
section
variable {X:Cx}{tg:TN}
def AaJ (K:TH)(tl:TE):TI:=λσ H R=>tl σ H λx H1=>∃ a,x=.ref a/\(∃ xs,A7 K H1 a xs)/\R (DA K a) H1
def AaK (K:TH)(tl:TE):TI:=λσ H R=>tl σ H λx H1=>∃ a,x=.ref a/\(∃ xs,Bl K H1 a xs)/\R (GU K a) H1
theorem Ds {l:TN}{tl:TE}(J:PE X l tl):PI X tg l (AaJ X.K tl):=by
 intro pins s σ H R I h;refine Am (J pins s σ H _ I h) λv B L=>AH L λx O D V Y=>?_;obtain ⟨a,e,⟨xs,hq⟩,q⟩:=AF Y;subst e;cases V;obtain ⟨its,rv,p,hz⟩:=AF (D.list hq);refine YM p.isList ?_;refine ⟨B.heap.objs.size,[B.heap.objs.size],_,_,O,rfl,D.kept (t':=B.toks) λb o e=>Ul _ e,AaG a _,⟨_,U2 _ rfl,rfl,rfl⟩,λb hb=>?_,q⟩;have e:b=B.heap.objs.size:=by simpa using hb
 subst e;exact D.dI (T3 _) (D.af.fresh (T3 _))
theorem AaL {l:TN}{tl:TE}(J:PE X l tl):PI X tg l (AaK X.K tl):=by
 intro pins s σ H R I h;refine Am (J pins s σ H _ I h) λv B L=>AH L λx O D V Y=>?_;obtain ⟨a,e,⟨xs,hq⟩,q⟩:=AF Y;subst e;cases V;obtain ⟨its,rv,p,hz⟩:=AF (D.tuple hq);refine YN (show B.heap.IsTuple a its.toArray from p) ?_;refine ⟨B.heap.objs.size,[B.heap.objs.size],_,_,O,rfl,D.kept (t':=B.toks) λb o e=>Ul _ e,AaH a _,⟨_,U2 _ rfl,rfl,rfl⟩,λb hb=>?_,q⟩;have e:b=B.heap.objs.size:=by simpa using hb
 subst e;exact D.dI (T3 _) (D.af.fresh (T3 _))
theorem N2 {pins:List (Addr×Obj)}{σ:St}{H:Hp}{s:TF}{R:It->Hp->Prop}{E:Value->TF->Prop}{lo B:Int}{t u v:Tok}{tk:Nat}(I:Ae X pins σ H s)(J:-(2 ^ 62)<=lo)(L:lo<2 ^ 62)(O:-(2 ^ 62)<=B)(V:B<2 ^ 62)(q:R (DP lo (B - lo).toNat) H):TL (TQ X.prog X.w) X.A (Xo (.ref s.heap.objs.size)) (N1 X pins σ tg R) E { s with heap:=s.heap.push { cls:=.type "range",data:=.fields #[.int lo t,.int B u,.int 1 v] },toks:=tk }:=by
 refine wpAny_pyIter_range (IsRange.new ..) (small_one J L O V) ?_;have D:Ae X pins σ H { s with heap:=s.heap.push { cls:=.type "range",data:=.fields #[.int lo t,.int B u,.int 1 v] },toks:=tk }:=I.kept λb o e=>Ul _ e;refine ⟨(s.heap.push { cls:=.type "range",data:=.fields #[.int lo t,.int B u,.int 1 v] }).objs.size,[(s.heap.push { cls:=.type "range",data:=.fields #[.int lo t,.int B u,.int 1 v] }).objs.size],_,_,H,rfl,
  D.kept (t':=tk) λb o e=>Ul _ e,AaI _ lo (B - lo).toNat,?_,λb hb=>?_,q⟩
 .have Y:lo+((0:Nat):Int) * 1=lo:=by simp
  have e2:(((B - lo).toNat:Nat):Int) - ((0:Nat):Int)=Builtin.Range.rangeSize lo B 1:=by rw [rangeSize_one];split<;>omega
  show IsRangeIter _ _ (lo+((0:Nat):Int) * 1) ((((B - lo).toNat:Nat):Int) - ((0:Nat):Int)) 1;rw [Y,e2];exact U2 _ rfl
 .have e:b=(s.heap.push { cls:=.type "range",data:=.fields #[.int lo t,.int B u,.int 1 v] }).objs.size:=by simpa using hb
  subst e;exact D.dI (T3 _) (D.af.fresh (T3 _))
def N3 (ta:TA):TI:=λσ H R=>ta σ H λvs H1=>∃ j:Int,vs=[.int j]/\-(2 ^ 62)<=j/\j<2 ^ 62/\R (DP 0 j.toNat) H1
def N4 (ta:TA):TI:=λσ H R=>ta σ H λvs H1=>∃ i j:Int,vs=[.int i,.int j]/\(-(2 ^ 62)<=i/\i<2 ^ 62/\-(2 ^ 62)<=j/\j<2 ^ 62)/\R (DP i (j - i).toNat) H1
theorem AaM {a:TN}{D:TA}{p pos:Pos}(J:Gl X "range")(L:X.mg "range"=none)(ha:PA X [a] D)(hs:T2 [a] X.env=[(false,TZ a X.env)]:=by rfl):PI X tg (.Call (.Name "range" p) [a] [] pos) (N3 D):=by
 intro pins s σ H R I h;refine Call_ (Fm I J L boot_range (Xp (Am (ha pos pins s σ H _ I h) λus s1 O=>AH O λvs H1 V Y B=>?_) hs rfl));replace B:=AF B;obtain ⟨j,e,B,q2,q⟩:=B
 subst e;cases Y with
 | cons r rr =>
  cases rr;obtain ⟨t,rfl⟩:=r;exact call_range_1 (N2 V (by omega) (by omega) B q2 (by simpa using q))
theorem AaN {a b:TN}{J:TA}{p pos:Pos}(O:Gl X "range")(V:X.mg "range"=none)(ha:PA X [a,b] J)(hs:T2 [a,b] X.env=[(false,TZ a X.env),(false,TZ b X.env)]:=by rfl)(L:T2 [b] X.env=[(false,TZ b X.env)]:=by rfl) :
  PI X tg (.Call (.Name "range" p) [a,b] [] pos) (N4 J):=by
 intro pins s σ H R I h;refine Call_ (Fm I O V boot_range (Xp (Am (ha pos pins s σ H _ I h) λus s1 Y=>AH Y λvs H1 I1 r1 B=>?_) (by rw [hs,L]) (by rw [L];rfl)));replace B:=Bk B;obtain ⟨i,j,e,⟨B,q2,q3,q4⟩,q⟩:=B
 subst e;cases r1 with
 | cons r D =>
  cases D with
  | cons r' D =>
   cases D;obtain ⟨t,rfl⟩:=r;obtain ⟨t',rfl⟩:=r';exact call_range_2 (N2 I1 B q2 q3 q4 q)
def N5 (wi:TI)(g:TG)(tb:TS):TS:=λD σ H=>wi σ H λJ H1=>∃ W:Nat->Nat->St->Hp->Prop,(∃ m,W 0 m σ H1)/\∀ i m σ H,W i m σ H ->
 (J.stop i H/\D.nx σ H)\/(J.go i H/\∃ N:St->Hp->Prop,(∀ σ' H',N σ' H'->∃ m',m'<m/\W (i+1) m' σ' H')/\∀ x H',J.bU i H x H'->g x σ H' λσ2 H2=>tb { D with nx:=N,ct:=N,bk:=D.nx } σ2 H2)
noncomputable def Fo (fp:List Addr)(h:Heap):List (Addr×Obj):=fp.filterMap λb=>(h.get? b).map λo=>(b,o)
theorem EC {B:List Addr}{h:Heap}{b:Addr}{o:Obj}(hb:b∈B)(e:h.get? b=some o):(b,o)∈Fo B h:=YO.mpr ⟨b,hb,by rw [e];rfl⟩
theorem AaO {B:List Addr}{h:Heap}{p:Addr×Obj}(D:p∈Fo B h):p.1∈B/\h.get? p.1=some p.2:=by
 obtain ⟨b,hb,e⟩:=Ao (YO.mp D);cases q:h.get? b with
 | none=>rw [q] at e;cases e
 | some o =>
  rw [q] at e;have H:(b,o)=p:=Uk e;subst H;exact ⟨hb,q⟩
theorem Ae.pinned {pins:List (Addr×Obj)}{σ:St}{H:Hp}{s:TF}{B:List Addr}(I:Ae X pins σ H s)(J:∀ b∈B,CS X pins H b)(L:∀ b∈B,∃ o,s.heap.get? b=some o/\∀ v,o.data≠.cell v):Ae X (pins++Fo B s.heap) σ H s :=
 I.ou λp O=>(U1.mp O).elim (λz=>I.pin p (UD _ z)) λz=>by
  obtain ⟨hb,e⟩:=AaO z;obtain ⟨V,f1,f2,_⟩:=AW (J p.1 hb);obtain ⟨o,D,d⟩:=Ao (L p.1 hb);rw [e] at D;cases D;exact ⟨e,V,f1,f2,d⟩
theorem Ae.gn {pins pl:List (Addr×Obj)}{σ:St}{H:Hp}{s:TF}(I:Ae X (pins++pl) σ H s):Ae X pins σ H s:=I.ou λp B=>I.pin p (UD _ (WB _ B))
theorem Dt {iter:TN}{body:List Stmt}{wi:TI}{g:TG}{tb:TS}{pos:Pos}(Y:YL (TQ X.prog X.w) X.A X.env X.xe)(hc:X.calm=true)(hi:PI X tg iter wi)(hg:PG X tg g)(hb:CQ X body tb)(hs:∀ x,VZ iter X.env x=pure x:=by intro _;rfl):PS X (.For tg iter body [] pos) (N5 wi g tb):=by
 intro pins s σ H D I h;refine wpAny_For (Am (hi pins s σ H _ I h) λv s1 h1=>Am h1 λg5 s2 h2=>?_) hs;obtain ⟨it,fp,tn,J,H2,e,I2,T,st2,f2,W,⟨m0,w0⟩,turn⟩:=Fl h2;subst e;have km:∀{V:Hp},(∀ b∈fp,V b=none)->∀ b∈fp,CS X pins V b:=λhn b hb=>⟨hn b hb,(f2 b hb).2⟩;refine codeAny_forLoop_any (λn s'=>∃ i σ' V,Ae X pins σ' V s'/\tn i s'.heap/\(∀ b∈fp,V b=none)/\W i n σ' V) ?_ m0 ⟨0,σ,H2,I2,st2,λb hb=>(f2 b hb).1,w0⟩;rintro n s3 ⟨i,σ3,H3,I3,cU,cV,w3⟩;rcases turn i n σ3 H3 w3 with ⟨stop,qn⟩ | ⟨go,N,hN,Vk⟩
 .refine WE Y (Am (T.done X rfl rfl rfl hc i pins s3 σ3 H3 X.xe I3 (km cV) cU stop) λr s4 ⟨hr,I4⟩=>?_);subst hr;exact XQ ⟨σ3,H3,I4,qn⟩
 .refine WE Y (Am (T.item X rfl rfl rfl hc i pins s3 σ3 H3 X.xe I3 (km cV) cU go) λr s4 zz=>Ct zz λu hr h4=>?_);subst hr;refine WE Y (Am h4 λ_ s5 zz=>AH zz λx H5 I5 r5 ⟨y5,bZ,fu⟩=>?_);have fv:=I5.pinned (km fu) (T.obj _ _ bZ);refine WE Y (Am (hg _ s5 σ3 H5 x u _ fv r5 (Vk x H5 y5)) λ_ s6 zz=>GG zz λσ6 H6 I6 q6=>?_);refine WE Y (Am (hb _ s6 σ6 H6 _ I6 q6) λf s7 B=>?_);have again:∀{σ7:St}{L:Hp},Ae X (pins++Fo fp s5.heap) σ7 L s7->N σ7 L->∃ m,m<n/\∃ i σ' V,Ae X pins σ' V s7/\tn i s7.heap/\(∀ b∈fp,V b=none)/\W i m σ' V:=λ{σ7 L} O n7=>by
   obtain ⟨m',hm,w7⟩:=Ao (hN σ7 L n7);refine ⟨m',hm,i+1,σ7,L,O.gn,T.keep _ _ _ bZ λb hb o e=>(O.pin (b,o) (UD _ (UD _ (EC hb e)))).1,λb hb=>?_,w7⟩;obtain ⟨o,e,d⟩:=Ao (T.obj _ _ bZ b hb);exact (O.pin (b,o) (UD _ (UD _ (EC hb e)))).2.1
  cases f with
  | next=>obtain ⟨σ7,L,O,n7⟩:=Bp B;exact again O n7
  | cont=>obtain ⟨σ7,L,O,n7⟩:=Bp B;exact again O n7
  | brk=>replace B:=Bp B;obtain ⟨σ7,L,O,B⟩:=B;exact ⟨σ7,L,O.gn,B⟩
  | ret v=>replace B:=Dh B;obtain ⟨x7,σ7,L,O,r7,B⟩:=B;exact ⟨x7,σ7,L,O.gn,r7,B⟩
end
theorem Fp {K:TH}{a:Addr}{xs:List V}{g:TG}{J:TS}{D:Di}{σ:St}{H:Hp}(Pv:Nat->St->Hp->Prop)(O:Pv 0 σ H)(Y:∀ i σ H,i<=xs.length->Pv i σ H->A7 K H a xs)(hs:∀ i x σ H,xs[i]?=some x->Pv i σ H->g x σ H λσ2 I=>J { D with nx:=Pv (i+1),ct:=Pv (i+1),bk:=D.nx } σ2 I)(hd:∀ σ H,Pv xs.length σ H->D.nx σ H) :
  ∃ W:Nat->Nat->St->Hp->Prop,(∃ m,W 0 m σ H)/\∀ i m σ H,W i m σ H ->
   ((DA K a).stop i H/\D.nx σ H)\/((DA K a).go i H/\∃ N:St->Hp->Prop,(∀ σ' B,N σ' B->∃ m',m'<m/\W (i+1) m' σ' B)/\∀ x B,(DA K a).bU i H x B->g x σ B λσ2 I=>J { D with nx:=N,ct:=N,bk:=D.nx } σ2 I):=by
 refine ⟨λi m σ H=>m=xs.length - i/\i<=xs.length/\Pv i σ H,⟨xs.length,by simp,UH _,O⟩,?_⟩;rintro i m σ H ⟨rfl,hi,p⟩;have q:=Y i σ H hi p;by_cases L:i<xs.length
 .refine .inr ⟨⟨xs,xs[i],q,by simp [L]⟩,Pv (i+1),λσ' B p'=>⟨xs.length - (i+1),by omega,rfl,L,p'⟩,λx B y=>?_⟩;obtain ⟨e,y⟩:=y;subst e;exact hs i x σ _ (y xs q) p
 .have e:i=xs.length:=by omega
  subst e;exact .inl ⟨⟨xs,q,T3 _⟩,hd σ H p⟩
theorem KL {lo:Int}{n:Nat}{g:TG}{L:TS}{D:Di}{σ:St}{H:Hp}(Pv:Nat->St->Hp->Prop)(O:Pv 0 σ H)(hs:∀ i σ H,i<n->Pv i σ H->g (.int (lo+i)) σ H λσ2 I=>L { D with nx:=Pv (i+1),ct:=Pv (i+1),bk:=D.nx } σ2 I)(hd:∀ σ H,Pv n σ H->D.nx σ H) :
  ∃ W:Nat->Nat->St->Hp->Prop,(∃ m,W 0 m σ H)/\∀ i m σ H,W i m σ H ->
   ((DP lo n).stop i H/\D.nx σ H)\/((DP lo n).go i H/\∃ N:St->Hp->Prop,(∀ σ' B,N σ' B->∃ m',m'<m/\W (i+1) m' σ' B)/\∀ x B,(DP lo n).bU i H x B->g x σ B λσ2 I=>L { D with nx:=N,ct:=N,bk:=D.nx } σ2 I):=by
 refine ⟨λi m σ H=>m=n - i/\i<=n/\Pv i σ H,⟨n,by simp,UH _,O⟩,?_⟩;rintro i m σ H ⟨rfl,Y,p⟩;by_cases J:i<n
 .refine .inr ⟨J,Pv (i+1),λσ' B V=>⟨n - (i+1),by omega,rfl,J,V⟩,λx B y=>?_⟩;obtain ⟨e,y⟩:=y;subst e y;exact hs i σ _ J p
 .have e:i=n:=by omega
  subst e;exact .inl ⟨T3 _,hd σ H p⟩
abbrev R2:=V->V->Hp->VK->Prop
def A8 (X:Cx)(f:Value->Value->Sem Value)(r:R2):Prop :=
 ∀(pins:List (Addr×Obj))(s:TF)(σ:St)(H:Hp)(x y:V)(v u:Value)(Q:VK),Ae X pins σ H s->AG x v->AG y u->r x y H Q ->
  TL (TQ X.prog X.w) X.A (f v u) (EP X pins σ Q) X.xe s
def BB (X:Cx)(f:Value)(r:List V->Hp->VK->Prop):Prop :=
 ∀(pins:List (Addr×Obj))(s:TF)(σ:St)(H:Hp)(xs:List V)(us:List Value)(Q:VK),Ae X pins σ H s->As xs us->r xs H Q ->
  TL (TQ X.prog X.w) X.A (call f us) (EP X pins σ Q) X.xe s
def AaP (X:Cx)(r:V->Hp->(Bool->Hp->Prop)->Prop):Prop :=
 ∀(pins:List (Addr×Obj))(s:TF)(σ:St)(H:Hp)(x:V)(v:Value)(Q:Bool->Hp->Prop),Ae X pins σ H s->AG x v->r x H Q ->
  TL (TQ X.prog X.w) X.A (truthy v) (TP X pins σ Q) X.xe s
def ID (r:R2)(ta tb:TE):TE:=λσ H Q=>ta σ H λx H1=>tb σ H1 λy H2=>r x y H2 Q
def rI (C:Int->Int->Prop)(g:Int->Int->V):R2:=λx y H Q=>∃ i j,x=.int i/\y=.int j/\C i j/\Q (g i j) H
def ED (g:Int->Int->V):R2:=λx y H Q=>∃ i j,x=.int i/\y=.int j/\Q (g i j) H
section
variable {X:Cx}{a b c:TN}{ta tb tc:TE}{pos:Pos}
theorem KN (ha:PE X a ta)(hb:PE X b tb){pins:List (Addr×Obj)}{s:TF}{σ:St}{H:Hp}{R:V->V->Hp->Prop}(I:Ae X pins σ H s)(h:ta σ H λx D=>tb σ D λy B=>R x y B){Q:Value->TF->Prop}{f:Value->Value->Sem Value}(L:∀ v u s2 x y B,Ae X pins σ B s2->AG x v->AG y u->R x y B->TL (TQ X.prog X.w) X.A (f v u) Q X.xe s2) :
  TL (TQ X.prog X.w) X.A (TZ a X.env) (λv O=>TL (TQ X.prog X.w) X.A (TZ b X.env) (λu Y=>TL (TQ X.prog X.w) X.A (f v u) Q X.xe Y) X.xe O) X.xe s:=by
 refine Am (ha pins s σ H _ I h) λv s1 J=>AH J λx D I1 r1 q1=>?_;refine Am (hb pins s1 σ D _ I1 q1) λu s2 J=>AH J λy B I2 r2 q2=>?_;exact L v u s2 x y B I2 r1 r2 q2
theorem AD {B:Xn}{r:R2}(D:A8 X (Vs B) r)(ha:PE X a ta)(hb:PE X b tb):PE X (.BinOp a B b pos) (ID r ta tb):=by intro pins s σ H Q I h;exact wpAny_BinOp (KN ha hb I h λv u J x y L O V Y q=>D pins J σ L x y v u Q O V Y q)
theorem IE {f:Value->Value->Sem Value}{C:Int->Int->Prop}{g:Int->Int->Int}(rule:∀ (i j:Int) (t u:Tok) (s:TF) (Q:Value->TF->Prop) (E:Value->TF->Prop),C i j->Q (.int (g i j) s.toks) { s with toks:=s.toks+1 }->TL (TQ X.prog X.w) X.A (f (.int i t) (.int j u)) Q E s) :
  A8 X f (rI C λi j=>.int (g i j)):=by
 intro pins s σ H x y v u Q I B D h;replace h:=Bk h;obtain ⟨i,j,rfl,rfl,hc,q⟩:=h
 obtain ⟨t,rfl⟩:=B;obtain ⟨J,rfl⟩:=D;exact rule i j t J s _ _ hc ⟨.int (g i j),H,I.tok _,⟨_,rfl⟩,q⟩
theorem N6 {f:Value->Value->Sem Value}{g:Int->Int->Int}(rule:∀ (i j:Int) (t u:Tok) (s:TF) (Q:Value->TF->Prop) (E:Value->TF->Prop),Q (.int (g i j) s.toks) { s with toks:=s.toks+1 }->TL (TQ X.prog X.w) X.A (f (.int i t) (.int j u)) Q E s) :
  A8 X f (ED λi j=>.int (g i j)):=by
 intro pins s σ H x y v u Q I B D h;replace h:=Bk h;obtain ⟨i,j,rfl,rfl,q⟩:=h
 obtain ⟨t,rfl⟩:=B;obtain ⟨J,rfl⟩:=D;exact rule i j t J s _ _ ⟨.int (g i j),H,I.tok _,⟨_,rfl⟩,q⟩
theorem IF {f:Value->Value->Sem Value}{g:Int->Int->Bool}(rule:∀ (i j:Int) (t u:Tok) (s:TF) (Q:Value->TF->Prop) (E:Value->TF->Prop),Q (.bool (g i j)) s->TL (TQ X.prog X.w) X.A (f (.int i t) (.int j u)) Q E s) :
  A8 X f (ED λi j=>.bl (g i j)):=by
 intro pins s σ H x y v u Q I B D h;replace h:=Bk h;obtain ⟨i,j,rfl,rfl,q⟩:=h
 obtain ⟨t,rfl⟩:=B;obtain ⟨J,rfl⟩:=D;exact rule i j t J s _ _ ⟨.bl (g i j),H,I,rfl,q⟩
def N7 (i j:Int):Prop:=0<j/\j<1073741824
def AaQ (i j:Int):Prop:=0<=j/\j<=1000000/\i.natAbs<2 ^ 64
def GV (i j:Int):Prop:=(-(2 ^ 64)<i/\i<2 ^ 64)\/(-(2 ^ 64)<j/\j<2 ^ 64)
theorem GV.ok {i j:Int}(h:GV i j):IntMulOk i j:=by
 rcases h with ⟨B,D⟩ | ⟨B,D⟩
 .exact .of_left (intBits_le_64 B D)
 .exact .of_right (intBits_le_64 B D)
theorem AaR:A8 X (Vs .Add) (ED λi j=>.int (i+j)):=N6 λ_ _ _ _ _ _ _ q=>add_int q
theorem F2:A8 X (Vs .Sub) (ED λi j=>.int (i - j)):=N6 λ_ _ _ _ _ _ _ q=>sub_int q
theorem AaS:A8 X (Vs .Mult) (rI GV λi j=>.int (i * j)):=IE λ_ _ _ _ _ _ _ hc q=>mul_int q hc.ok
theorem EE:A8 X (Vs .FloorDiv) (rI N7 λi j=>.int (i / j)):=IE λi j _ _ _ _ _ hc q=>by
 have B:(0:Int)<j:=hc.1;have D:j<1073741824:=hc.2;exact floordiv_int (by omega) (by rw [Int.fdiv_eq_ediv_of_nonneg i (by omega)];exact q) (.inl (PyProof.noPylong_small (by omega)))
theorem B3:A8 X (Vs .Mod) (rI (λ_ j=>0<j) λi j=>.int (i % j)):=IE λi j _ _ _ _ _ hc q=>by
 have B:(0:Int)<j:=hc;exact mod_int' (by omega) (by rw [Int.fmod_eq_emod_of_nonneg i (by omega)];exact q)
theorem AaT:A8 X (Vs .Pow) (rI AaQ λi j=>.int (i ^ j.toNat)):=IE λ_ _ _ _ _ _ _ hc q=>pow_int_small hc.1 hc.2.1 hc.2.2 q
end
noncomputable def N8:V->V->Bool
 | .aa,.aa=>true | .aa,.int _=>true | .int _,.aa=>true | .aa,.bl _=>true | .bl _,.aa=>true | .aa,.str _=>true | .str _,.aa=>true
 | .int _,.int _=>true | .bl _,.bl _=>true | .str _,.str _=>true | .cm _,.cm _=>true
 | .int _,.str _=>true | .str _,.int _=>true | .bl _,.str _=>true | .str _,.bl _=>true
 | _,_=>false
def KO:R2:=λx y H Q=>N8 x y=true/\Q (.bl (decide (x=y))) H
def N9:R2:=λx y H Q=>N8 x y=true/\Q (.bl (!decide (x=y))) H
theorem Oa {i j:Int}:decide (V.int i=V.int j)=(i == j):=by rw [We];simp
theorem Ob {i j:Bool}:decide (V.bl i=V.bl j)=(i == j):=by rw [We];simp
theorem Oc {i j:Str}:decide (V.str i=V.str j)=(i == j):=by rw [We];simp
theorem Od {i j:Array UInt8}:decide (V.cm i=V.cm j)=(i.toList == j.toList):=by rw [We];cases i;cases j;simp
section
variable {X:Cx}{a b c:TN}{ta tb tc:TE}{pos:Pos}
theorem Bw {pins:List (Addr×Obj)}{σ:St}{H:Hp}{s:TF}{Q:VK}{k k':Bool}(I:Ae X pins σ H s)(q:Q (.bl k) H)(e:k=k'):EP X pins σ Q (.bool k') s:=by subst e;exact ⟨.bl k,H,I,rfl,q⟩
theorem AaU:A8 X (UJ .Eq) KO:=by
 intro pins s σ H x y v u Q I J B h;obtain ⟨hs,q⟩:=h;cases x with
 | aa =>
  cases J;cases y with
  | aa=>cases B;exact PySem.EqNone.eq_none_none (Bw I q (by simp))
  | bl j=>cases B;exact PySem.EqNone.eq_none_bool (Bw I q (by simp))
  | int j=>obtain ⟨D,rfl⟩:=B;exact PySem.EqNone.eq_none_int (Bw I q (by simp))
  | str j=>obtain ⟨D,rfl⟩:=B;exact PySem.EqNone.eq_none_str (Bw I q (by simp))
  | _=>exact absurd (show false=true from hs) UG
 | bl i =>
  cases J;cases y with
  | aa=>cases B;exact PySem.EqNone.eq_bool_none (Bw I q (by simp))
  | bl j=>cases B;exact eq_bool (Bw I q Ob)
  | str j=>obtain ⟨D,rfl⟩:=B;exact PySem.EqMixed.eq_bool_str (Bw I q (by simp))
  | _=>exact absurd (show false=true from hs) UG
 | int i =>
  obtain ⟨t,rfl⟩:=J;cases y with
  | aa=>cases B;exact PySem.EqNone.eq_int_none (Bw I q (by simp))
  | int j=>obtain ⟨D,rfl⟩:=B;exact eq_int (Bw I q Oa)
  | str j=>obtain ⟨D,rfl⟩:=B;exact PySem.EqMixed.eq_int_str (Bw I q (by simp))
  | _=>exact absurd (show false=true from hs) UG
 | str i =>
  obtain ⟨t,rfl⟩:=J;cases y with
  | aa=>cases B;exact PySem.EqNone.eq_str_none (Bw I q (by simp))
  | bl j=>cases B;exact PySem.EqMixed.eq_str_bool (Bw I q (by simp))
  | int j=>obtain ⟨D,rfl⟩:=B;exact PySem.EqMixed.eq_str_int (Bw I q (by simp))
  | str j=>obtain ⟨D,rfl⟩:=B;exact eq_str (Bw I q Oc)
  | _=>exact absurd (show false=true from hs) UG
 | cm i =>
  obtain ⟨t,rfl⟩:=J;cases y with
  | cm j=>obtain ⟨D,rfl⟩:=B;exact PySem.W.eq_bytes (Bw I q Od)
  | _=>exact absurd (show false=true from hs) UG
 | _=>cases y<;>exact absurd (show false=true from hs) UG
theorem AaV:A8 X (UJ .NotEq) N9:=by
 intro pins s σ H x y v u Q I J B h;obtain ⟨hs,q⟩:=h;cases x with
 | aa =>
  cases J;cases y with
  | aa=>cases B;exact PySem.EqNone.ne_none_none (Bw I q (by simp))
  | bl j=>cases B;exact PySem.EqNone.ne_none_bool (Bw I q (by simp))
  | int j=>obtain ⟨D,rfl⟩:=B;exact PySem.EqNone.ne_none_int (Bw I q (by simp))
  | str j=>obtain ⟨D,rfl⟩:=B;exact PySem.EqNone.ne_none_str (Bw I q (by simp))
  | _=>exact absurd (show false=true from hs) UG
 | bl i =>
  cases J;cases y with
  | aa=>cases B;exact PySem.EqNone.ne_bool_none (Bw I q (by simp))
  | bl j=>cases B;exact ne_bool (Bw I q (congrArg not Ob))
  | str j=>obtain ⟨D,rfl⟩:=B;exact PySem.EqMixed.ne_bool_str (Bw I q (by simp))
  | _=>exact absurd (show false=true from hs) UG
 | int i =>
  obtain ⟨t,rfl⟩:=J;cases y with
  | aa=>cases B;exact PySem.EqNone.ne_int_none (Bw I q (by simp))
  | int j=>obtain ⟨D,rfl⟩:=B;exact ne_int (Bw I q (congrArg not Oa))
  | str j=>obtain ⟨D,rfl⟩:=B;exact PySem.EqMixed.ne_int_str (Bw I q (by simp))
  | _=>exact absurd (show false=true from hs) UG
 | str i =>
  obtain ⟨t,rfl⟩:=J;cases y with
  | aa=>cases B;exact PySem.EqNone.ne_str_none (Bw I q (by simp))
  | bl j=>cases B;exact PySem.EqMixed.ne_str_bool (Bw I q (by simp))
  | int j=>obtain ⟨D,rfl⟩:=B;exact PySem.EqMixed.ne_str_int (Bw I q (by simp))
  | str j=>obtain ⟨D,rfl⟩:=B;exact ne_str (Bw I q (congrArg not Oc))
  | _=>exact absurd (show false=true from hs) UG
 | cm i =>
  obtain ⟨t,rfl⟩:=J;cases y with
  | cm j=>obtain ⟨D,rfl⟩:=B;exact PySem.W.ne_bytes (Bw I q (congrArg not Od))
  | _=>exact absurd (show false=true from hs) UG
 | _=>cases y<;>exact absurd (show false=true from hs) UG
theorem Oe:A8 X (UJ .Lt) (ED λi j=>.bl (decide (i<j))):=IF λ_ _ _ _ _ _ _ q=>lt_int q
theorem IG:A8 X (UJ .LtE) (ED λi j=>.bl (decide (i<=j))):=IF λ_ _ _ _ _ _ _ q=>le_int q
theorem Of:A8 X (UJ .Gt) (ED λi j=>.bl (decide (j<i))):=IF λ_ _ _ _ _ _ _ q=>gt_int q
theorem AaW:A8 X (UJ .GtE) (ED λi j=>.bl (decide (j<=i))):=IF λ_ _ _ _ _ _ _ q=>ge_int q
theorem AaX:A8 X (UJ .In) (λx y H Q=>∃ i j,x=.str i/\y=.str j/\Q (.bl (!(YQ j i 0 j.length 1).isEmpty)) H):=by
 intro pins s σ H x y v u Q I B D h;replace h:=Bk h;obtain ⟨i,j,rfl,rfl,q⟩:=h
 obtain ⟨t,rfl⟩:=B;obtain ⟨J,rfl⟩:=D;exact in_str (Bw I q rfl)
theorem EF:A8 X (UJ .Is) (λx y H Q=>y=.aa/\Q (.bl (decide (x=.aa))) H):=by
 intro pins s σ H x y v u Q I B D h;obtain ⟨rfl,q⟩:=h;cases D;refine is_none_gen (Bw I q ?_);cases x<;>first
  | (cases B;rfl)
  | (obtain ⟨t,rfl⟩:=B;rfl)
theorem KP:A8 X (UJ .IsNot) (λx y H Q=>y=.aa/\Q (.bl (!decide (x=.aa))) H):=by
 intro pins s σ H x y v u Q I B D h;obtain ⟨rfl,q⟩:=h;cases D;refine isnot_none_gen (Bw I q ?_);cases x<;>first
  | (cases B;rfl)
  | (obtain ⟨t,rfl⟩:=B;rfl)
theorem A8.or {f:Value->Value->Sem Value}{r B:R2}(h:A8 X f r)(h':A8 X f B):A8 X f (λx y H Q=>r x y H Q\/B x y H Q):=by
 intro pins s σ H x y v u Q I D J q;rcases q with q | q
 .exact h pins s σ H x y v u Q I D J q
 .exact h' pins s σ H x y v u Q I D J q
theorem A6 (b:TN){B:CmpOp}(h:B≠.In:=by decide)(D:B≠.NotIn:=by decide):XS B b=false:=by
 have H:(B == CmpOp.In)=false:=by cases B<;>first | rfl | exact absurd rfl h
 have I:(B == CmpOp.NotIn)=false:=by cases B<;>first | rfl | exact absurd rfl D
 cases b<;>simp [XS,H,I]
theorem IH {B:CmpOp}{r:R2}(D:A8 X (UJ B) r)(ha:PE X a ta)(hb:PE X b tb)(J:XS B b=false):PE X (.Compare a [B] [b] pos) (ID r ta tb):=by intro pins s σ H Q I h;exact wpAny_Compare1 (KN ha hb I h λv u L x y O V Y ry q=>D pins L σ O x y v u Q V Y ry q) J
def AaY (t:TE):TT:=λσ H Q=>t σ H λx H'=>∃ k,x=.bl k/\Q k H'
theorem A0 {B:CmpOp}{r:R2}(J:A8 X (UJ B) r)(ha:PE X a ta)(hb:PE X b tb)(L:XS B b=false):PT X (.Compare a [B] [b] pos) (AaY (ID r ta tb)):=by
 intro pins s σ H Q I h;refine wpAny_isTrue_Compare1 (Am (ha pins s σ H _ I h) λv O D=>AH D λx V Y r1 q1=>Am (hb pins O σ V _ Y q1) λu s2 ⟨y,H2,I2,r2,q2⟩ =>
  Am (J pins s2 σ H2 x y v u _ I2 r1 r2 q2) λc s3 D=>AH D λz H3 I3 r3 ⟨k,e,q3⟩=>?_) L
 subst e;cases r3;exact WC ⟨H3,I3,q3⟩
def AaZ (r r':R2)(ta tb tc:TE):TE:=λσ H Q=>ta σ H λx H1=>tb σ H1 λy H2=>r x y H2 λz H3=>∃ k,z=.bl k /\
 (if k=true then tc σ H3 λw' H4=>r' y w' H4 Q else Q (.bl false) H3)
theorem Aa0 {D J:CmpOp}{r L:R2}(ho:A8 X (UJ D) r)(dH:A8 X (UJ J) L)(ha:PE X a ta)(hb:PE X b tb)(hc:PE X c tc)(hm:lastMarks [D,J] [b,c]=false:=by with_unfolding_all rfl):PE X (.Compare a [D,J] [b,c] pos) (AaZ r L ta tb tc):=by
 intro pins s σ H Q I h;refine Compare_chain (Am (ha pins s σ H _ I h) λv s1 B=>AH B λx H1 I1 r1 q1=>chain_link (Am (hb pins s1 σ H1 _ I1 q1) λu s2 ⟨y,H2,I2,O,q2⟩ =>
  Am (ho pins s2 σ H2 x y v u _ I2 r1 O q2) λd s3 B=>AH B λz V Y r3 ⟨k,e,q3⟩=>?_)) hm
 subst e;cases r3;refine WC ?_;cases k with
 | false=>exact ite_ff ⟨.bl false,V,Y,rfl,q3⟩
 | true=>exact ite_tt (chain_last (Am (hc pins s3 σ V _ Y q3) λw' s4 B=>AH B λz' H4 I4 r4 q4=>dH pins s4 σ H4 y z' u w' Q I4 O r4 q4))
def KQ (K:TH)(x:V)(H:Hp)(k:Bool):Prop :=
 match x with
 | .aa=>k=false
 | .bl b=>k=b
 | .int i=>k=(i != 0)
 | .str y=>y.length<=sizeLine/\k=((y.length:Int) != 0)
 | .cm y=>y.size<=sizeLine/\k=((y.size:Int) != 0)
 | .ref p=>(∃ xs,A7 K H p xs/\k=!xs.isEmpty)\/(∃ xs,Bl K H p xs/\k=!xs.isEmpty)\/∃ kvs,H p=some (.dK kvs)/\k=!kvs.isEmpty
 | _=>False
theorem Aa1 {κ:Type}{kvs:List (κ×V)}{vs:List (κ×Value)}(r:KV kvs vs):(!vs.isEmpty)=!kvs.isEmpty:=by cases r<;>rfl
theorem Og {xs:List V}{its:List Value}(r:As xs its):(!its.toArray.isEmpty)=!xs.isEmpty:=by cases r<;>simp
theorem EG:(sizeLine:Nat)<2 ^ 63:=by rw [TY];decide
theorem Oh:AaP X (λx H Q=>∃ k,KQ X.K x H k/\Q k H):=by
 intro pins s σ H x v Q I O h;obtain ⟨k,e,q⟩:=Ao h;have Y:=EG;have hs:sizeLine=16777216:=TY;cases x with
 | aa =>
  cases O;have B:k=false:=e;subst B;exact truthy_none ⟨H,I,q⟩
 | bl b =>
  cases O;have B:k=b:=e;subst B;exact WC ⟨H,I,q⟩
 | int i =>
  obtain ⟨t,rfl⟩:=O;have B:k=(i != 0):=e;subst B;exact PySem.P.truthy_int ⟨H,I,q⟩
 | str y =>
  obtain ⟨t,rfl⟩:=O;obtain ⟨hy,B⟩:y.length<=sizeLine/\k=((y.length:Int) != 0):=e;subst B;exact PySem.P.truthy_str (by omega) ⟨H,I.tok _,q⟩
 | cm y =>
  obtain ⟨t,rfl⟩:=O;obtain ⟨hy,B⟩:y.size<=sizeLine/\k=((y.size:Int) != 0):=e;subst B;exact PySem.W.truthy_bytes (by omega) ⟨H,I.tok _,q⟩
 | ref p =>
  cases O;have B:(∃ L,A7 X.K H p L/\k=!L.isEmpty)\/(∃ L,Bl X.K H p L/\k=!L.isEmpty)\/∃ D,H p=some (.dK D)/\k=!D.isEmpty:=e;rcases B with ⟨L,hx,B⟩ | ⟨L,hx,B⟩ | ⟨D,hx,B⟩
  .subst B;obtain ⟨its,r,pl,V⟩:=AF (I.list hx);have J:=r.length;exact wpAny_truthy_list pl.isList (by simp only [Uw];omega) ⟨H,I.tok _,by rw [Og r];exact q⟩
  .subst B;obtain ⟨its,r,pl,V⟩:=AF (I.tuple hx);have J:=r.length;exact truthy_tuple pl (by simp only [Uw];omega) ⟨H,I.tok _,by rw [Og r];exact q⟩
  .subst B;obtain ⟨V,hS,vs,r,m⟩:D.length<=sizeLine/\(p == Vh)=false/\∃ vs,KV D vs/\s.heap.DictOf (Br X.prog X.w) p vs:=I.af p _ hx;have J:D.length=vs.length:=Paired.length r;exact wpAny_truthy_dict hS m (by omega) ⟨H,I.tok _,by rw [Aa1 r];exact q⟩
 | _=>exact (show False from e).elim
theorem Aa2 (ha:PE X a ta)(J:∀ B,Xm a X.env B=(do let v <- B;Vq a.pos;Vj [v] (truthy v))) :
  PT X a (λσ H Q=>ta σ H λx D=>∃ k,KQ X.K x D k/\Q k D):=by
 intro pins s σ H Q I h;exact isTrue_plain (Am (ha pins s σ H _ I h) λv L O=>AH O λx V Y r1 q1=>Oh pins L σ V x v Q Y r1 q1) (J _)
theorem Aa3:A8 X (Vs .Add) (λx y H Q=>∃ i j,x=.str i/\y=.str j/\i.length+j.length<=sizeLine/\Q (.str (i++j)) H):=by
 intro pins s σ H x y v u Q I B D h;replace h:=Bk h;obtain ⟨i,j,rfl,rfl,J,q⟩:=h
 obtain ⟨t,rfl⟩:=B;obtain ⟨L,rfl⟩:=D;exact add_str (λL O=>⟨.str (i++j),H,I.tok _,⟨_,rfl⟩,q⟩) J
theorem CK {x:V}{us:List Value}(r:As [x] us):∃ u,us=[u]/\AG x u:=by
 cases r with
 | cons B D=>cases D;exact ⟨_,rfl,B⟩
theorem Oi {x y:V}{us:List Value}(r:As [x,y] us):∃ u B,us=[u,B]/\AG x u/\AG y B:=by
 cases r with
 | cons D H =>
  cases H with
  | cons I J=>cases J;exact ⟨_,_,rfl,D,I⟩
theorem Oj:BB X (.type "int") (λxs H Q=>(∃ i,xs=[.int i]/\Q (.int i) H)\/∃ k,xs=[.bl k]/\Q (.int (if k then 1 else 0)) H):=by
 intro pins s σ H xs D Q I r h;rcases h with ⟨i,rfl,q⟩ | ⟨k,rfl,q⟩
 .obtain ⟨u,rfl,t,rfl⟩:=Ao (CK r);exact call_int_int ⟨.int i,H,I,⟨_,rfl⟩,q⟩
 .obtain ⟨u,rfl,B⟩:=Ao (CK r);cases B;exact call_int_bool ⟨.int (if k then 1 else 0),H,I.tok _,⟨_,rfl⟩,q⟩
theorem II:BB X (.type "str") (λxs H Q=>∃ i,xs=[.int i]/\i.natAbs.log2<1920/\Q (.str (toString i)) H):=by
 intro pins s σ H xs D Q I r h;replace h:=AF h;obtain ⟨i,rfl,B,q⟩:=h
 obtain ⟨u,rfl,t,rfl⟩:=Ao (CK r);exact PySem.P.str_of_int B ⟨.str _,H,I.tok _,⟨_,rfl⟩,q⟩
end
structure Fq (h:Heap)(x dx C:Addr)(mA:Str->Option Value):Prop where
 obj:h.get? x=some (Wa C dx)
 ns:h.Ns1 dx mA
 ne:dx≠x
theorem Aa4 {h:Heap}{dx:Addr}{B:Str->Option Value}(n:h.Ns1 dx B):∃ D,h.get? dx=some D/\∀ name,XT name D=some (B name):=by
 obtain ⟨o,es,O,H,hd,hk,_,I⟩:=F0 n;refine ⟨o,H,λname=>?_⟩;have e:=I name;unfold nsFind findBy at e;rw [<- Array.find?_toList] at e;unfold XT;rw [hd];dsimp only;split
 .rename_i y q
  rw [q] at e;exact congrArg some e
 .rename_i q
  rw [q] at e;have a:es.toList.any (·.refKey)=false:=by rw [List.any_eq_false];intro y hy;obtain ⟨z,t,J⟩:=hk y (Z3.mp hy);simp [DictEntry.refKey,J]
  have L:¬ es.toList.any (·.refKey)=true:=by rw [a];exact UG
  rw [if_neg L];exact congrArg some e
theorem Fq.look {h:Heap}{x dx C:Addr}{D:Str->Option Value}(I:Fq h x dx C D):∃ B,PySem.W.InstAt h x (Wa C dx) C (some B)/\∀ name,XT name B=some (D name) :=
 let ⟨B,H,J⟩:=Aa4 I.ns
 ⟨B,⟨I.obj,rfl,rfl,H⟩,J⟩
section
variable {prog:TV}{w:TM}{A:Ub}{E:Value->TF->Prop}{s:TF}{K:TH}{x dx C f:Addr}{mA:Str->Option Value}{name:Str}{v:Value}
theorem Aa5 {expr:Bool}{Q:Value->TF->Prop}(X:K.In s.heap)(I:Fq s.heap x dx C mA)(B:V0 K C name=true)(D:Wf K C=true)(ha:Uh K (.ref C) name=some none)(hv:mA name=some v)(H:Z4 v=true)(h:Q v { s with toks:=s.toks+1 }) :
  TL (TQ prog w) A (getAttr (.ref x) name expr) Q E s:=by
 obtain ⟨O,J,L⟩:=Ao I.look;exact PySem.W.get_value X J (YR B).1 (PySem.W.findObj_own D ha rfl (by rw [L,hv])) H h
theorem Aa6 {pl:Sem Bool}{Q:Value×List Value->TF->Prop}(X:K.In s.heap)(I:Fq s.heap x dx C mA)(B:V0 K C name=true)(D:Uh K (.ref C) name=some (some (.ref f)))(H:Wg K (.ref f)=true)(hv:mA name=none)(h:Q (.ref f,[.ref x]) s) :
  TL (TQ prog w) A (V1 (.ref x) name pl) Q E s:=by
 obtain ⟨L,J,O⟩:=Ao I.look;exact PySem.W.method_fn X J (YR B).1 (YR B).2 D (beq_iff_eq.mp H) (by show (XT name L).map (·.isSome)=some false;rw [O,hv];rfl) h
theorem Aa7 {ns:List Str}{Q:Unit->TF->Prop}(X:K.In s.heap)(I:Fq s.heap x dx C mA)(hs:Uh K (.ref C) "__setattr__"=some (some (.builtin "object.__setattr__")))(O:WJ K C=true)(V:YS K C name=some none)(Y:Wf K C=true)(hw:YF mA ns)(hsz:ns.length<=sizeLine)(h:∀ h',Fq h' x dx C (λy=>if y=name then some v else mA y)->UN dx s.heap h'->Q () { s with heap:=h',toks:=s.toks+2 }) :
  TL (TQ prog w) A (setAttr (.ref x) name v) Q E s:=by
 obtain ⟨od,J,hl⟩:=Ao I.look;refine PySem.W.set_plain X J hs (PySem.W.osa_open (s:={ s with toks:=s.toks+1 }) (r:=none) X J O V λb=>?_);obtain ⟨cd,hc,kg⟩:=Ao (PySem.W.any_some Y);have hx:s.heap.get? x=some ⟨.ref C,some dx,.plain,#[]⟩:=I.obj;refine TR (T6 (TR (TR (Z5 hx (TR (PySem.W.Looks.here (s:={ s with toks:=s.toks+1 }) (PySem.W.looks_clsIn X hc) ?_))))));rw [kg];refine T6 (a:=some dx) (TR (T6 (TR ?_)));refine wpAny_nsSet1 (s:={ s with toks:=s.toks+1 }) I.ns λh' H L=>?_;obtain ⟨oD,esD,epD,B,D,dJ⟩:=Dh (H.count (PySem.Within.cons name v hw));refine TR (wpAny_lookBehind B (by rw [D];exact pastItsLine_dict (UM dJ (by rw [Vf];omega))) ?_);exact T6 (h _ ⟨(L.2 _ (Uj I.ne)).trans I.obj,H,I.ne⟩ L)
theorem Aa8 {R:WK->TF->Prop}{vs:List Value}{B:List (Str×Value)}(X:K.In s.heap)(D:Wh K C=true)(H:Uh K (.ref C) "__init__"=some (some (.ref f)))(I:YT K (.ref f)=some (.type "function"))(h:U8 (TQ prog w) (A.under (.builtin "type.__call__" ⟨.ref C :: vs,B⟩)) (.call (.ref f) ⟨.ref (s.heap.objs.size+1) :: vs,B⟩) (PySem.W.InitBack (s.heap.objs.size+1) R)
   { s with heap:=(s.heap.push V2).push (Wa C s.heap.objs.size) }) :
  U8 (TQ prog w) A (.call (.ref C) ⟨vs,B⟩) R s:=by
 obtain ⟨J,g,d,t,os⟩:=s;exact PySem.W.make_core (PySem.W.makes_of X D) (PySem.W.looks_findIn X H) (λself=>PySem.W.bind_fn X self I) (.inl rfl) h
end
noncomputable def An (f:Str)(v:V):List (Str×V)->List (Str×V)
 | []=>[(f,v)]
 | (g,x) :: r=>if g=f then (g,v) :: r else (g,x) :: An f v r
theorem Ol (f g:Str)(v:V):∀ fs:List (Str×V),(An f v fs).lookup g=if g=f then some v else fs.lookup g
 | []=>by
  show WL g [(f,v)]=_;by_cases h:g=f
  .have hb:(g == f)=true:=beq_iff_eq.mpr h;simp only [WL,hb,if_pos h]
  .have hb:(g == f)=false:=beq_eq_false_iff_ne.mpr h;simp only [WL,hb,if_neg h]
 | (k,x) :: r=>by
  have ih:=Ol f g v r;rw [show An f v ((k,x) :: r)=(if k=f then (k,v) :: r else (k,x) :: An f v r) from rfl];by_cases hk:k=f
  .rw [if_pos hk];by_cases h:g=k
   .have hb:(g == k)=true:=beq_iff_eq.mpr h;simp only [WL,hb,if_pos (h.trans hk)]
   .have hb:(g == k)=false:=beq_eq_false_iff_ne.mpr h;simp only [WL,hb,if_neg (λe:g=f=>h (e.trans hk.symm))]
  .rw [if_neg hk];by_cases h:g=k
   .have hb:(g == k)=true:=beq_iff_eq.mpr h;simp only [WL,hb,if_neg (λe:g=f=>hk (h.symm.trans e))]
   .have hb:(g == k)=false:=beq_eq_false_iff_ne.mpr h;simp only [WL,hb];exact ih
theorem KR (f:Str)(v:V):∀ fs:List (Str×V),f∈(An f v fs).map (·.1)/\∀ g,g∈fs.map (·.1)->g∈(An f v fs).map (·.1)
 | []=>⟨by simp [An],λg h=>by simp at h⟩
 | (k,x) :: r=>by
  obtain ⟨B,D⟩:=KR f v r;rw [show An f v ((k,x) :: r)=(if k=f then (k,v) :: r else (k,x) :: An f v r) from rfl];by_cases hk:k=f
  .rw [if_pos hk];subst hk;exact ⟨by simp,λg h=>by simpa using h⟩
  .rw [if_neg hk];refine ⟨?_,λg h=>?_⟩
   .rw [U4];exact Uu _ B
   .rw [U4] at h ⊢;rcases T8.mp h with e | e
    .exact T8.mpr (.inl e)
    .exact Uu _ (D g e)
theorem Om (f:Str)(v:V):∀ fs:List (Str×V),(An f v fs).length<=fs.length+1
 | []=>by simp [An]
 | (k,x) :: r=>by
  have ih:=Om f v r;rw [show An f v ((k,x) :: r)=(if k=f then (k,v) :: r else (k,x) :: An f v r) from rfl];by_cases hk:k=f
  .rw [if_pos hk,Vf,Vf];omega
  .rw [if_neg hk,Vf,Vf];omega
theorem CP.some_of {v:V}{o:Option Value}(r:CP (some v) o):∃ u,o=some u/\AG v u:=by
 cases o with
 | none=>exact (show False from r).elim
 | some u=>exact ⟨u,rfl,r⟩
theorem CP.none_of {o:Option Value}(r:CP none o):o=none:=by
 cases o with
 | none=>rfl
 | some u=>exact (show False from r).elim
theorem Aa9 {v:V}{u:Value}(r:AG v u):Z4 u=true:=by
 cases v with
 | aa=>cases (show u=Vc from r);rfl
 | bl b=>cases (show u=Xh b from r);rfl
 | int i=>obtain ⟨t,e⟩:=(show ∃ t,u=U3 i t from r);cases e;rfl
 | str x=>obtain ⟨t,e⟩:=(show ∃ t,u=UQ x t from r);cases e;rfl
 | cm b=>obtain ⟨t,e⟩:=(show ∃ t,u=Value.bytes b t from r);cases e;rfl
 | fq b=>obtain ⟨t,e⟩:=(show ∃ t,u=YE b t from r);cases e;rfl
 | ref a=>cases (show u=Uz a from r);rfl
 | ty n=>cases (show u=Xi n from r);rfl
section
variable {P:TV}{w:TM}{H H':Hp}{h h':Heap}{a C dx:Addr}{fs eF:List (Str×V)}
theorem IJ (D:AM P w H h)(e:H a=some (.ins C dx fs)):∃ B,Fq h a dx C B/\(∀ f,CP (fs.lookup f) (B f))/\YF B (fs.map (·.1))/\fs.length<=1000/\H dx=some (.own a):=by obtain ⟨d,z,ne,I,B,n,r,q⟩:=AW ((show Bg P w H h a (.ins C dx fs) from D a _ e));exact ⟨B,⟨I,n,ne⟩,r,q,z,d⟩
end
structure Cm (K:TH)(C:Addr):Prop where
 pg:V0 K C UI=true
 hd:Wf K C=true
 po:WJ K C=true
 sa:Uh K (.ref C) "__setattr__"=some (some (.builtin "object.__setattr__"))
theorem Cm.get {K:TH}{C:Addr}(c:Cm K C)(f:Str):V0 K C f=true:=c.pg
def BC (K:TH)(C:Addr)(f:Str):Prop:=Uh K (.ref C) f=some none
theorem BC.aaf {K:TH}{C:Addr}{f:Str}(n:BC K C f):YS K C f=some none:=by unfold YS;rw [show Uh K (.ref C) f=some none from n];rfl
structure Con (K:TH)(C:Addr)(f:Str)(v:V)(u:Value):Prop where
 at_:Uh K (.ref C) f=some (some u)
 rel:AG v u
 get:XU K u "__get__"=some none
 cp:PySem.W.copiedNames.contains f=false
structure IK (K:TH)(C:Addr)(m:Str)(f:Addr):Prop where
 at_:Uh K (.ref C) m=some (some (.ref f))
 fn:Wg K (.ref f)=true
 kp:U5 K (.ref f)=true
section
variable {X:Cx}{pins:List (Addr×Obj)}{σ:St}{H:Hp}{s:TF}{a C dx:Addr}{fs:List (Str×V)}{f:Str}{v:V}{A:Ub}{E:Value->TF->Prop}
theorem Oo {b:Bool}{Q:Value->TF->Prop}(I:Ae X pins σ H s)(e:H a=some (.ins C dx fs))(c:Cm X.K C)(n:BC X.K C f)(l:fs.lookup f=some v)(h:∀ u B,Ae X pins σ H B->AG v u->Q u B):TL (TQ X.prog X.w) A (getAttr (.ref a) f b) Q E s:=by obtain ⟨J,O,r,_,_,_⟩:=AF (IJ I.af e);obtain ⟨u,hu,D⟩:=Ao (CP.some_of (v:=v) (o:=J f) (by rw [<- l];exact r f));exact Aa5 I.aN O (c.get f) c.hd n hu (Aa9 D) (h u _ (I.tok _) D)
theorem IL {m:Str}{g:Addr}{pl:Sem Bool}{Q:Value×List Value->TF->Prop}(I:Ae X pins σ H s)(e:H a=some (.ins C dx fs))(c:Cm X.K C)(k:IK X.K C m g)(l:fs.lookup m=none)(h:Q (.ref g,[.ref a]) s):TL (TQ X.prog X.w) A (V1 (.ref a) m pl) Q E s:=by obtain ⟨B,O,r,_,_,_⟩:=AF (IJ I.af e);have D:B m=none:=CP.none_of (by rw [<- l];exact r m);exact Aa6 I.aN O (c.get m) k.at_ k.fn D h
theorem Oq {y:V}{u:Value}{Q:Unit->TF->Prop}(I:Ae X pins σ H s)(e:H a=some (.ins C dx fs))(c:Cm X.K C)(n:BC X.K C f)(hl:fs.length<1000)(ry:AG y u)(h:∀ D,Ae X pins σ (upd H a (.ins C dx (An f y fs))) D->Q () D):TL (TQ X.prog X.w) A (setAttr (.ref a) f u) Q E s:=by
 obtain ⟨J,O,r,L,_,Y⟩:=AF (IJ I.af e);have hz:(fs.map (·.1)).length<=sizeLine:=by rw [TU,TY];omega
 refine Aa7 I.aN O c.sa c.po n.aaf c.hd L hz λh' B sb=>h _ ?_;have hd:∃ o,h'.get? dx=some o:=let ⟨o,_,_,e',_⟩:=B.ns;⟨o,e'⟩;refine I.write (x:=a) (e:=dx) (by rw [e];exact Vl) (.inr Y) (λb q hb z=>(sb.2 b hb).trans z) hd ?_;refine ⟨by rw [Ap O.ne];exact Y,?_,O.ne,B.obj,_,B.ns,λg=>?_,λg hg=>?_⟩
 .have:=Om f y fs;omega
 .show CP ((An f y fs).lookup g) (if g=f then some u else J g);rw [Ol];by_cases q:g=f
  .rw [if_pos q,if_pos q];exact ry
  .rw [if_neg q,if_neg q];exact r g
 .by_cases q:g=f
  .rw [q];exact (KR f y fs).1
  .refine (KR f y fs).2 g (L g λz=>hg ?_);show (if g=f then some u else J g)=none;rw [if_neg q];exact z
theorem Ae.made (I:Ae X pins σ H s):Ae X pins σ (upd (upd H s.heap.objs.size (.own (s.heap.objs.size+1))) (s.heap.objs.size+1) (.ins C s.heap.objs.size []))
  { s with heap:=(s.heap.push V2).push (Wa C s.heap.objs.size) }:=by
 have B:(s.heap.push V2).get? s.heap.objs.size=some V2:=U2 s.heap rfl;have D:((s.heap.push V2).push (Wa C s.heap.objs.size)).get? (s.heap.objs.size+1)=some (Wa C s.heap.objs.size):=by have:=U2 (s.heap.push V2) (o:=Wa C s.heap.objs.size) rfl;rwa [VG] at this
 have J:(s.heap.push V2).Ns s.heap.objs.size (λ_=>none):=⟨V2,#[],_,B,rfl,(λe L=>absurd L (by simp)),λ_=>rfl⟩;have O:=I.laid (a:=s.heap.objs.size) (o:=.own (s.heap.objs.size+1)) (h':=s.heap.push V2) (t':=s.toks) (λb u q=>Ul _ q) (T3 _) ⟨_,B⟩;refine O.laid (a:=s.heap.objs.size+1) (o:=.ins C s.heap.objs.size []) (t':=s.toks) (λb u q=>Ul _ q) (Nat.le_of_eq (VG _ _)) ?_;have ne:s.heap.objs.size≠s.heap.objs.size+1:=Uq (Xq _);refine ⟨by rw [Ap ne,Ai],UH _,ne,D,λ_=>none,(Heap.Ns1.of_empty J).at λo q=>Ul _ q,λ_=>Vl,λy hy=>absurd rfl hy⟩
theorem Aba {prog:TV}{w:TM}{env:Env}{e:TN}{f:Str}{pos:Pos}{s:TF}{Q:Value->TF->Prop}(hb:Xr e f env (TZ e env)=TZ e env)(h:TL (TQ prog w) A (TZ e env) (λo B=>TL (TQ prog w) A (getAttr o f true) Q E B) E s):TL (TQ prog w) A (TZ (.Attribute e f pos) env) Q E s :=
 Attribute_any_ h (by rw [arm_eval_Attribute,hb])
end
def Abb (K:TH)(ta:TE)(f:Str):TE:=λσ H Q=>ta σ H λx H1=>∃ a C dx fs v,x=.ref a/\H1 a=some (.ins C dx fs)/\Cm K C/\BC K C f/\fs.lookup f=some v/\Q v H1
def Abd (K:TH)(ta tv:TE)(f:Str):TS:=λD σ H=>tv σ H λy H1=>ta σ H1 λx H2=>∃ a C dx fs,x=.ref a/\H2 a=some (.ins C dx fs)/\Cm K C/\BC K C f/\fs.length<1000 /\
 D.nx σ (upd H2 a (.ins C dx (An f y fs)))
def KS (X:Cx)(op:Xn)(rd:V->V->Hp->VK->Prop):Prop :=
 ∀(pins:List (Addr×Obj))(s:TF)(σ:St)(H:Hp)(x y:V)(u v:Value)(Q:VK),Ae X pins σ H s->AG x u->AG y v->rd x y H Q->TL (TQ X.prog X.w) X.A (inplaceOp op u v) (EP X pins σ Q) X.xe s
def Abe (K:TH)(ta tv:TE)(rd:V->V->Hp->VK->Prop)(f:Str):TS:=λD σ H=>ta σ H λx H1=>∃ a C dx fs v,x=.ref a/\H1 a=some (.ins C dx fs)/\Cm K C/\BC K C f/\fs.lookup f=some v /\
 tv σ H1 λy H2=>rd v y H2 λz H3=>∃ dx' eF,H3 a=some (.ins C dx' eF)/\eF.length<1000/\D.nx σ (upd H3 a (.ins C dx' (An f z eF)))
section
variable {X:Cx}{o e value:TN}{f:Str}{pos pos' jq:Pos}{ta tv:TE}
theorem Ax (B:PE X e ta)(hb:Xr e f X.env (TZ e X.env)=TZ e X.env):PE X (.Attribute e f pos) (Abb X.K ta f):=by intro pins s σ H Q I h;refine Aba hb (Am (B pins s σ H _ I h) λu s1 D=>AH D λx J L O ⟨a,C,dx,fs,v,ex,V,c,n,l,q⟩=>?_);subst ex;obtain rfl:u=Uz a:=O;exact Oo L V c n l λu' s2 Y ru=>⟨v,J,Y,ru,q⟩
theorem Bs (ha:PE X o ta)(hv:PE X value tv)(hs:WD value (some (.Attribute o f pos')) pos.line X.env=pure false):PS X (.Assign [.Attribute o f pos'] value pos) (Abd X.K ta tv f):=by intro pins s σ H D I h;refine plainObj_wpAny_Assign_Attribute (Am (hv pins s σ H _ I h) λu J B=>AH B λy L O V q=>Am (ha pins J σ L _ O q) λY s2 B=>AH B λx H2 I2 rx ⟨a,C,dx,fs,ex,ea,c,n,l,q2⟩=>?_) hs;subst ex;obtain rfl:Y=Uz a:=rx;exact Oq I2 ea c n l V λs3 I3=>⟨σ,_,I3,q2⟩
theorem Ot {O:Xn}{Y:V->V->Hp->VK->Prop}(ha:PE X o ta)(hv:PE X value tv)(J:KS X O Y):PS X (.AugAssign (.Attribute o f jq) O value pos) (Abe X.K ta tv Y f):=by intro pins s σ H D I h;refine wpAny_AugAssign_AttributeAny (Am (ha pins s σ H _ I h) λov s1 B=>AH B λx H1 I1 rx ⟨a,C,dx,fs,v,ex,ea,c,n,l,q⟩=>?_);subst ex;obtain rfl:ov=Uz a:=rx;refine Oo I1 ea c n l λu s2 I2 ru=>Am (hv pins s2 σ H1 _ I2 q) λw3 s3 B=>AH B λy H2 I3 ry q3=>Am (J pins s3 σ H2 v y u w3 _ I3 ru ry q3) λw4 s4 B=>AH B λz H3 I4 rz ⟨dx',eF,L,l',q4⟩=>?_;exact Oq I4 L c n l' rz λs5 I5=>⟨σ,_,I5,q4⟩
def Abf:V->V->Hp->VK->Prop:=λx y H Q=>∃ i j,x=.int i/\y=.int j/\Q (.int (i+j)) H
theorem Abg:KS X .Add Abf:=by rintro pins s σ H x y u v Q I D J ⟨i,j,rfl,rfl,q⟩;obtain ⟨t,rfl⟩:=(show ∃ t,u=U3 i t from D);obtain ⟨B,rfl⟩:=(show ∃ B,v=U3 j B from J);exact PyProof.Rows.iadd_int ⟨.int (i+j),H,I.tok _,⟨_,rfl⟩,q⟩
end
section
variable {X:Cx}{pins:List (Addr×Obj)}{σ:St}{H:Hp}{s:TF}{A:Ub}{E:Value->TF->Prop}{Q:Value->TF->Prop}{c:Value}{b:Bool}
inductive Dk (K:TH)(H:Hp):V->Value->Prop where
 | aa:Dk K H .aa (.type "NoneType")
 | bl (x:Bool):Dk K H (.bl x) (.type "bool")
 | int (i:Int):Dk K H (.int i) (.type "int")
 | str (x:Str):Dk K H (.str x) (.type "str")
 | fq (x:UInt64):Dk K H (.fq x) (.type "float")
 | lst {a:Addr} {xs:List V} (e:H a=some (.lst xs)):Dk K H (.ref a) (.type "list")
 | aL {a:Addr} {o:Obj} {xs:List V} (e:H a=some (.aL o (.lst xs))):Dk K H (.ref a) (.type "list")
 | tup {a:Addr} {xs:List V} (e:H a=some (.tup xs)):Dk K H (.ref a) (.type "tuple")
 | dK {a:Addr} {kvs:List (Av×V)} (e:H a=some (.dK kvs)):Dk K H (.ref a) (.type "dict")
 | dT {a:Addr} {kvs:List (List Av×V)} (e:H a=some (.dT kvs)):Dk K H (.ref a) (.type "dict")
 | ins {a C dx:Addr} {fs:List (Str×V)} (e:H a=some (.ins C dx fs)) (cl:Cm K C) (ha:Uh K (.ref C) "__class__"=some (some (.builtin "object.__class__")))
   (hn:XU K (.builtin "object.__class__") "__get__"=some (some (.builtin "getset_descriptor.__get__"))) (fA:PySem.W.takesIn K (.builtin "object.__class__")=some true)
   (hm:PySem.W.mroIn K C (.type "object")=some true):Dk K H (.ref a) (.ref C)
theorem Abh {x:V}{u t:Value}(I:Ae X pins σ H s)(B:AG x u)(ty:Dk X.K H x t)(e:Xs X.K t c=some b)(h:∀ tk,Q (.bool b) { s with toks:=tk }) :
  TL (TQ X.prog X.w) A (call (.builtin "isinstance") [u,c]) Q E s:=by
 cases ty with
 | aa=>cases (show u=Vc from B);exact Vz PySem.W.kitx_none I.aN Vl e (λz=>nomatch z) h
 | bl y=>cases (show u=Xh y from B);exact Vz PySem.W.kitx_bool I.aN Vl e (λz=>nomatch z) h
 | int i=>obtain ⟨t,q⟩:=(show ∃ t,u=U3 i t from B);cases q;exact Vz PySem.W.kitx_int I.aN Vl e (λz=>nomatch z) h
 | str y=>obtain ⟨t,q⟩:=(show ∃ t,u=UQ y t from B);cases q;exact Vz PySem.W.kitx_str I.aN Vl e (λz=>nomatch z) h
 | fq y=>obtain ⟨t,q⟩:=(show ∃ t,u=YE y t from B);cases q;exact Vz PySem.W.kitx_float I.aN Vl e (λz=>nomatch z) h
 | @lst a xs D =>
  cases (show u=Uz a from B);obtain ⟨_,_,n,_,L⟩:=(show Bg X.prog X.w H s.heap a (.lst xs) from I.af a _ D);exact Vz Z6 I.aN ⟨_,L,rfl⟩ e (λz=>nomatch z) h
 | @aL a ob xs D =>
  cases (show u=Uz a from B);obtain ⟨_,_,_,n,_,L⟩:=AW ((show Bg X.prog X.w H s.heap a (.aL ob (.lst xs)) from I.af a _ D));exact Vz Z6 I.aN ⟨_,L,rfl⟩ e (λz=>nomatch z) h
 | @tup a xs D =>
  cases (show u=Uz a from B);obtain ⟨_,_,_,p⟩:=(show Bg X.prog X.w H s.heap a (.tup xs) from I.af a _ D);obtain ⟨o,L,h2,_⟩:=AF p;exact Vz PySem.W.kitx_tuple I.aN ⟨o,L,h2⟩ e (λz=>nomatch z) h
 | @dK a Y D =>
  cases (show u=Uz a from B);obtain ⟨_,_,vs,_,p⟩:=AW ((show Bg X.prog X.w H s.heap a (.dK Y) from I.af a _ D));obtain ⟨o,es,ep,L,h2,_⟩:=Dh p;exact Vz Z7 I.aN ⟨o,L,h2.1⟩ e (λz=>nomatch z) h
 | @dT a Y D =>
  cases (show u=Uz a from B);obtain ⟨_,_,xs,_,o,es,ep,L,h2,_⟩:=AW ((show Bg X.prog X.w H s.heap a (.dT Y) from I.af a _ D));exact Vz Z7 I.aN ⟨o,L,h2.1⟩ e (λz=>nomatch z) h
 | @ins a C dx fs D cl ha hn fA hm =>
  cases (show u=Uz a from B);obtain ⟨mA,O,_⟩:=Ao (IJ I.af D);obtain ⟨od,J,_⟩:=Ao O.look;exact Vz (PySem.W.kitx_own (cl.get _) cl.hd ha hn fA hm) I.aN J e (λz=>nomatch z) h
end
structure Bq (k:Nat)(A:Ub):Prop where
 hd:A.handled=none
 dp:A.depth+3 * k+5<recursionLimit
 un:A.units+16 * k+200<cLine
theorem Bq.mono {j k:Nat}{A:Ub}(r:Bq k A)(h:j<=k):Bq j A:=⟨r.hd,by have:=r.dp;omega,by have:=r.un;omega⟩
theorem Bq.d {j k:Nat}{A:Ub}(r:Bq k A)(h:j<=k:=by decide):Bq j A:=r.mono h
theorem Bq.deeper {k:Nat}{A:Ub}(r:Bq (k+1) A)(env:Env):Bq k (A.deeper env) :=
 ⟨r.hd,by have:=r.dp;show A.depth+1+3 * k+5<_;omega,by have:=r.un;show A.units+3+16 * k+200<_;omega⟩
theorem Abi {A:Ub}{C:Addr}{us:List Value}{B:List (Str×Value)}:(A.under (.builtin "type.__call__" ⟨.ref C :: us,B⟩)).depth=A.depth+1:=by first | rfl | simp [YU,Code.weight,Code.isCreation,Code.isGuard,Code.isCaller,Code.frames,YV,guardIds]
theorem Abj {A:Ub}{C:Addr}{us:List Value}{B:List (Str×Value)}:(A.under (.builtin "type.__call__" ⟨.ref C :: us,B⟩)).units=A.units+1:=by first | rfl | simp [YU,Code.cUnits,Code.frames,YV]
theorem Bq.make {k:Nat}{A:Ub}(r:Bq (k+1) A)(C:Addr)(us:List Value)(B:List (Str×Value)):Bq k (A.under (.builtin "type.__call__" ⟨.ref C :: us,B⟩)) :=
 ⟨r.hd,by have:=r.dp;rw [Abi];omega,by have:=r.un;rw [Abj];omega⟩
theorem Bq.depth {k:Nat}{A:Ub}(r:Bq k A):A.depth<recursionLimit:=by have:=r.dp;omega
theorem Bq.units {k:Nat}{A:Ub}(r:Bq k A):A.units+64<cLine:=by have:=r.un;omega
def BJ:TA:=λ_ H Q=>Q [] H
def Abk (ta:TE)(tr:TA):TA:=λσ H Q=>ta σ H λx H1=>tr σ H1 λxs H2=>Q (x :: xs) H2
section
variable {X:Cx}{e:TN}{es:List TN}{te:TE}{t:TA}{pos:Pos}
theorem Af:PA X [] BJ:=λ_ _ _ _ H Q I h=>Calls.spliced_nil ⟨[],H,I,.nil,h⟩
theorem Ac (ha:PE X e te)(D:PA X es t)(hs:T2 (e :: es) X.env=(false,TZ e X.env) :: T2 es X.env:=by rfl):PA X (e :: es) (Abk te t):=by intro pos pins s σ H Q I h;rw [hs];show TL _ _ (spliced ((false,TZ e X.env) :: UA pos (T2 es X.env))) _ _ s;refine Calls.spliced_cons (Am (ha pins s σ H _ I h) λu J B=>AH B λx L O V Y=>?_);exact Am (D pos pins J σ L _ O Y) λus s2 B=>AH B λxs H2 I2 r2 q2=>⟨x :: xs,H2,I2,.cons V r2,q2⟩
def Abl (t:TA):TE:=λσ H Q=>t σ H λxs H1=>xs.length<=sizeLine/\∀ p,H1 p=none->Q (.ref p) (upd H1 p (.tup xs))
def Abm (t:TA):TE:=λσ H Q=>t σ H λxs H1=>xs.length<=sizeLine/\∀ p,H1 p=none->Q (.ref p) (upd H1 p (.lst xs))
theorem BE {x1} (h:PA X es t):PE X (.Tuple es x1 pos) (Abl t):=by intro pins s σ H Q I hq;refine wpAny_Tuple_spliced (Am (h pos pins s σ H _ I hq) λL B O=>GH O λV D J r z q=>⟨by rw [<- r.length];exact z,?_⟩);have Y:D B.heap.objs.size=none:=J.af.fresh (T3 _);refine ⟨.ref B.heap.objs.size,upd D B.heap.objs.size (.tup V),J.laid (t':=B.toks) (λb u e=>Ul _ e) (T3 _) ?_,rfl,q _ Y⟩;exact ⟨z,L,r,⟨_,U2 _ rfl,rfl,_,rfl⟩⟩
theorem Bn (h:PA X es t):PE X (.List es pos) (Abm t):=by intro pins s σ H Q I hq;refine wpAny_List_spliced (Am (h pos pins s σ H _ I hq) λL B O=>GH O λV D J r z q=>⟨by rw [<- r.length];exact z,?_⟩);have Y:D B.heap.objs.size=none:=J.af.fresh (T3 _);refine ⟨.ref B.heap.objs.size,upd D B.heap.objs.size (.lst V),J.laid (t':=B.toks) (λb u e=>Ul _ e) (T3 _) ?_,rfl,q _ Y⟩;exact ⟨z,L,0,r,U2 _ rfl⟩
end
abbrev Sp:=List V->Hp->VK->XK->Prop
abbrev B4:=List Env->Hp->TF->XK->Value->TF->Prop
structure Ft (P:TV)(w:TM)(K:TH)(mg:Str->Option Value)(base:Heap)(A:Ub)(outer:List Env)(s:TF)(H:Hp):Prop where
 frames:A.frames=some outer
 mod:Mod K mg base
 bs:∀ b o,base.get? b=some o->s.heap.get? b=some o/\H b=none
 dG:base.objs.size<=s.heap.objs.size
 cq:s.heap.FunFrames base outer
 eK:∀ b∈Cu outer,H b=none
 af:AM P w H s.heap
 bare:VL s.gens
def CE (outer:List Env)(P:TV)(w:TM)(H:Hp)(s:TF)(Q:VK)(u:Value)(s':TF):Prop :=
 ∃ v H',s'.os=s.os/\VL s'.gens/\Un (Cu outer) [] H H' s.heap s'.heap/\AM P w H' s'.heap/\AG v u/\Q v H'
def CR (CX:B4)(outer:List Env)(P:TV)(w:TM)(H:Hp)(s:TF)(Q:VK)(E:XK)(r:WK)(s':TF):Prop :=
 match r with
 | .ok (.ret u)=>CE outer P w H s Q u s'
 | .ok _=>False
 | .error e=>CX outer H s E e s'
structure AE (P:TV)(w:TM)(K:TH)(mg:Str->Option Value)(base:Heap)(CX:B4)(k:Nat)(f:Addr)(fd:T5)(ps:List Str)(sp:Sp):Prop where
 len:∀ vs H Q E,sp vs H Q E->vs.length=ps.length
 run:∀(A:Ub)(outer:List Env)(s:TF)(H:Hp)(args:Args)(us:List Value)(vs:List V)(Q:VK)(E:XK),Bq k A->Ft P w K mg base A outer s H->WM s fd args (ps.zip us)->As vs us->sp vs H Q E ->
  U8 (TQ P w) A (.call (.ref f) args) (CR CX outer P w H s Q E) s
theorem AE.mono {P:TV}{w:TM}{K:TH}{mg:Str->Option Value}{base:Heap}{CX:B4}{j k:Nat}{f:Addr}{B:T5}{ps:List Str}{sp:Sp}(F:AE P w K mg base CX j f B ps sp)(h:j<=k) :
  AE P w K mg base CX k f B ps sp:=⟨F.len,λA outer s H args D vs Q E I=>F.run A outer s H args D vs Q E (I.mono h)⟩
theorem Ft.make {P:TV}{w:TM}{K:TH}{mg:Str->Option Value}{base:Heap}{A:Ub}{outer:List Env}{s:TF}{H:Hp}(e:Ft P w K mg base A outer s H)(C:Addr)(us:List Value)(B:List (Str×Value)) :
  Ft P w K mg base (A.under (.builtin "type.__call__" ⟨.ref C :: us,B⟩)) outer s H:=⟨by first | exact e.frames | (simpa [YU,Code.envs,YV,pushEnvs] using e.frames),e.mod,e.bs,e.dG,e.cq,e.eK,e.af,e.bare⟩
section
variable {X:Cx}{pins:List (Addr×Obj)}{σ:St}{H:Hp}{s s':TF}
theorem Ae.oI (I:Ae X pins σ H s):Ft X.prog X.w X.K X.mg X.base X.A X.stack s H :=
 ⟨I.ok.frames,I.ok.mod,I.bs,UM I.ok.dG I.sz,I.stack,I.kh,I.af,I.bare⟩
theorem Ae.after {Q:VK}{u:Value}(I:Ae X pins σ H s)(h:CE X.stack X.prog X.w H s Q u s'):EP X pins σ Q u s':=by obtain ⟨v,D,os,B,un,J,r,q⟩:=GI h;obtain ⟨L,g,d,t,O⟩:=s';obtain rfl:O=s.os:=os;exact ⟨v,D,I.call (h':=L) (g':=g) (d':=d) (t':=t) (ch:=[]) un J B (λb z=>absurd z (by simp)),r,q⟩
end
def IM (sp:Sp)(dvs:List V)(E:XK)(t:TA):TE:=λσ H Q=>t σ H λvs H1=>sp (vs++dvs) H1 Q E
def IP (C:Addr)(m:Str)(sp:Sp)(dvs:List V)(E:XK)(ta:TE)(t:TA):TE:=λσ H Q=>ta σ H λx H1=>∃ a dx fs,x=.ref a/\H1 a=some (.ins C dx fs)/\fs.lookup m=none /\
 t σ H1 λvs H2=>sp (x :: (vs++dvs)) H2 Q E
def Ou (C:Addr)(sp:Sp)(dvs:List V)(E:XK)(t:TA):TE:=λσ H Q=>t σ H λvs H1=>∀ x dx,H1 x=none->H1 dx=none->dx≠x ->
 sp (.ref x :: (vs++dvs)) (upd (upd H1 dx (.own x)) x (.ins C dx [])) (λv H2=>v=.aa/\Q (.ref x) H2) E
def C3 (K:TH)(fd:T5)(ps:List Str)(ds:List Value):Prop :=
 ∀(s:TF)(us:List Value),K.In s.heap->(us++ds).length=ps.length->WM s fd ⟨us,[]⟩ (ps.zip (us++ds))
theorem C3.all {K:TH}{B:T5}{ps:List Str}(h:∀ us:List Value,us.length=ps.length->bindArgs B ⟨us,[]⟩=pure (ps.zip us)):C3 K B ps []:=λs us _ D=>by
 rw [V3] at D ⊢;exact .of_eq (h us D)
def CB (CX:B4)(X:Cx)(E:XK):Prop:=∀(pins:List (Addr×Obj))(σ:St)(H:Hp)(s:TF)(e:Value)(s':TF),Ae X pins σ H s->CX X.stack H s E e s'->X.xe e s'
section
variable {X:Cx}{CX:B4}{k:Nat}{f C:Addr}{fd:T5}{ps:List Str}{sp:Sp}{dvs:List V}{ds:List Value}{E:XK}{x m:Str}{p pos apos:Pos}{e o:TN}{es:List TN}{ta:TE}{t:TA}
theorem F4 {pins:List (Addr×Obj)}{σ:St}{H:Hp}{s:TF}{Q:VK}{us:List Value}{vs:List V}(F:AE X.prog X.w X.K X.mg X.base CX k f fd ps sp)(D:Bq k X.A)(hb:C3 X.K fd ps ds)(hd:As dvs ds)(hx:CB CX X E)(I:Ae X pins σ H s)(r:As vs us)(h:sp (vs++dvs) H Q E):TL (TQ X.prog X.w) X.A (call (.ref f) us) (EP X pins σ Q) X.xe s:=by
 have B:As (vs++dvs) (us++ds):=r.append hd;have J:(us++ds).length=ps.length:=by rw [<- B.length];exact F.len _ _ _ _ h
 refine YW (W3 (F.run X.A X.stack s H ⟨us,[]⟩ (us++ds) (vs++dvs) Q E D I.oI (hb s us I.aN J) B h) λr L hq=>?_);cases r with
 | error e=>exact hx pins σ H s e L I hq
 | ok O =>
  cases O with
  | ret u=>exact I.after hq
  | next=>exact Vr hq
  | brk=>exact Vr hq
  | cont=>exact Vr hq
theorem Abn (F:AE X.prog X.w X.K X.mg X.base CX k f fd ps sp)(D:Bq k X.A)(J:Gl X x)(L:X.mg x=some (.ref f))(hk:U5 X.K (.ref f)=true)(hb:C3 X.K fd ps ds)(hd:As dvs ds)(hx:CB CX X E)(ha:PA X (e :: es) t)(O:(x == ("__debug__":Str))=false:=by decide)(Y:T2 (e :: es) X.env=(false,TZ e X.env) :: T2 es X.env:=by rfl)(aV:(UA pos (T2 es X.env)).any (·.1)=false:=by rfl) :
  PE X (.Call (.Name x p) (e :: es) [] pos) (IM sp dvs E t):=by
 intro pins s σ H Q I h;refine XW (Iy I J L ?_ O);refine Xt (h₀:=X.base) I.ok.mod.eI hk (Am (ha pos pins s σ H _ I h) λus s1 zz=>AH zz λvs H1 B r q=>⟨B.aN,?_⟩) Y aV;exact F4 F D hb hd hx B r q
theorem Abo {pl:Sem Bool}(he:PE X o ta)(c:Cm X.K C)(D:IK X.K C m f)(F:AE X.prog X.w X.K X.mg X.base CX k f fd ps sp)(hr:Bq k X.A)(hb:C3 X.K fd ps ds)(hd:As dvs ds)(hx:CB CX X E)(ha:PA X (e :: es) t)(aU:T2 (e :: es) X.env=(false,TZ e X.env) :: T2 es X.env:=by rfl)(aV:(UA pos (T2 es X.env)).any (·.1)=false:=by rfl)(ht:TZ (.Call (.Attribute o m apos) (e :: es) [] pos) X.env=(do
   let J <- TZ o X.env
   Vq apos.atName
   let (f,first) <- Vj [J] (V1 J m pl)
   WN pos f first (UA pos (T2 (e :: es) X.env)) (VM pos (VN [] X.env))):=by rfl) :
  PE X (.Call (.Attribute o m apos) (e :: es) [] pos) (IP C m sp dvs E ta t):=by
 intro pins s σ H Q I h;refine Xu (pl:=pl) (Am (he pins s σ H _ I h) λu s1 B=>AH B λx H1 L rx ⟨a,dx,fs,ex,ea,l,q⟩=>?_) ht;subst ex;obtain rfl:u=Uz a:=rx;refine IL L ea c D l ?_;refine Xt (first:=[.ref a]) (h₀:=X.base) I.ok.mod.eI D.kp (Am (ha pos pins s1 σ H1 _ L q) λO s2 B=>AH B λvs H2 Y r q2=>⟨Y.aN,?_⟩) aU aV;exact F4 (us:=.ref a :: O) (vs:=.ref a :: vs) F hr hb hd hx Y (.cons rfl r) q2
theorem Abp {pl:Sem Bool}(L:PE X o ta)(c:Cm X.K C)(D:IK X.K C m f)(F:AE X.prog X.w X.K X.mg X.base CX k f fd ps sp)(O:Bq k X.A)(hb:C3 X.K fd ps ds)(hd:As dvs ds)(hx:CB CX X E)(Y:TZ (.Call (.Attribute o m apos) [] [] pos) X.env=(do
   let J <- TZ o X.env
   Vq apos.atName
   let (f,first) <- Vj [J] (V1 J m pl)
   WN pos f first (UA pos (T2 [] X.env)) (VM pos (VN [] X.env))):=by rfl) :
  PE X (.Call (.Attribute o m apos) [] [] pos) (IP C m sp dvs E ta BJ):=by
 intro pins s σ H Q I h;refine Xu (pl:=pl) (Am (L pins s σ H _ I h) λu s1 zz=>AH zz λx H1 B rx ⟨a,dx,fs,ex,ea,l,q⟩=>?_) Y;subst ex;obtain rfl:u=Uz a:=rx;refine IL B ea c D l ?_;exact Z8 (first:=[.ref a]) B.aN D.kp (F4 (us:=[.ref a]) (vs:=[.ref a]) F O hb hd hx B (.cons rfl .nil) q)
structure Mk (K:TH)(C f:Addr):Prop where
 makes:Wh K C=true
 init:Uh K (.ref C) "__init__"=some (some (.ref f))
 fn:Wg K (.ref f)=true
 kp:U5 K (.ref C)=true
theorem Abq {pins:List (Addr×Obj)}{σ:St}{H:Hp}{s:TF}{Q:VK}{us:List Value}{vs:List V}(M:Mk X.K C f)(F:AE X.prog X.w X.K X.mg X.base CX k f fd ps sp)(L:Bq (k+1) X.A)(hb:C3 X.K fd ps ds)(hd:As dvs ds)(hx:CB CX X E)(I:Ae X pins σ H s)(r:As vs us)(h:∀ x dx,H x=none->H dx=none->dx≠x->sp (.ref x :: (vs++dvs)) (upd (upd H dx (.own x)) x (.ins C dx [])) (λv O=>v=.aa/\Q (.ref x) O) E) :
  TL (TQ X.prog X.w) X.A (call (.ref C) us) (EP X pins σ Q) X.xe s:=by
 have hq:=h (s.heap.objs.size+1) s.heap.objs.size (I.af.fresh (U9 _)) (I.af.fresh (T3 _)) (Uq (Xq _));have D:=Ae.made (C:=C) I;have J:As (V.ref (s.heap.objs.size+1) :: (vs++dvs)) (Uz (s.heap.objs.size+1) :: (us++ds)):=.cons rfl (r.append hd);have Y:(Uz (s.heap.objs.size+1) :: us++ds).length=ps.length:=by have e:=J.length;rw [F.len _ _ _ _ hq] at e;exact e.symm
 refine YW (Aa8 (f:=f) I.aN M.makes M.init (beq_iff_eq.mp M.fn) (W3 (F.run _ X.stack _ _ ⟨Uz (s.heap.objs.size+1) :: us,[]⟩ (Uz (s.heap.objs.size+1) :: (us++ds)) _ _ E (L.make C us [])
  (D.oI.make C us []) (hb _ (Uz (s.heap.objs.size+1) :: us) D.aN Y) J hq) λr s' B=>?_))
 cases r with
 | error e=>exact hx pins σ _ _ e s' D B
 | ok fl =>
  cases fl with
  | ret u =>
   obtain ⟨v,H',I3,rv,ev,q3⟩:=Bk (D.after B);subst ev;exact ⟨rv,⟨V.ref (s.heap.objs.size+1),H',I3,rfl,q3⟩⟩
  | next=>exact Vr B
  | brk=>exact Vr B
  | cont=>exact Vr B
theorem Abr (M:Mk X.K C f)(F:AE X.prog X.w X.K X.mg X.base CX k f fd ps sp)(D:Bq (k+1) X.A)(J:Gl X x)(L:X.mg x=some (.ref C))(hb:C3 X.K fd ps ds)(hd:As dvs ds)(hx:CB CX X E)(ha:PA X (e :: es) t)(O:(x == ("__debug__":Str))=false:=by decide)(Y:T2 (e :: es) X.env=(false,TZ e X.env) :: T2 es X.env:=by rfl)(aV:(UA pos (T2 es X.env)).any (·.1)=false:=by rfl) :
  PE X (.Call (.Name x p) (e :: es) [] pos) (Ou C sp dvs E t):=by
 intro pins s σ H Q I h;refine XW (Iy I J L ?_ O);refine Xt (h₀:=X.base) I.ok.mod.eI M.kp (Am (ha pos pins s σ H _ I h) λus s1 zz=>AH zz λvs H1 B r q=>⟨B.aN,?_⟩) Y aV;exact Abq M F D hb hd hx B r q
end
section
variable {X:Cx}{CX:B4}{k:Nat}{f C:Addr}{fd:T5}{ps ks:List Str}{sp:Sp}{E:XK}{x m:Str}{p pos apos adM:Pos}{e o:TN}{es:List TN}{kws:List WO}{te ta:TE}{t tk:TA}{nm:Option Str}
structure Aiv (K:TH)(fd:T5)(ps ks:List Str)(g:List Value->List Value->List Value)(gV:List V->List V->List V):Prop where
 to:∀(s:TF)(us ws:List Value),K.In s.heap->(g us ws).length=ps.length->WM s fd ⟨us,ks.zip ws⟩ (ps.zip (g us ws))
 rel:∀{vs:List V}{us:List Value}{zs:List V}{ws:List Value},As vs us->As zs ws->As (gV vs zs) (g us ws)
variable {g:List Value->List Value->List Value}{gV:List V->List V->List V}
end
structure AR (N P:List Str)(sc:Scope):Prop where
 kind:sc.kind=.function
 co:sc.isCoroutine=false
 gen:sc.isGenerator=false
 nd:N.Nodup
 pre:N.take P.length=P
 par:∀ x∈P,sc.names.lookup x=some .local\/sc.names.lookup x=some .cell
 aag:∀ y∈sc.names,y.2≠.free
theorem Ov {kindOf:Str->Option Wi}{x:Str}:∀{binds:List (Str×Value)}{m:Str->Option Value},(∀ v,(x,v) ∉ binds)->Wj kindOf binds m x=m x
 | [],_,_=>rfl
 | (n,v) :: r,m,h=>by
  unfold Wj;rw [Ov λw hw=>h w (Uu _ hw)];split
  .have:x≠n:=by rintro rfl;exact h v UC
   simp [this]
  .rfl
theorem Ow {kindOf:Str->Option Wi}{x:Str}:∀{binds:List (Str×Value)}{m:Str->Option Value},(∀ v,(x,v) ∉ binds)->Wl kindOf binds m x=m x
 | [],_,_=>rfl
 | (n,v) :: r,m,h=>by
  unfold Wl;rw [Ow λw hw=>h w (Uu _ hw)];split
  .rfl
  .have:x≠n:=by rintro rfl;exact h v UC
   simp [this]
theorem Ox {kindOf:Str->Option Wi}{x:Str}{v:Value}:∀{P:List Str}{vs:List Value}{i:Nat}{m:Str->Option Value},P.Nodup->P[i]?=some x->vs[i]?=some v->kindOf x=some .local ->
  Wj kindOf (P.zip vs) m x=some v
 | [],_,_,_,_,h,_,_=>by simp at h
 | _ :: _,[],_,_,_,_,h,_=>by simp at h
 | p :: P,w :: vs,0,m,nd,h1,h2,hk=>by
  simp at h1 h2;subst h1;subst h2;show Wj kindOf ((p,w) :: P.zip vs) m p=_;unfold Wj;rw [Ov λv hv=>(Uv.mp nd).1 (YX hv).1,if_pos hk];simp
 | p :: P,w :: vs,i+1,m,nd,h1,h2,hk=>by
  show Wj kindOf ((p,w) :: P.zip vs) m x=_;unfold Wj;exact Ox (i:=i) (Uv.mp nd).2 (by simpa using h1) (by simpa using h2) hk
theorem Oy {kindOf:Str->Option Wi}{x:Str}{v:Value}:∀{P:List Str}{vs:List Value}{i:Nat}{m:Str->Option Value},P.Nodup->P[i]?=some x->vs[i]?=some v->kindOf x≠some .local ->
  Wl kindOf (P.zip vs) m x=some v
 | [],_,_,_,_,h,_,_=>by simp at h
 | _ :: _,[],_,_,_,_,h,_=>by simp at h
 | p :: P,w :: vs,0,m,nd,h1,h2,hk=>by
  simp at h1 h2;subst h1;subst h2;show Wl kindOf ((p,w) :: P.zip vs) m p=_;unfold Wl;rw [Ow λv hv=>(Uv.mp nd).1 (YX hv).1,if_neg hk];simp
 | p :: P,w :: vs,i+1,m,nd,h1,h2,hk=>by
  show Wl kindOf ((p,w) :: P.zip vs) m x=_;unfold Wl;exact Oy (i:=i) (Uv.mp nd).2 (by simpa using h1) (by simpa using h2) hk
noncomputable def AQ (N:List Str)(vs:List V):St:=vs.map some++TX (N.length - vs.length) none
noncomputable def CL (CX:B4)(P:TV)(w:TM)(K:TH)(mg:Str->Option Value)(base:Heap)(N:List Str)(qual:Str)(scope:Scope)(f:Addr)(cd:Value)(A:Ub)(outer:List Env)(s:TF)(H:Hp)(E:XK):Cx where
 prog:=P
 w:=w
 K:=K
 mg:=mg
 base:=base
 A:=A.deeper (VO qual scope s.heap.objs.size f cd)
 N:=N
 s₀:=s
 H₀:=H
 env:=VO qual scope s.heap.objs.size f cd
 outer:=outer
 stack:=VO qual scope s.heap.objs.size f cd :: outer
 ex:=[]
 calm:=true
 fn:=λ_=>true
 pn:=[]
 xe:=λe s'=>TL (TQ P w) (A.deeper (VO qual scope s.heap.objs.size f cd)) (leaving (VO qual scope s.heap.objs.size f cd) e) (λ_ aO=>CX outer H s E e aO) (λe' aO=>CX outer H s E e' aO) s'
theorem Oz {sc:Scope}{n:Nat}{x:Str}(h:sc.names.lookup x=some .cell):∃ c,(YY n sc.names []).lookup x=some c:=by have q:=Z9 sc.names n [] (.inl h);exact YZ.mp q
theorem Abs {CX:B4}{P:TV}{w:TM}{K:TH}{mg:Str->Option Value}{base:Heap}{N ps:List Str}{D:Str}{B:Scope}{f:Addr}{O:Value}{A:Ub}{outer:List Env}{s s1:TF}{H:Hp}{E:XK}{us:List Value}{vs:List V}(S:AR N ps B)(hd:A.handled=none)(J:Ft P w K mg base A outer s H)(hl:vs.length=ps.length)(r:As vs us)(x:InCallC s s.heap.objs.size (Wj (VO D B s.heap.objs.size f O).kindOf (ps.zip us) λ_=>none) (YY (s.heap.objs.size+1) B.names []) (Wl (VO D B s.heap.objs.size f O).kindOf (ps.zip us) λ_=>none) s1) :
  Ae (CL CX P w K mg base N D B f O A outer s H E) [] (AQ N vs) H s1:=by
 have aV:ps.length<=N.length:=by have:=congrArg WQ S.pre;rw [Vt] at this;omega
 obtain ⟨Y,tk,rfl,hk⟩:=Bp x.done;have g7:∀ b:Addr,b ∉ (CL CX P w K mg base N D B f O A outer s H E).ex:=λb z=>absurd (show b∈([]:List Addr) from z) (by simp);refine ⟨⟨J.mod,S.kind,rfl,rfl,T3 _,λy z c Y I=>?_,λy hy=>?_,λy c _ h=>?_,λ_=>hd,Around.frames_deeper J.frames,.inr ⟨rfl,rfl⟩,λb z=>absurd z (g7 b),J.bs,J.dG,λb _ _=>g7 b,λb z=>absurd z (g7 b),J.cq,J.eK⟩,
  rfl,J.bare,Un.kept hk,⟨_,x.toInCall.ns,λi y v Y I h3=>?_⟩,λy c h=>⟨_,x.cell y c h⟩,J.af.fresh (T3 _),λy c h=>?_,λp L=>absurd (show p∈([]:List (Addr×Obj)) from L) (by simp),J.af.kept hk,?_⟩
 .exact name_of_addr x.apart (VP Y) (VP I)
 .have hy:B.names.lookup y=some .cell\/B.names.lookup y=some .free:=hy;rcases hy with hy | hy
  .exact Oz hy
  .exact absurd rfl (S.aag _ (VP hy))
 .exact YI (x.above y c (VP h))
 .have hi:i<vs.length:=by
   unfold AQ at I;by_cases hi:i<vs.length
   .exact hi
   .rw [List.getElem?_append_right (by simpa using hi)] at I;rw [List.getElem?_replicate] at I;split at I<;>cases I
  have ha:vs[i]?=some v:=by
   unfold AQ at I;rw [tf (by simpa using hi),T7] at I;cases e:vs[i]? with
   | none=>rw [e] at I;cases I
   | some a=>rw [e] at I;cases I;rfl
  obtain ⟨u,hu,rv⟩:=Ao (r.get ha);have L:ps[i]?=some y:=by rw [<- S.pre,List.getElem?_take_of_lt (by omega)];exact Y
  have oJ:ps.Nodup:=by rw [<- S.pre];exact S.nd.sublist (List.take_sublist _ _)
  refine ⟨u,rv,?_⟩;rcases S.par y (Ue L) with k | k
  .exact .inl ⟨k,Ox oJ L hu k⟩
  .obtain ⟨c,e⟩:=Oz (n:=s.heap.objs.size+1) k;refine .inr ⟨.inl k,c,e,?_⟩;have q:=x.cell y c e;rw [Oy oJ L hu (by show B.names.lookup y≠_;rw [k];decide)] at q;exact q
 .exact J.af.fresh (YI (x.above y c (VP h)))
 .unfold AQ;show _=N.length;rw [UK,TU,UR];omega
theorem OA {CX:B4}{P:TV}{w:TM}{K:TH}{mg:Str->Option Value}{base:Heap}{k:Nat}{f:Addr}{name D:Str}{L:Arguments}{body:List Stmt}{B:Scope}{dV kV doc pm Y ct oc:Value}{an od:Option Addr}{dN:Array (Option Value)}{N ps:List Str}{sp:Sp}(lk:K.lookup f=some ⟨oc,od,.func (Vm name D L body B dV kV doc pm an Y ct),dN⟩)(cT:V4 K Y D=true)(S:AR N ps B)(len:∀ vs H Q E,sp vs H Q E->vs.length=ps.length)(hJ:∀ (A:Ub) (outer:List Env) (s:TF) (H:Hp) (vs:List V) (Q:VK) (E:XK),Bq k (A.deeper (VO D B s.heap.objs.size f Y))->sp vs H Q E ->
   ∃ t,CQ (CL CX P w K mg base N D B f Y A outer s H E) body t/\t { nx:=λ_ O=>Q .aa O,rt:=Q } (AQ N vs) H) :
  AE P w K mg base CX (k+1) f (Vm name D L body B dV kV doc pm an Y ct) ps sp:=by
 refine ⟨len,λA outer s H args us vs Q E hr e0 hb r dj=>?_⟩;have hl:=len _ _ _ _ dj;have KX:K.In s.heap:=e0.mod.eI.keeps λb o e=>(e0.bs b o e).1;have lim:s.heap.NoLimit:=e0.mod.nolimit.keeps λb o e=>(e0.bs b o e).1;have aah:∀ y∈ps.zip us,B.names.lookup y.1=some .local\/(B.names.lookup y.1=some .cell/\((YY (s.heap.objs.size+1) B.names []).lookup y.1).isSome=true):=λ⟨n,v⟩ hy=>by
  rcases S.par n (YX hy).1 with q | q
  .exact .inl q
  .exact .inr ⟨q,Z9 _ _ _ (.inl q)⟩
 refine codeAny_call_function hr.depth (KX _ _ lk) rfl S.co S.gen rfl (PySem.W.codeRec_of KX cT) (hb _ _ _ _ ?_);refine wpAny_newFunctionEnv_cells S.kind aah λenv he s1 x=>?_;subst he;refine ⟨lim.keeps x.toInCall.keep,codeAny_func ?_⟩;obtain ⟨t,ht,hq⟩:=Ao (hJ A outer s H vs Q E (hr.deeper _) dj);have I:Ae (CL CX P w K mg base N D B f Y A outer s H E) [] (AQ N vs) H s1:=Abs S hr.hd e0 hl r x;refine Vx (ht [] s1 (AQ N vs) H _ I hq) (λfl s' hs=>?_) λe s' hs=>hs;have fin:∀{σ':St}{O:Hp}{v:V}{u:Value},Ae (CL CX P w K mg base N D B f Y A outer s H E) [] σ' O s'->AG v u->Q v O->CE outer P w H s Q u s' :=
  λ{σ' O v u} J rv q=>⟨v,O,J.os,J.bare,J.base,J.af,rv,q⟩
 cases fl with
 | ret u =>
  obtain ⟨v,σ',O,J,rv,q⟩:=Dh hs;exact fin J rv q
 | next =>
  obtain ⟨σ',O,J,q⟩:=Bp hs;exact fin (v:=V.aa) (u:=Vc) J rfl q
 | brk =>
  obtain ⟨_,_,_,q⟩:=Bp hs;exact Vr q
 | cont =>
  obtain ⟨_,_,_,q⟩:=Bp hs;exact Vr q
section
variable {X:Cx}{x:Str}{p pos:Pos}{e:TN}{es:List TN}{t:TA}{id T:String}{r:List V->Hp->VK->Prop}
def IQ (r:List V->Hp->VK->Prop)(t:TA):TE:=λσ H Q=>t σ H λvs H1=>r vs H1 Q
theorem Abt (hc:BB X (.builtin id) r)(B:Gl X x)(D:X.mg x=none)(hv:U0 x=some (.builtin id))(ha:PA X (e :: es) t)(J:x≠"__name__":=by decide)(L:(x == ("__debug__":Str))=false:=by decide)(O:T2 (e :: es) X.env=(false,TZ e X.env) :: T2 es X.env:=by rfl)(Y:(UA pos (T2 es X.env)).any (·.1)=false:=by rfl):PE X (.Call (.Name x p) (e :: es) [] pos) (IQ r t):=by intro pins s σ H Q I h;refine XW (Fm I B D hv ?_ J L);exact PyProof.Rows.callWith_builtin1 (Am (ha pos pins s σ H _ I h) λus s1 zz=>AH zz λvs H1 I1 r1 q1=>hc pins s1 σ H1 vs us Q I1 r1 q1) O Y
theorem Abu (hc:BB X (.type T) r)(B:Gl X x)(D:X.mg x=none)(hv:U0 x=some (.type T))(ha:PA X (e :: es) t)(J:x≠"__name__":=by decide)(L:(x == ("__debug__":Str))=false:=by decide)(O:T2 (e :: es) X.env=(false,TZ e X.env) :: T2 es X.env:=by rfl)(Y:(UA pos (T2 es X.env)).any (·.1)=false:=by rfl):PE X (.Call (.Name x p) (e :: es) [] pos) (IQ r t):=by intro pins s σ H Q I h;refine XW (Fm I B D hv ?_ J L);exact Xp (Am (ha pos pins s σ H _ I h) λus s1 zz=>AH zz λvs H1 I1 r1 q1=>hc pins s1 σ H1 vs us Q I1 r1 q1) O Y
end
end L2
namespace HT
open PySem PyProof.Rows
section
open PySem.SeqAt
open PySem.AutoSeq1 (wpAny_loadPart')
open PySem.MeetsSeq PySem.MeetsSeq2 PySem.MeetsSeq3
end
section
variable {prog:TV}{w:TM}{A:Ub}{E:Value->TF->Prop}{s:TF}
noncomputable def aQ (n d:Nat):Option Int->Nat
 | none=>d
 | some v=>if v<0 then (v+(n:Int)).toNat else min v.toNat n
theorem oK (n d:Nat)(hd:d<=n)(o:Option Int):aQ n d o<=n:=by
 cases o with
 | none=>exact hd
 | some v =>
  show (if v<0 then (v+(n:Int)).toNat else min v.toNat n)<=n;by_cases hv:v<0
  .rw [if_pos hv];omega
  .rw [if_neg hv];exact Nat.min_le_right _ _
theorem aai (v:Int)(n d:Nat):(if v<0 then max (v+(n:Int)) 0 else min v (n:Int))=((aQ n d (some v):Nat):Int):=by
 show (if v<0 then max (v+(n:Int)) 0 else min v (n:Int))=(((if v<0 then (v+(n:Int)).toNat else min v.toNat n):Nat):Int);by_cases hv:v<0
 .simp only [if_pos hv];omega
 .simp only [if_neg hv];omega
end
end HT
namespace L2
open PySem PySem.Spec PyProof.Rows
abbrev TO:=St->Hp->(Option Int->Hp->Prop)->Prop
def PO (X:Cx)(e:Option TN)(t:TO):Prop :=
 ∀(pins:List (Addr×Obj))(s:TF)(σ:St)(H:Hp)(Q:Option Int->Hp->Prop),Ae X pins σ H s->t σ H Q ->
  TL (TQ X.prog X.w) X.A (evalPart e X.env) (λu s'=>∃ o H',Ae X pins σ H' s'/\IsPart u o/\Q o H') X.xe s
def Abv:TO:=λ_ H Q=>Q none H
def Abw (t:TE):TO:=λσ H Q=>t σ H λx H1=>∃ i,x=.int i/\Q (some i) H1
section
variable {X:Cx}{e:TN}{te:TE}{lo hi:Option TN}{tl th:TO}{pos p2:Pos}
theorem Abx:PO X none Abv:=by intro pins s σ H Q I h;rw [evalPart_none];exact T6 ⟨none,H,I,.none,h⟩
theorem Aby (h:PE X e te):PO X (some e) (Abw te):=by
 intro pins s σ H Q I hw;rw [evalPart_some];refine Am (h pins s σ H _ I hw) λu V D=>AH D λx J L O B=>?_;replace B:=Ao B;obtain ⟨i,rfl,q⟩:=B
 obtain ⟨t,rfl⟩:=O;exact ⟨some i,J,L,.int i t,q⟩
def EH (X:Cx)(r:V->Option Int->Option Int->Hp->VK->Prop):Prop :=
 ∀(pins:List (Addr×Obj))(s:TF)(σ:St)(H:Hp)(x:V)(v vl vu:Value)(lo hi:Option Int)(sl:Addr)(Q:VK),Ae X pins σ H s->AG x v->s.heap.IsSliceOf sl vl vu .none->IsPart vl lo->IsPart vu hi->r x lo hi H Q ->
  ∃ T id,typeLookup (.type T) "__getitem__"=pure (some (.builtin id))/\s.TypeIs v T/\TL (TQ X.prog X.w) X.A (W2 v (.ref sl)) (EP X pins σ Q) X.xe s
theorem EH.or {r B:V->Option Int->Option Int->Hp->VK->Prop}(h:EH X r)(h':EH X B):EH X (λx lo hi H Q=>r x lo hi H Q\/B x lo hi H Q):=by
 intro pins s σ H x v D J lo hi L Q I O hs pl Y q;rcases q with q | q
 .exact h pins s σ H x v D J lo hi L Q I O hs pl Y q
 .exact h' pins s σ H x v D J lo hi L Q I O hs pl Y q
def tSl (r:V->Option Int->Option Int->Hp->VK->Prop)(te:TE)(tl th:TO):TE:=λσ H Q=>te σ H λx H1=>tl σ H1 λl H2=>th σ H2 λu H3=>r x l u H3 Q
theorem Abz {r:V->Option Int->Option Int->Hp->VK->Prop}(Y:EH X r)(he:PE X e te)(hl:PO X lo tl)(hu:PO X hi th):PE X (.Subscript e (.Slice lo hi none p2) pos) (tSl r te tl th):=by intro pins s σ H Q I h;refine Y0 (Am (he pins s σ H _ I h) λv s1 D=>AH D λx H1 I1 r1 q1=>?_);refine wpAny_Slice (Am (hl pins s1 σ H1 _ I1 q1) λJ s2 D=>AH D λl H2 I2 pl q2=>Am (hu pins s2 σ H2 _ I2 q2) λL B D=>AH D λu O I3 pu q3=>?_);rw [evalPart_none];refine T6 ?_;have I4:Ae X pins σ O { B with heap:=B.heap.push { cls:=.type "slice",data:=.fields #[J,L,.none] } }:=I3.kept (t':=B.toks) λb ob q=>Ul _ q;obtain ⟨T,id,hT,ht,hg⟩:=Bk (Y pins { B with heap:=B.heap.push { cls:=.type "slice",data:=.fields #[J,L,.none] } } σ O x v J L l u B.heap.objs.size Q I4 r1 (Heap.IsSliceOf.new ..) pl pu q3);show TL (TQ X.prog X.w) X.A (Y1 e (.Slice lo hi none p2) v (.ref B.heap.objs.size)) (EP X pins σ Q) X.xe { B with heap:=B.heap.push { cls:=.type "slice",data:=.fields #[J,L,.none] } };exact tail_any (ops:=[.ref B.heap.objs.size,v]) ht hT hg (by with_unfolding_all rfl)
noncomputable def IS (xs:List V)(lo hi:Option Int):List V:=(xs.drop (HT.aQ xs.length 0 lo)).take (HT.aQ xs.length xs.length hi - HT.aQ xs.length 0 lo)
theorem AbA (xs:List V)(lo hi:Option Int):(IS xs lo hi).length<=xs.length:=by unfold IS;rw [Vt,tu];omega
end
noncomputable def DQ (n:Nat)(i:Int):Option Nat:=if 0<=i then (if i<n then some i.toNat else none) else if -(n:Int)<=i then some (i+n).toNat else none
noncomputable def BA {α:Type}(xs:List α)(i:Int):Option α:=(DQ xs.length i).bind λj=>xs[j]?
theorem OB {n:Nat}{i:Int}{j:Nat}(h:DQ n i=some j):XX i n=some j/\j<n/\-(n:Int)<=i/\i<n:=by
 unfold DQ at h;by_cases D:0<=i
 .rw [if_pos D] at h;by_cases B:i<n
  .rw [if_pos B] at h;have e:i.toNat=j:=Uk h;exact ⟨by rw [XY D B,e],by omega,by omega,B⟩
  .rw [if_neg B] at h;cases h
 .rw [if_neg D] at h;by_cases B:-(n:Int)<=i
  .rw [if_pos B] at h;have e:(i+n).toNat=j:=Uk h;exact ⟨by rw [Y2 (by omega) B,e],by omega,B,by omega⟩
  .rw [if_neg B] at h;cases h
theorem IT {α:Type}{xs:List α}{i:Int}{v:α}(h:BA xs i=some v):∃ j,XX i xs.length=some j/\xs[j]?=some v/\j<xs.length/\-(xs.length:Int)<=i/\i<xs.length:=by
 unfold BA at h;cases e:DQ xs.length i with
 | none=>rw [e] at h;cases h
 | some j =>
  rw [e] at h;obtain ⟨B,D,H,I⟩:=AW (OB e);exact ⟨j,B,h,D,H,I⟩
theorem EI {α:Type}{xs:List α}{j:Nat}{v:α}(h:xs[j]?=some v):BA xs (j:Int)=some v:=by
 have B:j<xs.length:=(Uy.mp h).1;have e:DQ xs.length (j:Int)=some j:=by unfold DQ;rw [if_pos (by omega),if_pos (by omega)];simp
 unfold BA;rw [e];exact h
def AbB (b:TN):Prop:=∀ o i,XZ b false o i=operate [o,i] (W2 o i)
def DR (X:Cx)(r:R2):Prop :=
 ∀(value slice:TN)(pins:List (Addr×Obj))(s:TF)(σ:St)(H:Hp)(x y:V)(v u:Value)(Q:VK),Ae X pins σ H s->AG x v->AG y u->r x y H Q ->
  XZ slice false v u=operate [v,u] (W2 v u)->TL (TQ X.prog X.w) X.A (Y1 value slice v u) (EP X pins σ Q) X.xe s
def MtR (X:Cx)(id:String)(r:V->List V->Hp->VK->Prop):Prop :=
 ∀(pins:List (Addr×Obj))(s:TF)(σ:St)(H:Hp)(x:V)(xs:List V)(v:Value)(us:List Value)(Q:VK),Ae X pins σ H s->AG x v->As xs us->r x xs H Q ->
  TL (TQ X.prog X.w) X.A (call (.builtin id) (v :: us)) (EP X pins σ Q) X.xe s
section
variable {X:Cx}{a b:TN}{ta tb:TE}{pos:Pos}
theorem DR.or {r B:R2}(h:DR X r)(h':DR X B):DR X (λx y H Q=>r x y H Q\/B x y H Q):=by
 intro value slice pins s σ H x y v u Q I D J q hs;rcases q with q | q
 .exact h value slice pins s σ H x y v u Q I D J q hs
 .exact h' value slice pins s σ H x y v u Q I D J q hs
theorem Bi {r:R2}(B:DR X r)(ha:PE X a ta)(hb:PE X b tb)(hs:AbB b):PE X (.Subscript a b pos) (ID r ta tb):=by intro pins s σ H Q I h;exact Y0 (KN ha hb I h λv u D x y J L O V q=>B a b pins D σ J x y v u Q L O V q (hs _ _))
def OC (K:TH):R2:=λx y H Q=>∃ p xs i v,x=.ref p/\y=.int i/\A7 K H p xs/\BA xs i=some v/\Q v H
def OD (K:TH):R2:=λx y H Q=>∃ p xs i v,x=.ref p/\y=.int i/\Bl K H p xs/\BA xs i=some v/\Q v H
def OE:R2:=λx y H Q=>∃ z i c,x=.str z/\y=.int i/\z.length<=sizeLine/\BA z.cps.toList i=some c/\Q (.str ⟨#[c]⟩) H
theorem AbC:DR X (OC X.K):=by
 intro value slice pins s σ H x y v u Q I V Y h hs;replace h:=Dp h;obtain ⟨p,xs,i,z,rfl,rfl,hq,he,q⟩:=h
 cases V;obtain ⟨t,rfl⟩:=Y;obtain ⟨its,r,pl,hz⟩:=AF (I.list hq);obtain ⟨j,D,h2,h3,h4,h5⟩:=AF (IT he);obtain ⟨w,L,bV⟩:=Ao (r.get h2);have hl:=r.length;have hn:=EG;have B:EP X pins σ Q w s:=⟨z,H,I,bV,q⟩;by_cases O:0<=i
 .have J:i.toNat=j:=by
   rw [XY O h5] at D;exact Uk D
  exact item_listR pl.isList O (by omega) (by rw [J];simpa using L) B hs
 .have J:(i+(its.toArray.size:Int)).toNat=j:=by
   rw [Y2 (by omega) h4] at D;rw [Uw,<- hl];exact Uk D
  exact tF (x:=w) pl.isList.typeIs tH.lookup
   (wpAny_getItem_list_neg (Q:=λr s'=>r=w/\EP X pins σ Q r s') pl.isList (by omega) (by rw [Uw]<;>omega) (by omega) (by rw [J];simpa using L) ⟨rfl,B⟩) hs
theorem AbD:DR X (OD X.K):=by
 intro value slice pins s σ H x y v u Q I D J h hs;replace h:=Dp h;obtain ⟨p,xs,i,z,rfl,rfl,hq,L,q⟩:=h
 cases D;obtain ⟨t,rfl⟩:=J;obtain ⟨its,r,pl,hz⟩:=AF (I.tuple hq);obtain ⟨j,O,V,h3,h4,h5⟩:=AF (IT L);obtain ⟨w,Y,bV⟩:=Ao (r.get V);have hl:=r.length;have hn:=EG;have B:EP X pins σ Q w s:=⟨z,H,I,bV,q⟩;exact tF (x:=w) pl.typeIs slot_tuple_getitem.lookup
  (getItem_tuple (j:=j) (Q:=λr s'=>r=w/\EP X pins σ Q r s') pl (by omega) (by omega) (by rw [Uw,<- hl];exact O) (by simpa using Y) ⟨rfl,B⟩) hs
theorem AbE:DR X OE:=by
 intro value slice pins s σ H x y v u Q I D J h hs;replace h:=F0 h;obtain ⟨z,i,c,rfl,rfl,hz,L,q⟩:=h
 obtain ⟨t,rfl⟩:=D;obtain ⟨t',rfl⟩:=J;obtain ⟨j,B,O,h3,V,Y⟩:=AF (IT L);have hl:z.cps.toList.length=z.length:=by simp [WR]
 rw [hl] at B V Y;have hn:=EG;exact tail_any (X5 s z t) slot_str_getitem.lookup (getItem_str (c:=c) (by
  have e1:decide (i < -(2 ^ 63:Int))=false:=decide_eq_false (by omega);have e2:decide (i ≥ 2 ^ 63)=false:=decide_eq_false (by omega);rw [e1,e2,Bool.or_false]) (by rw [B];simpa using O) ⟨.str ⟨#[c]⟩,H,I.tok _,⟨_,rfl⟩,q⟩) hs
def OF (K:TH):R2:=λx y H Q=>OC K x y H Q\/OD K x y H Q\/OE x y H Q
theorem Bx:DR X (OF X.K):=AbC.or (AbD.or AbE)
theorem AbF (its:List Value)(n j:Nat)(u:Value):Va (·.setIfInBounds j u) { cls:=.type "list",data:=.seq its.toArray n }={ cls:=.type "list",data:=.seq (its.set j u).toArray n }:=by simp [Va]
theorem Ae.lst {pins:List (Addr×Obj)}{σ:St}{H:Hp}{s:TF}{p:Addr}{xs:List V}(I:Ae X pins σ H s)(h:H p=some (.lst xs)) :
  ∃(its:List Value)(n:Nat),As xs its/\s.heap.get? p=some { cls:=.type "list",data:=.seq its.toArray n }/\xs.length<=sizeLine:=by
 obtain ⟨z,its,n,r,e⟩:=I.af p _ h;exact ⟨its,n,r,e,z⟩
theorem Ae.aaj {pins:List (Addr×Obj)}{σ:St}{H:Hp}{s:TF}{p:Addr}{xs ys:List V}{its its':List Value}{n B:Nat}{f:Obj->Obj}(I:Ae X pins σ H s)(h:H p=some (.lst xs))(J:s.heap.get? p=some { cls:=.type "list",data:=.seq its.toArray n })(D:f { cls:=.type "list",data:=.seq its.toArray n }={ cls:=.type "list",data:=.seq its'.toArray B })(r:As ys its')(L:ys.length<=sizeLine)(t:Nat) :
  Ae X pins σ (upd H p (.lst ys)) { s with heap:=s.heap.update p f,toks:=t }:=by
 have e:(s.heap.update p f).get? p=some { cls:=.type "list",data:=.seq its'.toArray B }:=by rw [Y3 f J (by rw [D]<;>rfl),D]
 refine I.write (x:=p) (e:=p) (by rw [h];trivial) (.inl rfl) (λb u hb q=>(tI _ _ (Uj hb)).trans q) ⟨_,e⟩ ?_;exact ⟨L,its',B,r,e⟩
def AbG:V->V->V->Hp->(Hp->Prop)->Prop:=λo i v H Q=>∃ p xs k j,o=.ref p/\i=.int k/\H p=some (.lst xs)/\DQ xs.length k=some j/\Q (upd H p (.lst (xs.set j v)))
theorem DS:KH X AbG:=by
 intro pins s σ H o i v ov iv u Q I ro ri rv h;replace h:=Dp h;obtain ⟨p,xs,k,j,rfl,rfl,L,hj,q⟩:=h
 cases ro;obtain ⟨t,rfl⟩:=ri;obtain ⟨its,n,r,D,hz⟩:=Bk (I.lst L);obtain ⟨B,h2,O,V⟩:=AW (OB hj);have J:=r.length;have hn:=EG;have Y:Ae X pins σ (upd H p (.lst (xs.set j v))) { s with heap:=s.heap.update p (Va (·.setIfInBounds j u)) } :=
  I.aaj L D (AbF its n j u) (r.set rv j) (by rw [Ud];exact hz) s.toks
 by_cases h0:0<=k
 .have hk:k.toNat=j:=by
   rw [XY h0 V] at B;exact Uk B
  exact PySem.W.ki_setAt D h0 (by omega) (by rw [Uw,<- J];exact V) (by rw [hk];exact ⟨_,Y,q⟩)
 .have hk:(k+(its.toArray.size:Int)).toNat=j:=by
   rw [Y2 (by omega) O] at B;rw [Uw,<- J];exact Uk B
  exact PySem.W.ki_setBack D (by omega) (by rw [Uw,<- J];exact O) (by omega) (by rw [hk];exact ⟨_,Y,q⟩)
theorem AbH (lo B:Option Int)(n:Nat):(WS lo B none n).1=((HT.aQ n 0 lo:Nat):Int)/\(WS lo B none n).2.1=((HT.aQ n n B:Nat):Int)/\(WS lo B none n).2.2=1:=by
 refine ⟨?_,?_,rfl⟩
 .cases lo with
  | none=>simp [WS,HT.aQ]
  | some i =>
   simp only [WS,HT.aQ,Y4,show (1:Int) > 0 by decide,if_true];by_cases h:i<0
   .simp only [h,if_true]<;>omega
   .simp only [h,if_false]<;>omega
 .cases B with
  | none=>simp [WS,HT.aQ]
  | some i =>
   simp only [WS,HT.aQ,Y4,show (1:Int) > 0 by decide,if_true];by_cases h:i<0
   .simp only [h,if_true]<;>omega
   .simp only [h,if_false]<;>omega
theorem AbI (its:List Value)(lo B:Option Int):slicePick its.toArray lo B none=((its.drop (HT.aQ its.length 0 lo)).take (HT.aQ its.length its.length B - HT.aQ its.length 0 lo)).toArray:=by obtain ⟨D,H,I⟩:=AW (AbH lo B its.toArray.size);unfold slicePick;rw [D,H,I];simp only [sliceRange_one,pick_run,Uw]<;>rfl
def OG (K:TH):V->Option Int->Option Int->Hp->VK->Prop:=λx lo hi H Q=>∃ a xs,x=.ref a/\A7 K H a xs/\∀ p,H p=none->Q (.ref p) (upd H p (.lst (IS xs lo hi)))
theorem AbJ:EH X (OG X.K):=by
 intro pins s σ H x v vl vu lo J sl Q I O hs pl V h;replace h:=Bk h;obtain ⟨a,B,rfl,hx,q⟩:=h
 cases O;obtain ⟨its,r,L,Y⟩:=AF (I.list hx);have D:=r.length;refine ⟨"list",_,tH.lookup,L.isList.typeIs,?_⟩;refine wpAny_getItem_list_slice L.isList hs pl V .none (by simp) ?_ (by rw [Uw]<;>omega);rw [AbI,<- D];refine ⟨.ref s.heap.objs.size,_,I.laid (t':=s.toks) (o:=.lst (IS B lo J)) (λb ob q=>Ul _ q) (T3 _) ?_,rfl,q _ (I.af.fresh (T3 _))⟩;exact ⟨UM (AbA B lo J) Y,_,0,(r.drop (HT.aQ B.length 0 lo)).take (HT.aQ B.length B.length J - HT.aQ B.length 0 lo),U2 _ rfl⟩
noncomputable def Ed:V->Bool
 | .aa=>true
 | .bl _=>true
 | .int _=>true
 | .str _=>true
 | _=>false
noncomputable def DT:V->V->Bool
 | .aa,.aa=>true
 | .bl a,.bl b=>a == b
 | .bl a,.int b=>(if a then 1 else 0) == b
 | .int a,.bl b=>a == (if b then 1 else 0)
 | .int a,.int b=>a == b
 | .str a,.str b=>a == b
 | _,_=>false
theorem AbK {A:Ub}{s:TF}{y x:V}{u v:Value}(H:AG y u)(B:AG x v)(J:Ed y=true)(I:Ed x=true):SeqAt.EqAt A s u v (DT y x):=by
 cases y with
 | aa =>
  cases H;cases x with
  | aa=>cases B;exact SeqAt.EqAt.same _
  | bl b=>cases B;exact SeqAt.EqAt.none_bool b
  | int b=>obtain ⟨t,rfl⟩:=B;exact SeqAt.EqAt.none_int b t
  | str b=>obtain ⟨t,rfl⟩:=B;exact SeqAt.EqAt.none_str b t
  | _=>exact absurd (show false=true from I) UG
 | bl a =>
  cases H;cases x with
  | aa=>cases B;exact SeqAt.EqAt.bool_none a
  | bl b=>cases B;exact SeqAt.EqAt.bool_bool a b
  | int b=>obtain ⟨t,rfl⟩:=B;exact SeqAt.EqAt.bool_int a b t
  | str b=>obtain ⟨t,rfl⟩:=B;exact SeqAt.EqAt.bool_str a b t
  | _=>exact absurd (show false=true from I) UG
 | int a =>
  obtain ⟨D,rfl⟩:=H;cases x with
  | aa=>cases B;exact SeqAt.EqAt.int_none a D
  | bl b=>cases B;exact SeqAt.EqAt.int_bool a D b
  | int b=>obtain ⟨t,rfl⟩:=B;exact SeqAt.EqAt.int_int a D b t
  | str b=>obtain ⟨t,rfl⟩:=B;exact ZW a D b t
  | _=>exact absurd (show false=true from I) UG
 | str a =>
  obtain ⟨D,rfl⟩:=H;cases x with
  | aa=>cases B;exact SeqAt.EqAt.str_none a D
  | bl b=>cases B;exact SeqAt.EqAt.str_bool a D b
  | int b=>obtain ⟨t,rfl⟩:=B;exact ZX a D b t
  | str b=>obtain ⟨t,rfl⟩:=B;exact SeqAt.EqAt.str_str a D b t
  | _=>exact absurd (show false=true from I) UG
 | _=>exact absurd (show false=true from J) UG
noncomputable def CT (x:V)(u:Value):Bool:=match u with
 | .none=>DT .aa x
 | .bool b=>DT (.bl b) x
 | .int i _=>DT (.int i) x
 | .str z _=>DT (.str z) x
 | _=>false
theorem OH {x y:V}{u:Value}(r:AG y u)(f:Ed y=true):CT x u=DT y x:=by
 cases y with
 | aa=>cases r;rfl
 | bl b=>cases r;rfl
 | int i=>obtain ⟨t,rfl⟩:=r;rfl
 | str z=>obtain ⟨t,rfl⟩:=r;rfl
 | _=>exact absurd (show false=true from f) UG
theorem GW {x:V}:∀{xs:List V}{us:List Value},As xs us->xs.all Ed=true->us.any (CT x)=xs.any λy=>DT y x
 | _,_,.nil,_=>rfl
 | y :: xs,u :: us,.cons r t,f=>by
  rw [List.all_cons,Vu] at f;rw [Xv,Xv,OH r f.1,GW t f.2]
theorem GX {A:Ub}{s:TF}{x:V}{v:Value}(B:AG x v)(D:Ed x=true):∀{xs:List V}{us:List Value},As xs us->xs.all Ed=true->∀ u∈us,SeqAt.EqAt A s u v (CT x u)
 | _,_,.nil,_=>λu hu=>by cases hu
 | y :: xs,u :: us,.cons r t,f=>λH hu=>by
  rw [List.all_cons,Vu] at f;rcases T8.mp hu with rfl | hu
  .rw [OH r f.1];exact AbK r B f.1 D
  .exact GX B D t f.2 H hu
def EJ (x:V)(xs:List V):Bool:=xs.any λy=>DT y x
def GY (K:TH)(neg:Bool):R2:=λx y H Q=>∃ p xs,y=.ref p/\(A7 K H p xs\/Bl K H p xs)/\Ed x=true/\xs.all Ed=true/\Q (.bl (if neg then !EJ x xs else EJ x xs)) H
theorem AbL:A8 X (UJ .In) (GY X.K false):=by
 intro pins s σ H x y v u Q I B J h;replace h:=GI h;obtain ⟨p,O,rfl,hq,D,fs,q⟩:=h
 cases J;rcases hq with hq | hq
 .obtain ⟨its,r,pl,L⟩:=AF (I.list hq);refine SeqAt.in_listAt (CT x) pl.isList (λw hw=>GX B D r fs w (by simpa using hw)) ⟨.bl _,H,I,rfl,?_⟩;rw [show its.toArray.any (CT x)=its.any (CT x) by simp,GW r fs];exact q
 .obtain ⟨its,r,pl,L⟩:=AF (I.tuple hq);refine SeqAt.in_tupleAt (CT x) pl (λw hw=>GX B D r fs w (by simpa using hw)) ⟨.bl _,H,I,rfl,?_⟩;rw [show its.toArray.any (CT x)=its.any (CT x) by simp,GW r fs];exact q
theorem AbM:A8 X (UJ .NotIn) (GY X.K true):=by
 intro pins s σ H x y v u Q I B J h;replace h:=GI h;obtain ⟨p,O,rfl,hq,D,fs,q⟩:=h
 cases J;rcases hq with hq | hq
 .obtain ⟨its,r,pl,L⟩:=AF (I.list hq);refine SeqAt.notIn_listAt (CT x) pl.isList (λw hw=>GX B D r fs w (by simpa using hw)) ⟨.bl _,H,I,rfl,?_⟩;rw [show its.toArray.any (CT x)=its.any (CT x) by simp,GW r fs];exact q
 .obtain ⟨its,r,pl,L⟩:=AF (I.tuple hq);refine SeqAt.notIn_tupleAt (CT x) pl (λw hw=>GX B D r fs w (by simpa using hw)) ⟨.bl _,H,I,rfl,?_⟩;rw [show its.toArray.any (CT x)=its.any (CT x) by simp,GW r fs];exact q
theorem AbN:A8 X (UJ .NotIn) (λx y H Q=>∃ i j,x=.str i/\y=.str j/\Q (.bl (!(!(YQ j i 0 j.length 1).isEmpty))) H):=by
 intro pins s σ H x y v u Q I B D h;replace h:=Bk h;obtain ⟨i,j,rfl,rfl,q⟩:=h
 obtain ⟨t,rfl⟩:=B;obtain ⟨J,rfl⟩:=D;exact notIn_str ⟨.bl _,H,I,rfl,q⟩
theorem AbO:BB X (.builtin "len") (λxs H Q=>∃ p ys,xs=[.ref p]/\(A7 X.K H p ys\/Bl X.K H p ys)/\Q (.int ys.length) H):=by
 intro pins s σ H xs O Q I r h;replace h:=Bk h;obtain ⟨p,ys,rfl,hq,q⟩:=h
 obtain ⟨u,rfl,J⟩:=Ao (CK r);cases J;have V:=EG;rcases hq with hq | hq
 .obtain ⟨its,D,pl,L⟩:=AF (I.list hq);have B:=D.length;exact Calls.call_len_list pl.isList (by simp only [Uw]<;>omega) ⟨.int ys.length,H,I.tok _,⟨s.toks+1,by rw [Uw,B]⟩,q⟩
 .obtain ⟨its,D,pl,L⟩:=AF (I.tuple hq);have B:=D.length;exact len_tuple pl (by simp only [Uw]<;>omega) ⟨.int ys.length,H,I.tok _,⟨s.toks+1,by rw [Uw,B]⟩,q⟩
theorem AbP:BB X (.builtin "len") (λxs H Q=>∃ z,xs=[.str z]/\z.length<=sizeLine/\Q (.int z.length) H):=by
 intro pins s σ H xs B Q I r h;replace h:=AF h;obtain ⟨z,rfl,D,q⟩:=h
 obtain ⟨u,rfl,t,rfl⟩:=Ao (CK r);have J:=EG;exact len_str (by omega) ⟨.int z.length,H,I.tok _,⟨_,rfl⟩,q⟩
theorem BB.or {f:Value}{r B:List V->Hp->VK->Prop}(h:BB X f r)(h':BB X f B):BB X f (λxs H Q=>r xs H Q\/B xs H Q):=by
 intro pins s σ H xs D Q I J q;rcases q with q | q
 .exact h pins s σ H xs D Q I J q
 .exact h' pins s σ H xs D Q I J q
theorem AbQ:BB X (.type "list") (λxs H Q=>∃ p ys,xs=[.ref p]/\(A7 X.K H p ys\/Bl X.K H p ys)/\∀ l,H l=none->Q (.ref l) (upd H l (.lst ys))):=by
 intro pins s σ H xs us Q I r h;replace h:=Bk h;obtain ⟨p,ys,rfl,hq,q⟩:=h
 obtain ⟨u,rfl,rx⟩:=Ao (CK r);cases rx;have L:∀(its:List Value),As ys its->ys.length<=sizeLine->∀(B:Heap)(D:Nat),(∀ b o',s.heap.get? b=some o'->B.get? b=some o') ->
   B.get? s.heap.objs.size=some { cls:=.type "list",dict:=none,data:=.seq its.toArray D,slots:=#[] }->EP X pins σ Q (.ref s.heap.objs.size) { s with heap:=B }:=λits J O B D V e =>
  ⟨.ref s.heap.objs.size,_,I.laid (t':=s.toks) V (T3 _) (show Bg X.prog X.w _ B _ (.lst ys) from ⟨O,its,D,J,e⟩),rfl,q _ (I.af.fresh (T3 _))⟩
 rcases hq with hq | hq
 .obtain ⟨its,J,pl,O⟩:=AF (I.list hq);have Y:=J.length;obtain ⟨o,ho,hc,n,hd⟩:=AF pl.isList;exact call_list_seq p (.inl rfl) ho hc hd (λB D V e=>L its J O B D V e) (by simp only [Uw]<;>omega)
 .obtain ⟨its,J,pl,O⟩:=AF (I.tuple hq);have Y:=J.length;obtain ⟨o,ho,hc,n,hd⟩:=AF pl;exact call_list_seq p (.inr rfl) ho hc hd (λB D V e=>L its J O B D V e) (by simp only [Uw]<;>omega)
theorem IU:BB X (.type "tuple") (λxs H Q=>∃ p ys,xs=[.ref p]/\((A7 X.K H p ys/\∀ l,H l=none->Q (.ref l) (upd H l (.tup ys)))\/(Bl X.K H p ys/\Q (.ref p) H))):=by
 intro pins s σ H xs us Q I r h;replace h:=Bp h;obtain ⟨p,ys,rfl,h⟩:=h
 obtain ⟨u,rfl,V⟩:=Ao (CK r);cases V;rcases h with ⟨hq,q⟩ | ⟨hq,q⟩
 .obtain ⟨its,D,pl,J⟩:=AF (I.list hq);have L:=D.length;refine call_tuple_list pl.isList (λB Y=>?_) (by simp only [Uw]<;>omega);have O:Ae X pins σ H { s with heap:=B }:=I.kept (t':=s.toks) Y;have I2:Ae X pins σ (upd H B.objs.size (.tup ys)) { s with heap:=B.push { cls:=.type "tuple",data:=.seq its.toArray } } :=
   O.laid (t':=s.toks) (λb o e=>Ul _ e) (T3 _) (show Bg X.prog X.w _ _ _ (.tup ys) from ⟨J,its,D,IsTup.new _ _⟩)
  exact ⟨.ref B.objs.size,_,I2,rfl,q _ (O.af.fresh (T3 _))⟩
 .obtain ⟨its,D,pl,J⟩:=AF (I.tuple hq);exact call_tuple_same pl ⟨.ref p,H,I,rfl,q⟩
def OI (K:TH)(T:String)(x:V)(H:Hp):Prop:=match x with
 | .str _=>T="str"
 | .int _=>T="int"
 | .ref p=>(T="list"/\∃ xs,A7 K H p xs)\/(T="tuple"/\∃ o,K.lookup p=some o/\o.cls=.type "tuple"/\o.dict=none) \/
   (T="dict"/\((∃ kvs,H p=some (.dK kvs))\/∃ kvs,H p=some (.dT kvs)))\/(T="set"/\∃ S n,H p=some (.set S n))
 | _=>False
theorem AbR {pins:List (Addr×Obj)}{σ:St}{H:Hp}{s:TF}{T:String}{x:V}{v:Value}(I:Ae X pins σ H s)(r:AG x v)(ty:OI X.K T x H) :
  s.TypeIs v T/\∀ a,v=.ref a->∃ J,s.heap.get? a=some J/\J.dict=none:=by
 cases x with
 | str z =>
  obtain ⟨t,rfl⟩:=r;cases (show T="str" from ty);exact ⟨X5 s z t,λ_ e=>nomatch e⟩
 | int i =>
  obtain ⟨t,rfl⟩:=r;cases (show T="int" from ty);exact ⟨Y5 s i t,λ_ e=>nomatch e⟩
 | ref p =>
  cases r;rcases ty with ⟨rfl,L,hq⟩ | ⟨rfl,o,hk,hc,hd⟩ | ⟨rfl,hk⟩ | ⟨rfl,S,n,hk⟩
  .obtain ⟨its,_,pl,_⟩:=AF (I.list hq);refine ⟨pl.isList.typeIs,λa e=>?_⟩;cases e;obtain ⟨o,n,e,c,hd,_⟩:=Bk pl;exact ⟨o,e,hd⟩
  .refine ⟨⟨o,I.aN p o hk,hc⟩,λa e=>?_⟩;cases e;exact ⟨o,I.aN _ o hk,hd⟩
  .have z:∃ o,s.heap.get? p=some o/\o.ExactDict:=by
    rcases hk with ⟨B,hk⟩ | ⟨B,hk⟩
    .obtain ⟨_,_,_,_,o,_,_,e,ex,_⟩:=AW (I.af p _ hk);exact ⟨o,e,ex⟩
    .obtain ⟨_,_,_,_,o,_,_,e,ex,_⟩:=AW (I.af p _ hk);exact ⟨o,e,ex⟩
   obtain ⟨o,e,ex⟩:=Ao z;refine ⟨⟨o,e,ex.1⟩,λa D=>?_⟩;cases D;exact ⟨o,e,ex.2.1⟩
  .obtain ⟨o,_,_,_,e,ex,_⟩:=Dp (I.af p _ hk);refine ⟨⟨o,e,ex.1⟩,λa D=>?_⟩;cases D;exact ⟨o,e,ex.2.1⟩
 | _=>exact Vr ty
def tBM (K:TH)(T:String)(r:V->List V->Hp->VK->Prop)(to:TE)(t:TA):TE:=λσ H Q=>to σ H λx H1=>OI K T x H1/\t σ H1 λxs H2=>r x xs H2 Q
variable {o e:TN}{es:List TN}{to:TE}{t:TA}{name:Str}{apos bh:Pos}{T id:String}{r:V->List V->Hp->VK->Prop}
theorem DB (pa:PlainAttrs T)(slot:Slot T name id)(B:typeOf (.builtin id)=pure (.type "method_descriptor"))(hm:MtR X id r)(ho:PE X o to)(ha:PA X (e :: es) t)(D:Xr o name X.env (TZ o X.env)=TZ o X.env:=by rfl)(J:((UA bh (T2 (e :: es) X.env)).all (λx=>!x.1) && (VM bh (VN [] X.env)).all (λx=>x.1.isSome)
   && decide ((e :: es).length+([]:List WO).length+(if ([]:List WO).isEmpty then 0 else 1)<30))=true:=by rfl)(L:(apos.endLine == bh.line)=true:=by rfl)(hs:T2 (e :: es) X.env=(false,TZ e X.env) :: T2 es X.env:=by rfl)(O:(UA bh (T2 es X.env)).any (·.1)=false:=by rfl) :
  PE X (.Call (.Attribute o name apos) (e :: es) [] bh) (tBM X.K T r to t):=by
 intro pins s σ H Q I h;refine wpAny_Call_method_late D J L rfl (Am (ho pins s σ H _ I h) λv s1 Y=>GH Y λx H1 I1 r1 ty q1=>?_);obtain ⟨h1,h2⟩:=AbR I1 r1 ty;refine ⟨T,id,pa,slot,B,h1,h2,?_⟩;have hA:=ha bh pins s1 σ H1 _ I1 q1;rw [hs] at hA ⊢;refine Calls.callWith_builtin (by show (false || (UA bh (T2 es X.env)).any (·.1))=false;rw [O]<;>rfl) (tJ ?_);exact Am hA λus s2 Y=>AH Y λvs H2 I2 r2 q2=>hm pins s2 σ H2 x vs v us Q I2 r1 r2 q2
end
def KU (X:Cx)(id:String)(r:V->List V->Hp->VK->Prop):Prop :=
 ∀(pins:List (Addr×Obj))(s:TF)(σ:St)(H:Hp)(x:V)(xs:List V)(v:Value)(us:List Value)(Q:VK),Ae X pins σ H s->AG x v->As xs us->r x xs H Q ->
  TL (TQ X.prog X.w) X.A (call (.builtin id) (v :: us)) (EP X pins σ Q) X.xe s
theorem As.one {x:V}{us:List Value}(h:As [x] us):∃ u,us=[u]/\AG x u:=CK h
theorem As.two {x y:V}{us:List Value}(h:As [x,y] us):∃ u v,us=[u,v]/\AG x u/\AG y v:=Oi h
theorem As.eraseIdx:∀{xs:List V}{us:List Value}(i:Nat),As xs us->As (xs.eraseIdx i) (us.eraseIdx i)
 | _,_,_,.nil=>.nil
 | _,_,0,.cons _ t=>t
 | _,_,i+1,.cons r t=>.cons r (As.eraseIdx i t)
theorem As.rep {xs:List V}{us:List Value}(h:As xs us):∀ k:Nat,As (TX k xs).flatten (TX k us).flatten
 | 0=>.nil
 | k+1=>by
  rw [Wm,Wm,W4,W4];exact As.append h (As.rep h k)
theorem OJ {α:Type}:∀(l:List α)(i:Nat),(l.eraseIdx i).length<=l.length
 | [],_=>T3 _
 | _ :: _,0=>U9 _
 | _ :: r,i+1=>Ya (OJ r i)
theorem OK (its:List Value):∀(k:Nat)(B:List Value),
  Y6 (λD x2=>D++x2) B.toArray (TX k its.toArray)=(B++(TX k its).flatten).toArray
 | 0,B=>by simp
 | k+1,B=>by
  have e:B.toArray++its.toArray=(B++its).toArray:=by simp
  have H:(B++its)++(TX k its).flatten=B++(TX (k+1) its).flatten:=by rw [Wm,W4,Ur]
  rw [<- H,<- OK its k (B++its),<- e,Wm,tK]
section
variable {X:Cx}{pins:List (Addr×Obj)}{σ:St}{H:Hp}{s:TF}{l b:Addr}{xs ys zs:List V}
theorem Ae.jr {its its':List Value}{n:Nat}{f:Array Value->Array Value}{t':Nat}(I:Ae X pins σ H s)(B:H l=some (.lst xs))(e:s.heap.get? l=some { cls:=.type "list",data:=.seq its.toArray n })(D:f its.toArray=its'.toArray)(hv:As ys its')(J:ys.length<=sizeLine) :
  Ae X pins σ (upd H l (.lst ys)) { s with heap:=s.heap.update l (Va f),toks:=t' }:=by
 have q:=PySem.IsL.update e f;rw [D] at q;refine I.write (x:=l) (e:=l) (by rw [B];exact trivial) (.inl rfl) (λL u hb hu=>(tI s.heap (Va f) (Uj hb)).trans hu) ⟨_,q⟩ ?_;exact ⟨J,its',_,hv,q⟩
theorem Ae.kr {its:List Value}{t':Nat}(I:Ae X pins σ H s)(hv:As ys its)(B:ys.length<=sizeLine) :
  Ae X pins σ (upd H s.heap.objs.size (.lst ys)) { s with heap:=s.heap.push { cls:=.type "list",data:=.seq its.toArray },toks:=t' } :=
 I.laid (λ_ _ q=>Ul _ q) (T3 _) ⟨B,its,0,hv,U2 _ rfl⟩
theorem Ae.fresh (I:Ae X pins σ H s):H s.heap.objs.size=none:=I.af.fresh (T3 _)
theorem Ae.fD (I:Ae X pins σ H s)(B:H l=some (.lst xs)):xs.length<=sizeLine/\∃(its:List Value)(n:Nat),As xs its/\xs.length=its.length/\s.heap.get? l=some { cls:=.type "list",data:=.seq its.toArray n }:=by obtain ⟨z,its,n,r,e⟩:=I.af l _ B;exact ⟨z,its,n,r,r.length,e⟩
theorem AbS {n:Nat}(h:n<=sizeLine):Y7 n=false:=by unfold Y7;exact decide_eq_false (by omega)
end
section
variable {X:Cx}
def AbT:V->List V->Hp->VK->Prop:=λx vs H Q=>∃ l xs y,x=.ref l/\vs=[y]/\H l=some (.lst xs)/\xs.length<sizeLine/\Q .aa (upd H l (.lst (xs++[y])))
theorem DU:KU X "list.append" AbT:=by
 intro pins s σ H x vs v O Q I D J h;replace h:=F0 h;obtain ⟨l,V,y,rfl,rfl,B,Y,q⟩:=h
 cases D;obtain ⟨u,rfl,L⟩:=Ao J.one;obtain ⟨z,its,n,r,hl,e⟩:=I.fD B;refine W5 F.slot_list_append ⟨_,e,rfl⟩ F.entry_list_append (F.args_list_append_2 _ _) (PySem.list_append l its.toArray n u (by rw [Uw];omega)) ⟨e,?_⟩;refine ⟨.aa,_,I.jr (its':=its++[u]) B e (by simp) (r.append (.cons L .nil)) ?_,rfl,q⟩;rw [UK,U6];omega
def AbU:V->List V->Hp->VK->Prop:=λx vs H Q=>∃ l xs i k y,x=.ref l/\vs=[.int i]/\H l=some (.lst xs)/\-(2 ^ 63)<=i/\i<2 ^ 63/\XX i xs.length=some k/\xs[k]?=some y/\Q y (upd H l (.lst (xs.eraseIdx k)))
theorem AbV:KU X "list.pop" AbU:=by
 intro pins s σ H x vs v us Q I D J h;replace h:=Fl h;obtain ⟨l,L,i,k,y,rfl,rfl,B,O,V,hk,hy,q⟩:=h
 cases D;obtain ⟨u,rfl,Y⟩:=Ao J.one;obtain ⟨t,rfl⟩:=Y;obtain ⟨z,its,n,r,hl,e⟩:=I.fD B;obtain ⟨w,hw,bV⟩:=Ao (r.get hy);refine W5 F.slot_list_pop ⟨_,e,rfl⟩ F.entry_list_pop (F.args_list_pop_2 _ _)
  (MeetsSeq.list_pop_at l its.toArray n i t k w (tL O V) (by rw [Uw,<- hl];exact hk) (by rw [<- Y8];exact hw) (by rw [Uw];omega)) ⟨e,?_⟩
 refine ⟨y,_,I.jr (its':=its.eraseIdx k) B e ?_ (r.eraseIdx k) ?_,bV,q⟩
 .show its.toArray.eraseIdxIfInBounds k=(its.eraseIdx k).toArray;rw [Y9]
 .have:=OJ L k;omega
def OL:R2:=λx y H Q=>∃ l b xs zs,x=.ref l/\y=.ref b/\H l=some (.lst xs)/\H b=some (.lst zs)/\xs.length+zs.length<=sizeLine/\∀ p,H p=none->Q (.ref p) (upd H p (.lst (xs++zs)))
theorem AbW:A8 X (Vs .Add) OL:=by
 intro pins s σ H x y v u Q I B D h;replace h:=Ir h;obtain ⟨l,b,xs,zs,rfl,rfl,J,L,hz,q⟩:=h
 cases B;cases D;obtain ⟨z,its,n,r,hl,e⟩:=I.fD J;obtain ⟨z2,gq,n2,O,hV,V⟩:=I.fD L;refine PySem.P.add_list e V ?_ (by rw [Uw,Uw];omega);have Y:its.toArray++gq.toArray=(its++gq).toArray:=by simp
 rw [Y];exact ⟨.ref _,_,I.kr (t':=s.toks) (r.append O) (by rw [UK];omega),rfl,q _ I.fresh⟩
def OM:R2:=λx y H Q=>∃ l k xs,x=.ref l/\y=.int k/\H l=some (.lst xs)/\-(2 ^ 63)<=k/\k<2 ^ 63/\xs.length * k.toNat<=sizeLine /\
 ∀ p,H p=none->Q (.ref p) (upd H p (.lst (TX k.toNat xs).flatten))
theorem AbX {α:Type}(xs:List α)(k:Nat):(TX k xs).flatten.length=k * xs.length:=by
 induction k with
 | zero=>simp
 | succ k ih=>rw [Wm,W4,UK,ih,Nat.succ_mul,Nat.add_comm]
theorem AbY:A8 X (Vs .Mult) OM:=by
 intro pins s σ H x y v u Q I rx ry h;replace h:=F0 h;obtain ⟨l,k,xs,rfl,rfl,hH,h1,h2,Y,q⟩:=h
 cases rx;obtain ⟨t,rfl⟩:=ry;obtain ⟨z,its,n,r,hl,e⟩:=I.fD hH;have B:its.toArray.size * k.toNat<=sizeLine:=by rw [Uw,<- hl];exact Y
 have D:¬ its.toArray.size * k.toNat > (2 ^ 63 - 1) / 8:=by
  have:(sizeLine:Nat)<=(2 ^ 63 - 1) / 8:=by decide
  omega
 have J:¬ (!Builtin.List.listFitsIndex k)=true:=by rw [tL h1 h2];exact UG
 have L:¬ Y7 (its.toArray.size * k.toNat)=true:=by rw [AbS B];exact UG
 have O:Y6 (λV x2=>V++x2) #[] (TX (if its.toArray.isEmpty=true then 0 else k.toNat) its.toArray)=(TX k.toNat its).flatten.toArray:=by
  have f0:∀ m:Nat,Y6 (λV x2=>V++x2) #[] (TX m its.toArray)=(TX m its).flatten.toArray:=λm=>by
   have:=OK its m [];rw [Za] at this;exact this
  rw [f0];cases its with
  | nil=>simp
  | cons a r'=>rw [if_neg (by simp)]
 refine wpAny_binaryOp_repeat_ref (T:="list") (U:="int") (by decide) ⟨_,e,rfl⟩ (λs'=>Y5 s' k t) noFill_list_mul F.fills_int_mul tM repeat_list F.slot_int_index.lookup
  (W5 tM (Y5 s k t) F.entry_int_rmul (F.args_int_rmul_2 _ _) (int___rmul___int_list k t l its.toArray n)
   ⟨e,rfl,⟨_,e,rfl⟩,W5 F.slot_list_mul ⟨_,e,rfl⟩ F.entry_list_mul (F.args_list_mul_2 _ _) (AutoListH.list___mul___list_int_3 l its.toArray n k t J D L) ⟨e,?_⟩⟩)
 rw [O];exact ⟨.ref _,_,I.kr (t':=s.toks) (r.rep k.toNat) (by rw [AbX,Nat.mul_comm];exact Y),rfl,q _ I.fresh⟩
end
section
variable {prog:TV}{w:TM}{A:Ub}{E:Value->TF->Prop}{s:TF}
set_option maxRecDepth 100000 in
end
section
variable {X:Cx}
end
end L2
namespace Att
open PySem PySem.W PySem.Calls PyProof.Rows
theorem AbZ {P:Xw}{h:Heap}:∀(ns:List Int)(vs:List Value),WellAll P h vs (ns.map WData.int)->Xx vs ns:=by
 intro ns;induction ns with
 | nil =>
  intro vs w;rw [Xy] at w;cases w;exact .nil
 | cons n ns ih =>
  intro vs w;rw [U4] at w;cases w with
  | cons a b =>
   cases a;exact .cons _ _ (ih _ b)
theorem Ab0 {l:OpenLaw}{n:Nat}(L:l.most=some n){P:Xw}{h:Heap}{args:List WData}{vals:List Value}(J:l.row.toRowW.claim.pre args=true)(O:WellAll P h vals args) :
  ∃ a vs ns,vals=[Uz a]/\args=[WData.list (ns.map WData.int)]/\h.get? a=some { cls:=.type "list",data:=.seq vs.toArray }/\Xx vs ns/\ns.length<=n:=by
 have I:WShape.hasAll [] args [.list .int]=true:=(pre_splitW J).1;have hc:l.pre.holds [] { args:=args }=true:=(pre_splitW J).2;obtain ⟨d,r,rfl,V,Y⟩:=hasAllW_cons I;obtain rfl:=hasAllW_nil Y;obtain ⟨xs,rfl,h3⟩:=hasW_list V;obtain ⟨ns,rfl⟩:=items_int h3;have B:ns.length<=n:=by
  unfold OpenLaw.pre at hc;have D:(WTm.not (.lt (.lit (.int (n:Int))) (.len (.arg 0)))).holds [] { args:=[.list (ns.map .int)] }=true:=by have D:=(holds_andW hc).1;rw [L] at D;exact D
  have H:=condW_of D (w_not (w_lt w_lit (w_len_list (w_arg rfl))));rw [TU] at H;refine Nat.le_of_not_lt λq=>?_;have q':(n:Int)<((ns.length:Nat):Int):=by omega
  first
   | (rw [decide_eq_true q'] at H;exact absurd H (by decide))
   | (simp at H;omega)
 cases O with
 | cons w1 w2 =>
  cases w2;cases w1 with
  | list ho aB=>exact ⟨_,_,ns,rfl,rfl,ho,AbZ ns _ aB,B⟩
theorem Ab1 (l:OpenLaw)(args:List WData):l.row.toRowW.claim.post args (.bool true) args=true :=
 postW_of (r:=l.row.toRowW) (X:=(true == true))
  (show WShape.has [] (.bool true) .bool=true by first | rfl | decide | simp [WShape.has,WShape.arms,WShape.armsAll])
  (show (WTm.eq .res (.lit (.bool true))).value [] { args:=args,res:=some (.bool true),after:=args }=some (.bool (true == true)) from w_eq_bool (w_res rfl) w_lit) rfl
theorem aat {l:OpenLaw}{n:Nat}{q:TV}{B:List Str}{XP:(Str->Option Value)->Heap->Prop}{YP:TM->Heap->Prop}{d:DefRec}(hn:l.most=some n)(hW:d.params.defaults=[])(call:∀ (w:TM) (s₀ D:TF) (mg mb:Str->Option Value) (J:Addr) (o:Obj) (pm O H:Value) (a:Addr) (vs:List Value) (ns:List Int),
   Ground q B [] XP w s₀ mg mb D.heap->YP w D.heap ->
   D.heap.get? J=some o->o.data=.func (docDef d.name d.params d.body d.scope pm O H)->D.heap.CodeRec O d.name->mg d.name=some (.ref J) ->
   D.heap.get? a=some { cls:=.type "list",data:=.seq vs.toArray }->Xx vs ns->ns.length<=n->D.gens=#[] ->
   U8 (TQ l.prog w) WT (.call (.ref J) ⟨[.ref a],[]⟩) (λr V=>r=.ok (.ret (.bool true))/\OldK D.heap V.heap/\V.os=D.os/\VL V.gens) D) :
  WalkO q B XP YP l.row.toRowW d [] (λf vs=>Zb f vs):=by
 intro w s₀ D mg mb G Y J o pm O H dV kV ho hd cT hD hZ hg args vals as jt adN hrd ku hlo;obtain rfl:dV=.none:=Dflts.none hD hW;obtain rfl:kV=.none:=Dflts.noKw hD;obtain ⟨a,vs,ns,rfl,rfl,kz,I,L⟩:=Ab0 hn jt ku;refine enter_call (W3 (call w s₀ D mg mb J o pm O H a vs ns G Y ho (fd_plain hd) cT hZ kz I L hg) λr V hq=>?_);obtain ⟨rfl,h2,h3,h4⟩:=hq;exact ⟨.inl ⟨.bool true,.bool true,[],rfl,λ_=>rfl,.bool true,Ab1 l _,λ_=>⟨List.Pairwise.nil,λ_ hm=>(nomatch hm)⟩⟩,h2,h3,h4⟩
section
variable {prog:TV}{w:TM}{A:Ub}{E:Value->TF->Prop}{s:TF}{K:Frag}
end
end Att
namespace L2
open PySem PySem.Spec PyProof.Rows
theorem ON:∀{vs:List Value}{ns:List Int},Xx vs ns->As (ns.map V.int) vs
 | _,_,.nil=>.nil
 | _,_,.cons n t h=>.cons ⟨t,rfl⟩ (ON h)
def KW (H:Hp):Prop:=∀ b,H b=none\/∃ o xs,H b=some (.aL o (.lst xs))
theorem Ab2 {P:TV}{w:TM}{K:TH}{mg mb:Str->Option Value}{CX:B4}{k:Nat}{fa a:Addr}{fd:T5}{x:Str}{sp:Sp}{B:TF}{vs:List Value}{ns:List Int}(KX:K.In B.heap)(bD:B.heap.Ns Ui mg)(hb:B.heap.Ns YH mb)(kA:∀ x:Str,x≠"__name__"->mb x=U0 x)(aau:B.heap.NoLimit)(hg:B.gens=#[])(ha:B.heap.get? a=some { cls:=.type "list",data:=.seq vs.toArray })(hi:Xx vs ns)(hl:ns.length<=sizeLine)(hr:Bq k WT)(F:∀ base:Heap,K.In base->base.Ns Ui mg->AE P w K mg base CX k fa fd [x] sp)(aav:∀ (s:TF) (u:Value),WM s fd ⟨[u],[]⟩ [(x,u)])(dj:∀ H:Hp,KW H->A7 K H a (ns.map V.int)->sp [.ref a] H (λv _=>v=.bl true) λ_ _ _=>False)(kB:∀ H e D,CX [] H B (λ_ _ _=>False) e D->False) :
  U8 (TQ P w) WT (.call (.ref fa) ⟨[.ref a],[]⟩) (λr D=>r=.ok (.ret (.bool true))/\OldK B.heap D.heap/\D.os=B.os/\VL D.gens) B:=by
 have rv:=ON hi;have aaw:=hi.length;have I:∀ H:Hp,KW H->A7 K H a (ns.map V.int)->AM P w H B.heap->(∀ b,H b≠none->b=a)->(H a≠none->K.lookup a=none) ->
   U8 (TQ P w) WT (.call (.ref fa) ⟨[.ref a],[]⟩) (λr D=>r=.ok (.ret (.bool true))/\OldK B.heap D.heap/\D.os=B.os/\VL D.gens) B:=by
  intro H hO hS af hA hK;have oM:∀{b:Addr}{o:Obj},B.heap.get? b=some o->H b=none->(Ec B.heap H).get? b=some o:=λe n=>Aaj e n;have g7:∀{b:Addr}{o:Obj}{es:Array Xz}{J:Nat},B.heap.get? b=some o->o.data=.dict es J->H b=none:=λ{b o es J} e d=>by
   cases q:H b with
   | none=>rfl
   | some u =>
    have e':b=a:=hA b (by rw [q];simp);subst e';rw [ha] at e;cases e;have d':Data.seq vs.toArray _=Data.dict es J:=d;cases d'
  have Y:∀{b:Addr}{m:Str->Option Value},B.heap.Ns b m->(Ec B.heap H).Ns b m:=λ{b m} ⟨o,es,J,e,d,r⟩=>⟨o,es,J,oM e (g7 e d),d,r⟩;have oN:K.In (Ec B.heap H):=λb o e=>oM (KX b o e) (by
   cases q:H b with
   | none=>rfl
   | some u =>
    have e':b=a:=hA b (by rw [q];simp);subst e';rw [hK (by rw [q];simp)] at e;cases e)
  have hM:Mod K mg (Ec B.heap H):=⟨oN,Y bD,⟨mb,Y hb,kA⟩,let ⟨mc,h1,h2⟩:=aau;⟨mc,Y h1,h2⟩⟩;have e0:Ft P w K mg (Ec B.heap H) WT [] B H:=⟨rfl,hM,λb o e=>Aak e,Nat.le_of_eq (Aai _ _),trivial,λb hb=>absurd (show b∈([]:List Addr) from hb) (by simp),af,.of_eq hg⟩;refine W3 ((F _ oN (Y bD)).run WT [] B H ⟨[.ref a],[]⟩ [.ref a] [.ref a] _ _ hr e0 (aav B (.ref a)) (.cons rfl .nil) (dj H hO hS)) λr D h=>?_;cases r with
  | error e=>exact (kB H e D h).elim
  | ok fl =>
   cases fl with
   | next=>exact Vr h
   | brk=>exact Vr h
   | cont=>exact Vr h
   | ret u =>
    obtain ⟨v,H',os,L,un,aax,r',q⟩:=GI h;have q':v=.bl true:=q;subst q';obtain rfl:u=Xh true:=r';refine ⟨rfl,OldK.of_keep λb o e=>?_,os,L⟩;cases q:H b with
    | none=>exact un.keep b o e q (by intro z;exact absurd (show b∈([]:List Addr) from z) (by simp)) (by simp)
    | some u =>
     rcases hO b with z | ⟨ob,xs,z⟩
     .rw [q] at z;cases z
     .have z2:=un.cC b ob _ z;obtain ⟨e1,_⟩:=af b _ z;obtain ⟨e2,_⟩:=aax b _ z2;rw [e] at e1;cases e1;exact e2
 cases hk:K.lookup a with
 | some o =>
  have e:=KX a o hk;rw [ha] at e;cases e;refine I (λ_=>none) (λ_=>.inl rfl) (.inr ⟨_,vs.toArray,_,hk,rfl,rfl,rfl,by rw [Uw,aaw];exact hl,by simpa using rv⟩) (λb u z=>by have O:(none:Option HO)=some u:=z;cases O) (λb z=>absurd rfl z) λz=>absurd rfl z
 | none =>
  refine I (λb=>if b=a then some (.aL { cls:=.type "list",data:=.seq vs.toArray } (.lst (ns.map V.int))) else none) (λb=>?_) (.inl (.inr ⟨{ cls:=.type "list",data:=.seq vs.toArray },if_pos rfl⟩)) (λb u z=>?_) (λb z=>?_) λ_=>hk
  .by_cases hb:b=a
   .exact .inr ⟨_,_,if_pos hb⟩
   .exact .inl (if_neg hb)
  .by_cases hb:b=a
   .have O:=(if_pos hb).symm.trans z;cases O;subst hb;exact ⟨ha,by rw [TU];exact hl,vs,_,rv,ha⟩
   .have O:=(if_neg hb).symm.trans z;cases O
  .by_cases hb:b=a
   .exact hb
   .exact absurd (if_neg hb) z
theorem aay {l:Zc}{n k:Nat}{q:TV}{D:List Str}{XP:(Str->Option Value)->Heap->Prop}{YP:TM->Heap->Prop}{d:DefRec}{K:Xw->TH}{CX:TM->B4}{sp:TM->Sp}{x:Str}(hn:l.most=some n)(fz:n<=sizeLine)(hW:d.params.defaults=[])(hr:Bq k WT)(hY:∀ (w:TM) (h:Heap),YP w h->(K w.params).In h)(F:∀ (w:TM) (mg:Str->Option Value) (J:Addr) (h:Heap),(K w.params).In h->h.Ns Ui mg->mg d.name=some (.ref J) ->
   ∃ L:T5,(∀ (s:TF) (u:Value),WM s L ⟨[u],[]⟩ [(x,u)]) /\
    ∀ base:Heap,(K w.params).In base->base.Ns Ui mg->AE l.prog w (K w.params) mg base (CX w) k J L [x] (sp w))(dj:∀ (w:TM) (H:Hp) (a:Addr) (ns:List Int),ns.length<=n->KW H->A7 (K w.params) H a (ns.map V.int)->sp w [.ref a] H (λv _=>v=.bl true) λ_ _ _=>False)(kB:∀ (w:TM) (H:Hp) (s:TF) (e:Value) (O:TF),CX w [] H s (λ_ _ _=>False) e O->False) :
  PySem.W.WalkO q D XP YP l.row.toRowW d [] (λf vs=>Zb f vs):=by
 refine Att.aat hn hW λw s₀ s₁ mg mb J o pm cd doc a vs ns G Y ho hd cT hZ kz I B hg=>?_;have KX:=hY w _ Y;obtain ⟨L,hb,hF⟩:=Ao (F w mg J _ KX G.T.g hZ);exact Ab2 KX G.T.g G.T.b G.T.builtins G.T.nolimit hg kz I (UM B fz) hr hF hb (λH hO hS=>dj w H a ns B hO hS) λH e O=>kB w H s₁ e O
def Ad (s:Stmt)(j:Nat):Stmt:=match s with
 | .ClassDef _ _ _ body _ _ _ _ _ _ _=>body.getD j (.Pass ⟨0,0,0,0⟩)
 | _=>.Pass ⟨0,0,0,0⟩
def Du (s:Stmt):Arguments:=match s with
 | .FunctionDef _ a _ _ _ _ _ _ _ _=>a
 | _=>{ posonlyargs:=[],args:=[],vararg:=none,kwonlyargs:=[],kw_defaults:=[],kwarg:=none,defaults:=[] }
def C4 (s:Stmt):List Stmt:=match s with
 | .FunctionDef _ _ b _ _ _ _ _ _ _=>b
 | _=>[]
def Ab (s:Stmt):Scope:=match s with
 | .FunctionDef _ _ _ _ _ _ sc _ _ _=>sc
 | _=>{ kind:=.function,names:=[],isGenerator:=false,isCoroutine:=false }
abbrev AA:B4:=λ_ _ _ _ _ _=>False
abbrev E0:XK:=λ_ _ _=>False
theorem A1 {X:Cx}:CB AA X E0:=λ_ _ _ _ _ _ _ h=>h.elim
structure AL (K:TH)(x qual:Str)(st:Stmt)(f:Addr)(fd:T5):Prop where
 ex:∃(oc:Value)(od:Option Addr)(kV doc pm:Value)(an:Option Addr)(ak ct:Value)(dN:Array (Option Value)),
  fd=Vm x qual (Du st) (C4 st) (Ab st) .none kV doc pm an ak ct/\K.lookup f=some ⟨oc,od,.func fd,dN⟩/\V4 K ak qual=true
 kp:U5 K (.ref f)=true
section
variable {P:TV}{w:TM}{K:TH}{mg:Str->Option Value}{base:Heap}
theorem AL.ok {x B:Str}{st:Stmt}{f:Addr}{I:T5}{N ps:List Str}{k:Nat}{sp:Sp}(F:AL K x B st f I)(S:AR N ps (Ab st))(J:∀ (D:Value) (A:Ub) (outer:List Env) (s:TF) (H:Hp) (vs:List V) (Q:VK) (E:XK),Bq k (A.deeper (VO B (Ab st) s.heap.objs.size f D))->sp vs H Q E ->
   ∃ t,CQ (CL AA P w K mg base N B (Ab st) f D A outer s H E).jk (C4 st) t/\t { nx:=λ_ L=>Q .aa L,rt:=Q } (AQ N vs) H)(len:∀ vs H Q E,sp vs H Q E->vs.length=ps.length:=by intro _ _ _ _ h;repeat (first | exact congrArg WQ h.1 | obtain ⟨_,h⟩:=h)):AE P w K mg base AA (k+1) f I ps sp:=by
 obtain ⟨oc,od,kV,O,pm,an,D,ct,dN,rfl,lk,Y⟩:=KA F.ex;refine OA lk Y S len λA outer s H vs Q E hr dj=>?_;obtain ⟨t,h,q⟩:=Ao (J D A outer s H vs Q E hr dj);exact ⟨t,h.jk,q⟩
theorem AL.binds {x B:Str}{st:Stmt}{f:Addr}{L:T5}{ps:List Str}(F:AL K x B st f L)(h:∀ (kV D H:Value) (I:Option Addr) (J ct:Value) (us:List Value),us.length=ps.length->bindArgs (Vm x B (Du st) (C4 st) (Ab st) .none kV D H I J ct) ⟨us,[]⟩=pure (ps.zip us)):C3 K L ps []:=by obtain ⟨O,V,kV,D,H,I,J,ct,Y,rfl,lk,cT⟩:=KA F.ex;exact .all (h kV D H I J ct)
theorem F5 {x B:Str}{st:Stmt}{f:Addr}{L:Value}{O I:Option Addr}{V:Array (Option Value)}{kV D J H ct:Value}(l:K.lookup f=some ⟨L,O,.func (Vm x B (Du st) (C4 st) (Ab st) .none kV D J I H ct),V⟩)(c:V4 K H B=true)(k:U5 K (.ref f)=true):AL K x B st f (Vm x B (Du st) (C4 st) (Ab st) .none kV D J I H ct):=⟨⟨L,O,kV,D,J,I,H,ct,V,rfl,l,c⟩,k⟩
end
section
variable {X:Cx}
end
theorem BW {A B:Prop}(h:B):if false=true then A else B:=by rw [if_neg UG];exact h
theorem BQ {A B:Prop}(h:A):if true=true then A else B:=by rw [if_pos rfl];exact h
theorem IV {c A B:Prop} [Decidable c] (D:c->A) (H:¬ c->B):if c then A else B:=by
 by_cases h:c
 .rw [if_pos h];exact D h
 .rw [if_neg h];exact H h
def Ag (H H':Hp):Prop:=∀ b o,H b=some o->H' b=some o
theorem Ag.refl (H:Hp):Ag H H:=λ_ _ h=>h
theorem Ag.trans {H B D:Hp}(a:Ag H B)(b:Ag B D):Ag H D:=λc o h=>b c o (a c o h)
theorem Ag.free {H B:Hp}(e:Ag H B){l:Addr}(h:B l=Option.none):H l=Option.none:=by
 cases q:H l with
 | none=>rfl
 | some o =>
  rw [e l o q] at h;cases h
theorem Ag.seq {K:TH}{H B:Hp}{a:Addr}{xs:List V}(e:Ag H B)(h:A7 K H a xs):A7 K B a xs:=by
 rcases h with (h | ⟨o,h⟩) | h
 .exact .inl (.inl (e _ _ h))
 .exact .inl (.inr ⟨o,e _ _ h⟩)
 .exact .inr h
end L2
namespace L2
def Lk (t C:St->Hp->Prop):Prop:=∀ σ H,t σ H->C σ H
theorem Lk.use {t C:St->Hp->Prop}{σ:St}{H:Hp}(h:Lk t C)(p:t σ H):C σ H:=h _ _ p
theorem Ab3 {s t:TS}{D:Di}{σ:St}{H:Hp}(h:∀ C:St->Hp->Prop,Lk (t D) C->s { D with nx:=C } σ H):KG s t D σ H:=h _ λ_ _ z=>z
theorem w1 {α:Type u}{β:Type v}{a:β}{f:α->β}{P:α->Prop}{v:α}(e:a=f v)(h:P v):∃ v,a=f v/\P v:=⟨v,e,h⟩
theorem w2 {α β γ δ:Type}{x:γ}{y:δ}{f:α->γ}{g:β->δ}{P:α->β->Prop}{i:α}{j:β}(e:x=f i)(e':y=g j)(h:P i j):∃ i j,x=f i/\y=g j/\P i j:=⟨i,j,e,e',h⟩
theorem w3 {α β γ:Type}{x:γ}{f:α->β->γ}{P:α->β->Prop}{i:α}{j:β}(e:x=f i j)(h:P i j):∃ i j,x=f i j/\P i j:=⟨i,j,e,h⟩
section
open PySem
variable {CX:B4}{P:TV}{w:TM}{K:TH}{mg:Str->Option Value}{base:Heap}{N:List Str}{qual:Str}{scope:Scope}{f:Addr}{cd:Value}{A:Ub}{outer:List Env}{s:TF}{H:Hp}{E:XK}
end
theorem BK {α β γ δ ξ ζ:Type}{x:ξ}{y:ζ}{f:α->β->γ->δ->ξ}{g:α->β->γ->δ->ζ}{P Q R:α->β->γ->δ->Prop} {a b c d} (p:P a b c d) (q:Q a b c d) (r:R a b c d) (e:x=f a b c d:=by rfl) (e':y=g a b c d:=by rfl):∃ a b c d,x=f a b c d/\y=g a b c d/\P a b c d/\Q a b c d/\R a b c d:=⟨a,b,c,d,e,e',p,q,r⟩
theorem C5 {α β γ δ ε ξ:Type}{x:ξ}{f:α->β->γ->δ->ε->ξ}{P Q S T R:α->β->γ->δ->ε->Prop} {a b c d i} (p:P a b c d i) (q:Q a b c d i) (s:S a b c d i) (t:T a b c d i) (r:R a b c d i) (e:x=f a b c d i:=by rfl):∃ a b c d i,x=f a b c d i/\P a b c d i/\Q a b c d i/\S a b c d i/\T a b c d i/\R a b c d i:=⟨a,b,c,d,i,e,p,q,s,t,r⟩
theorem Dv {α β γ ξ:Type}{x:ξ}{f:α->β->γ->ξ}{P Q R:α->β->γ->Prop} {a b c} (p:P a b c) (q:Q a b c) (r:R a b c) (e:x=f a b c:=by rfl):∃ a b c,x=f a b c/\P a b c/\Q a b c/\R a b c:=⟨a,b,c,e,p,q,r⟩
theorem DV {b:Bool}{A B:Prop}(h:b=true)(a:A):if b=true then A else B:=by rw [if_pos h];exact a
theorem Dl {b:Bool}{A B:Prop}(h:b=false)(a:B):if b=true then A else B:=by rw [h];exact a
theorem Dm {α:Type}{B R:α->Prop} (a) (D:B a) (r:R a):∃ a,B a/\R a:=⟨a,D,r⟩
theorem DW {α:Type}{B D R:α->Prop} (a) (H:B a) (I:D a) (r:R a):∃ a,B a/\D a/\R a:=⟨a,H,I,r⟩
theorem CU {α β:Type}{B R:α->β->Prop} (a b) (D:B a b) (r:R a b):∃ a b,B a b/\R a b:=⟨a,b,D,r⟩
theorem BL {α β:Type}{B D R:α->β->Prop} (a b) (H:B a b) (I:D a b) (r:R a b):∃ a b,B a b/\D a b/\R a b:=⟨a,b,H,I,r⟩
theorem C6 {α β:Type}{B D P3 R:α->β->Prop} (a b) (H:B a b) (I:D a b) (J:P3 a b) (r:R a b):∃ a b,B a b/\D a b/\P3 a b/\R a b:=⟨a,b,H,I,J,r⟩
theorem IW {α β:Type}{B D P3 H R:α->β->Prop} (a b) (I:B a b) (J:D a b) (L:P3 a b) (O:H a b) (r:R a b):∃ a b,B a b/\D a b/\P3 a b/\H a b/\R a b:=⟨a,b,I,J,L,O,r⟩
theorem B5 {α β γ:Type}{B R:α->β->γ->Prop} (a b c) (D:B a b c) (r:R a b c):∃ a b c,B a b c/\R a b c:=⟨a,b,c,D,r⟩
theorem A4 {α β γ:Type}{B D P3 R:α->β->γ->Prop} (a b c) (H:B a b c) (I:D a b c) (J:P3 a b c) (r:R a b c):∃ a b c,B a b c/\D a b c/\P3 a b c/\R a b c:=⟨a,b,c,H,I,J,r⟩
theorem Cv {α β γ:Type}{B D P3 H R:α->β->γ->Prop} (a b c) (I:B a b c) (J:D a b c) (L:P3 a b c) (O:H a b c) (r:R a b c):∃ a b c,B a b c/\D a b c/\P3 a b c/\H a b c/\R a b c:=⟨a,b,c,I,J,L,O,r⟩
theorem OO {α β γ δ:Type}{B R:α->β->γ->δ->Prop} (a b c d) (D:B a b c d) (r:R a b c d):∃ a b c d,B a b c d/\R a b c d:=⟨a,b,c,d,D,r⟩
theorem AX {α β γ δ:Type}{B D P3 H R:α->β->γ->δ->Prop} (a b c d) (I:B a b c d) (J:D a b c d) (L:P3 a b c d) (O:H a b c d) (r:R a b c d):∃ a b c d,B a b c d/\D a b c d/\P3 a b c d/\H a b c d/\R a b c d:=⟨a,b,c,d,I,J,L,O,r⟩
theorem A9 {α β γ δ:Type}{B D P3 H I R:α->β->γ->δ->Prop} (a b c d) (J:B a b c d) (L:D a b c d) (O:P3 a b c d) (V:H a b c d) (Y:I a b c d) (r:R a b c d):∃ a b c d,B a b c d/\D a b c d/\P3 a b c d/\H a b c d/\I a b c d/\R a b c d:=⟨a,b,c,d,J,L,O,V,Y,r⟩
theorem Fu {α β γ δ ε:Type}{B R:α->β->γ->δ->ε->Prop} (a b c d e) (D:B a b c d e) (r:R a b c d e):∃ a b c d e,B a b c d e/\R a b c d e:=⟨a,b,c,d,e,D,r⟩
theorem AI {α β γ δ ε:Type}{B D P3 H I R:α->β->γ->δ->ε->Prop} (a b c d e) (J:B a b c d e) (L:D a b c d e) (O:P3 a b c d e) (V:H a b c d e) (Y:I a b c d e) (r:R a b c d e):∃ a b c d e,B a b c d e/\D a b c d e/\P3 a b c d e/\H a b c d e/\I a b c d e/\R a b c d e:=⟨a,b,c,d,e,J,L,O,V,Y,r⟩
theorem Ab4 {α β γ δ ε ζ:Type}{B R:α->β->γ->δ->ε->ζ->Prop} (a b c d e f) (D:B a b c d e f) (r:R a b c d e f):∃ a b c d e f,B a b c d e f/\R a b c d e f:=⟨a,b,c,d,e,f,D,r⟩
theorem GZ {α β γ δ ε ζ η:Type}{B R:α->β->γ->δ->ε->ζ->η->Prop} (a b c d e f g) (D:B a b c d e f g) (r:R a b c d e f g):∃ a b c d e f g,B a b c d e f g/\R a b c d e f g:=⟨a,b,c,d,e,f,g,D,r⟩
theorem F6 {α β γ δ ε ζ η θ:Type}{B R:α->β->γ->δ->ε->ζ->η->θ->Prop} (a b c d e f g h) (D:B a b c d e f g h) (r:R a b c d e f g h):∃ a b c d e f g h,B a b c d e f g h/\R a b c d e f g h:=⟨a,b,c,d,e,f,g,h,D,r⟩
theorem EK {α β γ δ ε ζ η θ ι:Type}{B R:α->β->γ->δ->ε->ζ->η->θ->ι->Prop} (a b c d e f g h i) (D:B a b c d e f g h i) (r:R a b c d e f g h i):∃ a b c d e f g h i,B a b c d e f g h i/\R a b c d e f g h i:=⟨a,b,c,d,e,f,g,h,i,D,r⟩
end L2
namespace L2
open PySem PySem.Spec PyProof.Rows
section
variable {P:TV}{w:TM}
def AJ (P:TV)(w:TM):B4:=λouter H s E e s'=>∃(ea:Addr)(cls a0:Value)(B:Heap)(H':Hp),
 e=.ref ea/\s'.os=s.os/\VL s'.gens/\Un (Cu outer) [] H H' s.heap s'.heap/\Heap.FlyingW B outer ea cls a0 s'.heap/\AM P w H' B /\
 (∀ b o,s.heap.get? b=some o->H b=none->b ∉ Cu outer->B.get? b=some o)/\(∀ b o,s.heap.get? b=some o->b ∉ Cu outer->∃ o',B.get? b=some o')/\E cls none H'
structure IX (X:Cx)(pins:List (Addr×Obj))(σ:St)(H:Hp)(B:Heap)(s:TF):Prop where
 inv:Ae X pins σ H s
 af:AM X.prog X.w H B
 old:∀ b o,X.s₀.heap.get? b=some o->X.H₀ b=none->b ∉ X.fs->b ∉ X.ex->B.get? b=some o
 there:∀ b o,X.s₀.heap.get? b=some o->b ∉ X.fs->b ∉ X.ex->∃ o',B.get? b=some o'
 pin:∀ p∈X.pn++pins,B.get? p.1=some p.2
variable {X:Cx}{pins:List (Addr×Obj)}{σ:St}{H H':Hp}{s s':TF}{ea:Addr}{cls:Value}{B:Heap}
theorem Ae.gj (I:Ae X pins σ H s){b:Addr}{o:Obj}(e:X.s₀.heap.get? b=some o):b≠X.env.locals:=Uq (Ux (Uc e) I.ok.above)
theorem Ae.fly (I:Ae X pins σ H s){E:XK}{e:Value}(h:AJ X.prog X.w X.stack H s E e s'):∃ ea cls O B H',e=.ref ea/\IX X pins σ H' B s'/\Heap.FlyingW B X.stack ea cls O s'.heap/\E cls none H':=by
 replace h:=Fl h;obtain ⟨ea,cls,O,B,H',rfl,os,D,un,V,Y,J,there,hE⟩:=h
 refine ⟨ea,cls,O,B,H',rfl,⟨I.oE os un (Y.kept V.1) D (λb z=>absurd z (by simp)),Y,λb o e n L hx=>?_,λb o e L hx=>?_,λp hp=>?_⟩,V,hE⟩
 .refine J b o (I.base.keep b o e n L hx) (I.base.free b o e n hx) λz=>?_;rcases T8.mp (I.cS b z) with q | q
  .exact I.gj e q
  .exact L q
 .obtain ⟨o',e'⟩:=I.base.there b o e hx;refine there b o' e' λz=>?_;rcases T8.mp (I.cS b z) with q | q
  .exact I.gj e q
  .exact L q
 .obtain ⟨e,n,ne,nf,_⟩:=AW (I.pin p hp);refine J p.1 p.2 e n λz=>?_;rcases T8.mp (I.cS _ z) with q | q
  .exact ne q
  .exact nf q
theorem IX.move (F:IX X pins σ H B s){h':Heap}{tk:Nat}(Y:B.StaysIn h')(up:s.heap.UpToSlots h'):Ae X pins σ H { s with heap:=h',toks:=tk }:=by
 have I:=F.inv;have D:∀ b,b∈X.fs->∀ o,s.heap.get? b=some o->(∃ o₀,X.s₀.heap.get? b=some o₀)->∃ sl,h'.get? b=some { o with slots:=sl }:=λb hb o e _=>by
  obtain ⟨_,o1,L,d1⟩:=I.cq.mem hb;rw [e] at L;cases L;exact up b o e d1
 have J:∀ c v,s.heap.IsCell c v->h'.IsCell c v:=λc v zz=>Ct zz λo ho hd=>by
  obtain ⟨sl,e⟩:=up c o ho λvs q=>by rw [hd] at q;cases q
  exact ⟨_,e,hd⟩
 refine ⟨I.ok,I.os,I.bare,⟨λb o e n O hx=>Y b o (F.old b o e n O hx),λb o e n O hx=>?_,I.base.free,λb o e hx=>?_,I.base.av,I.base.cC,I.base.cR⟩,?_,λx c e=>?_,I.free,I.cu,λp hp=>?_,F.af.kept Y,I.len⟩
 .obtain ⟨sl,L⟩:=I.base.slot b o e n O hx;obtain ⟨gm,V⟩:=D b O _ L ⟨o,e⟩;exact ⟨gm,V⟩
 .by_cases O:b∈X.fs
  .obtain ⟨o',L⟩:=I.base.there b o e hx;obtain ⟨gm,V⟩:=D b O _ L ⟨o,e⟩;exact ⟨_,V⟩
  .obtain ⟨o',e'⟩:=F.there b o e O hx;exact ⟨o',Y b o' e'⟩
 .obtain ⟨m,hn,hl⟩:=Ao I.loc;refine ⟨m,up.ns hn,λi x v L V e3=>?_⟩;obtain ⟨u,r,l⟩:=Ao (hl i x v L V e3);refine ⟨u,r,?_⟩;rcases l with l | ⟨k,c,e,z⟩
  .exact .inl l
  .exact .inr ⟨k,c,e,J c _ z⟩
 .obtain ⟨v,z⟩:=I.cell x c e;exact ⟨v,J c v z⟩
 .obtain ⟨_,r⟩:=I.pin p hp;exact ⟨Y _ _ (F.pin p hp),r⟩
end
section
variable {P:TV}{w:TM}{K:TH}{mg:Str->Option Value}{base:Heap}{N:List Str}{qual:Str}{scope:Scope}{f:Addr}{cd:Value}{A:Ub}{outer:List Env}{s₀:TF}{H₀:Hp}{E:XK}
theorem By:CB (AJ P w) (CL (AJ P w) P w K mg base N qual scope f cd A outer s₀ H₀ E) E:=by intro pins σ H s e O I h;obtain ⟨V,cls,Y,B,H',rfl,F,fl,hE⟩:=Aaa (I.fly h);show TL _ _ (leaving _ _) _ _ _;refine wpAny_leaves_onW I.ok.frames rfl fl λh' L up=>?_;have J:=F.move (tk:=O.toks) L.1 up;exact ⟨V,cls,Y,B,H',rfl,J.os,J.bare,J.base,L,F.af,λb o e n D=>F.old b o e n D (by simp [CL]),λb o e D=>F.there b o e D (by simp [CL]),hE⟩
theorem AM.hide {H:Hp}{h:Heap}{l:List Addr}(x:AM P w H h)(n:∀ b∈l,H b=none):AM P w H (XN h l):=λa o e =>
 (x a o e).de (λb u hb q=>Xk l q λB=>by
  have z:=n b B;rcases hb with rfl | hb
  .rw [e] at z;cases z
  .rw [hb] at z;cases z) (λ_ q=>q) λ_ _ q=>q
theorem Ab5 {C:Addr}{I:List Value}{B:String}(q:Vn K C I B=true):∃ nm H N bs D hd sn sub ab col dd k0 k1 k2 k3 k5,
  K.lookup C=some (excClassObj nm H C N bs D hd sn sub ab col dd k0 k1 k2 k3 k5 B)/\Zd K N=true/\Us K N "__init__"=some none/\PySem.W.tailIn K I D=true:=by
 unfold Vn at q;split at q
 .rename_i dd cd sl ho
  split at q
  .rename_i C' D k0 k1 k2 k3 n k5 hm hs
   simp only [Vu,beq_iff_eq,Bool.not_eq_true'] at q;obtain ⟨⟨⟨⟨⟨rfl,rfl⟩,J⟩,V⟩,L⟩,O⟩:=q;obtain ⟨nm,bs,mro,Y,H,hd,sn,sub,ab,col,del⟩:=cd;dsimp only at hm J L O;subst hm J;have oR:sl=#[k0,k1,k2,k3,some (.builtin n),k5]:=by obtain ⟨l⟩:=sl;simp only at hs;rw [hs]
   subst oR;exact ⟨nm,H,Y,bs,D,hd,sn,sub,ab,col,dd,k0,k1,k2,k3,k5,ho,L,O,V⟩
  .cases q
 .cases q
theorem Ab6 {N:Addr}(B:Zd K N=true){h:Heap}(X:K.In h):∃ mN,(∀ h',K.In h'->h'.Ns N mN)/\∀ x,Us K N x=some none->mN x=none:=by
 have i:=PySem.W.isNs_of_in X B;refine ⟨h.nsMap N,λh' D=>?_,λx e=>PySem.W.nsMap_none_of_in X B e⟩;obtain ⟨o,es,H,I,r⟩:=Dh (Heap.Ns.of_isNs i);refine ⟨o,es,H,?_,r⟩;unfold Zd at B;split at B
 .rename_i q
  have e:=X _ _ q;rw [I] at e;cases e;exact D _ _ q
 .cases B
def KY (X:Cx)(W:St->XK):Prop:=∀(pins:List (Addr×Obj))(σ:St)(H:Hp)(s:TF)(ea:Addr)(h':Heap)(C:Addr)(args:List Value),Ae X pins σ H s->Heap.MadeExcOf s.heap h' ea (.ref C) args->W σ (.ref C) none H->X.xe (.ref ea) { s with heap:=h' }
def OP (W:St->XK)(C:Addr)(ta:TA):TS:=λ_ σ H=>ta σ H λvs H1=>vs.length<=sizeLine/\W σ (.ref C) none H1
theorem Ab7 {X:Cx}{W:St->XK}{C:Addr}{x:Str}{np O pos:Pos}{e:TN}{es:List TN}{t:TA}(ht:KY X W)(hc:X.calm=true)(q:Vn X.K C [.type "ValueError",.type "Exception",.type "BaseException",.type "object"] "ValueError.__new__"=true)(hm:X.mg x=some (.ref C))(ha:PA X (e :: es) t)(hg:Gl X x:=by rfl)(hd:(x == ("__debug__":Str))=false:=by decide)(he:T2 (e :: es) X.env=(false,TZ e X.env) :: T2 es X.env:=by rfl)(aV:(UA O (T2 es X.env)).any (·.1)=false:=by rfl) :
  PS X (.Raise (some (.Call (.Name x np) (e :: es) [] O)) none pos) (OP W C t):=by
 intro pins s σ H D I h;obtain ⟨nm,qn,NN,bs,bm,V,sn,sub,ab,B,dd,k0,k1,k2,k3,k5,lk,af,jv,tl⟩:=Ab5 q;obtain ⟨mN,hN,Y⟩:=Ao (Ab6 af I.aN);have hb:bm.contains (.type "BaseException")=true:=(tN I.aN tl).hasType tO.hasBase;refine wpAny_Raise_call_subT (nm:=nm) (q:=qn) (C:=C) (N:=NN) (bs:=bs) (hdct:=V) (sn:=sn) (sub:=sub) (ab:=ab) (col:=B) (dd:=dd) (k0:=k0) (k1:=k1) (k2:=k2) (k3:=k3) (k5:=k5) (mN:=mN) tO hb (I.ok.hd hc) (by rw [he];show (false || _)=false;exact aV) (Y _ jv) (Iy I hg hm ⟨rfl,?_⟩ hd);have J:=ha O pins s σ H _ I h;rw [he] at J ⊢;refine tJ (Vx J (λus s2 zz=>GH zz λvs H1 L r hl hE=>?_) λ_ _ z=>z);exact ⟨rfl,(by rw [<- r.length];exact hl),L.aN _ _ lk,hN _ L.aN,tN L.aN tl,λh' ea mx=>ht pins σ H1 s2 ea h' C _ L mx hE⟩
theorem Ae.lies {X:Cx}{pins:List (Addr×Obj)}{σ:St}{H:Hp}{s:TF}(I:Ae X pins σ H s):IX X pins σ H (XN s.heap (Cu X.stack)) s:=by
 have J:∀{b:Addr}{o:Obj},X.s₀.heap.get? b=some o->b ∉ X.fs->b ∉ Cu X.stack:=λ{b o} e D z=>by
  rcases T8.mp (I.cS b z) with y | y
  .exact I.gj e y
  .exact D y
 refine ⟨I,I.af.hide I.kh,λb o e n B hx=>Xk _ (I.base.keep b o e n B hx) (J e B),λb o e B hx=>?_,λp L=>?_⟩
 .obtain ⟨O,V⟩:=I.base.there b o e hx;exact ⟨O,Xk _ V (J e B)⟩
 .obtain ⟨e,n,ne,D,_⟩:=AW (I.pin p L);refine Xk _ e λz=>?_;rcases T8.mp (I.cS _ z) with y | y
  .exact ne y
  .exact D y
theorem CM:KY (CL (AJ P w) P w K mg base N qual scope f cd A outer s₀ H₀ E) (λ_=>E):=by intro pins σ H B ea h' C args I V hE;have L:=I.lies;have D:∀ env∈(CL (AJ P w) P w K mg base N qual scope f cd A outer s₀ H₀ E).stack,∀ b,env.frame=some b->b∈Cu (CL (AJ P w) P w K mg base N qual scope f cd A outer s₀ H₀ E).stack:=λenv he b hb=>YO.mpr ⟨env,he,hb⟩;show TL _ _ (leaving _ _) _ _ _;refine wpAny_leaves_madeW (s:={ B with heap:=h' }) (base:=XN B.heap (Cu (CL (AJ P w) P w K mg base N qual scope f cd A outer s₀ H₀ E).stack)) (h:=B.heap) I.ok.frames rfl (λb o z=>ZY _ z) (PySem.W.funFrames_hide I.stack D) V λh'' t Y tup tn up=>?_;have J:=L.move (tk:=B.toks) Y.1 ((Heap.UpToSlots.of_keeps V.keeps).trans up);exact ⟨ea,.ref C,.ref t,_,H,rfl,J.os,J.bare,J.base,Y,L.af,λb o e n O=>L.old b o e n O (by simp [CL]),λb o e O=>L.there b o e O (by simp [CL]),hE⟩
end
section
variable {X:Cx}{pins:List (Addr×Obj)}{σ:St}{H:Hp}{s:TF}
def G8 (ea:Addr)(cls:Value):HO:=.ext λh=>∃ o vs,h.get? ea=some o/\o.cls=cls/\o.data=.fields vs
end
end L2
namespace L2
open PySem PySem.Spec PySem.Calls PyProof.Rows PySem.W PySem.Builtin PySem.Builtin.ObjectAttr PySem.Builtin.Getset_descriptor
open Sem (wp)
def Ab8 (ea:Addr)(cls:Value)(h:Heap):Prop:=∃ o vs,h.get? ea=some o/\o.cls=cls/\o.data=.fields vs
structure Ee (K:Frag)(C:Addr):Prop where
 cls:(clsIn K C).isSome=true
 ga:findIn K (.ref C) "__getattribute__"=some (some (.builtin "BaseException.__getattribute__"))
 gt:findIn K (.ref C) "__getattr__"=some none
 cl:findIn K (.ref C) "__class__"=some (some (.builtin "object.__class__"))
 ob:subIn K (.ref C) (.type "object")=some true
 be:subIn K (.ref C) (.type "BaseException")=some true
section
variable {prog:TV}{w:TM}{A:Ub}{E:Value->TF->Prop}{K:Frag}{C ea:Addr}{h:Heap}{g:Array Xl}{d:Drawn}{t:Nat}{os:OsState}{o:Obj}
theorem KZ {M:Wb}(hx:h.get? ea=some o)(hc:o.cls=.ref C):Looks M h (typeOf (.ref ea)) (.ref C):=hc▸(Looks.ld hx).andThen .now
theorem Ab9 {R:WK->TF->Prop}(X:K.In h)(c:Ee K C)(hx:h.get? ea=some o)(hc:o.cls=.ref C)(hq:R (.ok (.ret (.ref C))) ⟨h,g,d,t,os⟩) :
  U8 (TQ prog w) A (.call (.builtin "getset_descriptor.__get__") ⟨[.builtin "object.__class__",.ref ea,.ref C],[]⟩) R ⟨h,g,d,t,os⟩:=by
 have B:=KZ (M:=TQ prog w) hx hc;have D:=looks_subIn (M:=TQ prog w) X c.ob;refine Ze KF.slot_gs.plain KF.entry_gs (KF.slot_gs.check _ _ _ _ _ _ _ _ KF.type_class (KF.args_gs _ _ _) ?_);unfold Builtin.«getset_descriptor.__get__» descrGet;rw [dga_obj];refine TR (T6 ?_);unfold descrGetter descrCheckInstance descrNameAndClass isInstance;simp only [KF.owner_class];repeat lk
 refine ⟨tP _ (by decide +kernel),XA KF.entry_class ?_⟩;unfold Builtin.«object.__class__» shownTypeOf;repeat lk
 exact hq
theorem Aca {M:Wb}{D:Value}{Q:Unit->TF->Prop}(X:K.In h)(c:Ee K C)(hx:h.get? ea=some o)(hc:o.cls=.ref C)(hq:Q () ⟨h,g,d,t,os⟩) :
  TL M A (Zf "BaseException.__getattribute__" ⟨[.ref ea,D],[]⟩) Q E ⟨h,g,d,t,os⟩:=by
 have hk:builtinKind "BaseException.__getattribute__"=some .slot:=by decide +kernel
 have B:splitId "BaseException.__getattribute__"=some ("BaseException","__getattribute__"):=by decide +kernel
 have H:=KZ (M:=M) hx hc;have I:=looks_subIn (M:=M) X c.be;have ha:=F.args_bexc_ga (.ref ea) D;have J:Looks M h (isInstance (.ref ea) (.type "BaseException")) true:=H.andThen I;simp only [Zf,hk,B];refine TR (J.at ?_);repeat (first | assumption | lk | wp_step)
theorem Acb {tk:Tok}{Q:Fin->TF->Prop}(X:K.In h)(c:Ee K C)(hx:h.get? ea=some o)(hc:o.cls=.ref C)(hq:Q (.done (.ret (.ref C))) ⟨h,g,d,t,os⟩) :
  TL (TQ prog w) A (Builtin.«object.__getattribute__» ⟨[.ref ea,.str "__class__" tk],[]⟩) Q E ⟨h,g,d,t,os⟩:=by
 have B:(⟨h,g,d,t,os⟩:TF).TypeIs (.builtin "object.__class__") "getset_descriptor":=tQ;have L2:=looks_findIn (M:=TQ prog w) X c.cl;have D:=tQ;have H:=F.slot_gs_get.lookup;have I:=F.slot_gs_set.lookup;repeat (any_goals (first | assumption | (with_reducible refine tR hx ?_;rw [hc]) | with_reducible refine L2.at ?_ | wp_step))
 refine Ab9 X c hx hc ?_;repeat (any_goals (first | assumption | wp_step))
theorem Acd {tk:Tok}{Q:Value->TF->Prop}(X:K.In h)(c:Ee K C)(hx:h.get? ea=some o)(hc:o.cls=.ref C)(hq:Q (.ref C) ⟨h,g,d,t,os⟩) :
  TL (TQ prog w) A (getAttrBy (.ref ea) (.str "__class__" tk) false) Q E ⟨h,g,d,t,os⟩:=by
 have I:=tS.ga.bind (.ref ea);have B:(Yb "BaseException.__getattribute__" == Yb "object.__getattribute__")=false:=by decide +kernel
 have D:(onTheHeap (Uz C) && Yb "BaseException.__getattribute__" == Yb "object.__getattribute__")=false:=by rw [B];rfl
 have L2:=looks_findIn (M:=TQ prog w) X c.ga;have H:=looks_findIn (M:=TQ prog w) X c.gt;repeat (any_goals (first | assumption | (with_reducible refine tR hx ?_;rw [hc]) | with_reducible refine L2.at ?_ | with_reducible refine H.at ?_ | wp_step))
 refine Ze tS.ga.plain F.entry_bexc_ga (Aca X c hx hc (Acb X c hx hc ?_));repeat (any_goals (first | assumption | wp_step))
theorem Ace {Q:Option Value->TF->Prop}(X:K.In h)(c:Ee K C)(hx:h.get? ea=some o)(hc:o.cls=.ref C)(hq:Q (some (.ref C)) ⟨h,g,d,t+1,os⟩):TL (TQ prog w) A (getAttr? (.ref ea) "__class__") Q E ⟨h,g,d,t,os⟩:=by unfold getAttr? getAttrBy?;repeat (any_goals (first | assumption | with_reducible apply Acd X c hx hc | wp_step))
theorem OQ (c:Ee K C):KitX K (.ref ea) (.ref C) (Ab8 ea (.ref C)) where
 ty:=λ_ _ _ H=>AH H λ_ _ e q _=>KZ e q
 it:=λ_ _ X _=>by
  obtain ⟨D,B⟩:=YZ.mp c.cls;unfold clsIn at B;split at B
  .rename_i c' d' cd' gm ho
   intro L O V Y k q;unfold isType loadHead;exact TR (Z5 (k _ _ (X _ _ ho)) (T6 q))
  .cases B
 ne:=λh I dd its n sl X J=>by
  obtain ⟨D,B⟩:=YZ.mp c.cls;refine WU.mpr λq=>?_;have e:C=I:=Value.ref.inj (beq_iff_eq.mp q);subst e;unfold clsIn at B;split at B
  .rename_i c' d' cd' gm ho
   have z:=(X _ _ ho).symm.trans J;cases z
  .cases B
 ca:=λ{prog w A E Q s} X ⟨o,vs,e,q,_⟩ k=>by
  obtain ⟨h,g,d,t,os⟩:=s;exact Ace X c e q k
end
end L2
namespace L2
open PySem PySem.Spec PyProof.Rows
mutual
inductive Is (K:TH)(H:Hp):V->PyData->Prop
 | aa:Is K H .aa .none
 | bl (b:Bool):Is K H (.bl b) (.bool b)
 | int (i:Int):Is K H (.int i) (.int i)
 | str (x:Str):Is K H (.str x) (.str x)
 | lst {a:Addr} {xs:List V} {ds:List PyData}:A7 K H a xs->aW K H xs ds->Is K H (.ref a) (.list ds)
 | tup {a:Addr} {xs:List V} {ds:List PyData}:Bl K H a xs->aW K H xs ds->Is K H (.ref a) (.tuple ds)
inductive aW (K:TH)(H:Hp):List V->List PyData->Prop
 | nil:aW K H [] []
 | cons {x:V} {xs:List V} {d:PyData} {ds:List PyData}:Is K H x d->aW K H xs ds->aW K H (x :: xs) (d :: ds)
end
theorem Ag.tup {K:TH}{H B:Hp}{a:Addr}{xs:List V}(e:Ag H B)(h:Bl K H a xs):Bl K B a xs:=by
 rcases h with (h | ⟨o,h⟩) | h
 .exact .inl (.inl (e _ _ h))
 .exact .inl (.inr ⟨o,e _ _ h⟩)
 .exact .inr h
section
variable {X:Cx}{pins:List (Addr×Obj)}{σ:St}{H H':Hp}{s:TF}{K:TH}
mutual
theorem Is.same:∀(d:PyData){x:V},Is K H x d->Ag H H'->Is K H' x d
 | .none,_,r,_=>by cases r;exact .aa
 | .bool _,_,r,_=>by cases r;exact .bl _
 | .int _,_,r,_=>by cases r;exact .int _
 | .str _,_,r,_=>by cases r;exact .str _
 | .list ds,_,r,e=>by cases r with | lst B D=>exact .lst (e.seq B) (aW.same ds D e)
 | .tuple ds,_,r,e=>by cases r with | tup B D=>exact .tup (e.tup B) (aW.same ds D e)
 | .dict _,_,r,_=>nomatch r
theorem aW.same:∀(ds:List PyData){xs:List V},aW K H xs ds->Ag H H'->aW K H' xs ds
 | [],_,r,_=>by cases r;exact .nil
 | d :: ds,_,r,e=>by cases r with | cons B D=>exact .cons (Is.same d B e) (aW.same ds D e)
end
mutual
theorem Is.reads:∀(d:PyData){x:V}{u:Value},Ae X pins σ H s->Is X.K H x d->AG x u->∃ B,Reads s.heap u d B
 | .none,_,_,_,r,q=>by cases r;cases q;exact ⟨_,.none⟩
 | .bool _,_,_,_,r,q=>by cases r;cases q;exact ⟨_,.bool _⟩
 | .int _,_,_,_,r,q=>by cases r;obtain ⟨t,rfl⟩:=q;exact ⟨_,.int _ _⟩
 | .str _,_,_,_,r,q=>by cases r;obtain ⟨t,rfl⟩:=q;exact ⟨_,.str _ _⟩
 | .list ds,_,_,I,r,q=>by
  cases r with
  | lst D J =>
   cases q;obtain ⟨its,L,⟨o,n,e,c,_,d⟩,_⟩:=AF (I.list D);obtain ⟨B,O⟩:=aW.reads ds I J L;exact ⟨_,.list e c d (by simpa using O)⟩
 | .tuple ds,_,_,I,r,q=>by
  cases r with
  | tup D J =>
   cases q;obtain ⟨its,L,⟨o,e,c,n,d⟩,_⟩:=AF (I.tuple D);obtain ⟨B,O⟩:=aW.reads ds I J L;exact ⟨_,.tuple e c d (by simpa using O)⟩
 | .dict _,_,_,_,r,_=>nomatch r
theorem aW.reads:∀(ds:List PyData){xs:List V}{us:List Value},Ae X pins σ H s->aW X.K H xs ds->As xs us->∃ B,ReadsAll s.heap us ds B
 | [],_,_,_,r,q=>by cases r;cases q;exact ⟨_,.nil⟩
 | d :: ds,_,_,I,r,q=>by
  cases r with
  | cons D J =>
   cases q with
   | cons L O =>
    obtain ⟨B,Y⟩:=Is.reads d I D L;obtain ⟨bs,rb⟩:=aW.reads ds I J O;exact ⟨_,.cons Y rb⟩
end
def G9 (K:TH)(neg:Bool):R2:=λx y H Q=>∃ d d',Is K H x d/\Is K H y d'/\d.canLay0=true/\d'.canLay0=true/\d.depth<=32/\Q (.bl (if neg then !Zg d d' else Zg d d')) H
theorem Acf (hu:X.A.units+64<cLine):A8 X (UJ .Eq) (G9 X.K false):=by intro pins s σ H x y v u Q I D J ⟨d,B,L,O,V,Y,hd,q⟩;obtain ⟨as,ra⟩:=Is.reads d I L D;obtain ⟨bs,rb⟩:=Is.reads B I O J;exact SeqAt.rcAt_reads ra rb V Y (by have:=tT d.depth B.depth;omega) _ _ _ _ ⟨.bl _,H,I,rfl,q⟩
theorem Acg (hu:X.A.units+64<cLine):A8 X (UJ .NotEq) (G9 X.K true):=by intro pins s σ H x y v u Q I D J ⟨d,B,L,O,V,Y,hd,q⟩;obtain ⟨as,ra⟩:=Is.reads d I L D;obtain ⟨bs,rb⟩:=Is.reads B I O J;exact SeqAt.rcNeAt_reads ra rb V Y (by have:=tT d.depth B.depth;omega) _ _ _ _ ⟨.bl _,H,I,rfl,q⟩
end
noncomputable def F7 {α:Type}(cs:List α)(lo hi:Option Int):List α:=(cs.drop (HT.aQ cs.length 0 lo)).take (HT.aQ cs.length cs.length hi - HT.aQ cs.length 0 lo)
noncomputable def He (z:Str)(lo hi:Option Int):Str:=⟨(F7 z.cps.toList lo hi).toArray⟩
theorem Ach (z:Str)(lo B:Option Int):(He z lo B).length<=z.length:=by show ((F7 z.cps.toList lo B).toArray).size<=z.cps.size;rw [Uw];unfold F7;rw [Vt,tu];simp only [Ve];omega
theorem OR (n:Nat)(o:Option Int):HT.aQ n n o<=n:=HT.oK n n (T3 _) o
theorem OS (n:Nat)(o:Option Int):HT.aQ n 0 o<=n:=HT.oK n 0 (UH _) o
theorem Aci (a b:Nat):XB (a:Int) (b:Int) 1=(UY (b - a)).map (λk=>a+k):=by
 unfold XB;simp only [show ((1:Int) > 0) from by decide,if_true];by_cases B:(a:Int)<b
 .have D:(((b:Int) - a+1 - 1) / 1).toNat=b - a:=by simp<;>omega
  simp only [B,if_true,D];refine WV λk _=>?_;omega
 .have:b - a=0:=by omega
  simp [B,this]
theorem OT (lo D:Option Int)(n:Nat):Yc lo D 1 n=(UY (HT.aQ n n D - HT.aQ n 0 lo)).map (λk=>HT.aQ n 0 lo+k):=by
 have B:∀(v:Int)(d:Nat),max (0:Int) (min (if v<0 then v+(n:Int) else v) (n:Int))=((HT.aQ n d (some v):Nat):Int):=by
  intro v d;rw [<- HT.aai v n d];by_cases hv:v<0
  .rw [if_pos hv,if_pos hv];omega
  .rw [if_neg hv,if_neg hv];omega
 rw [<- Aci];cases lo with
 | none =>
  cases D with
  | none=>rfl
  | some b =>
   show XB 0 (max (0:Int) (min (if b<0 then b+(n:Int) else b) (n:Int))) 1=_;rw [B b n];rfl
 | some a =>
  cases D with
  | none =>
   show XB (max (0:Int) (min (if a<0 then a+(n:Int) else a) (n:Int))) (n:Int) 1=_;rw [B a 0];rfl
  | some b =>
   show XB (max (0:Int) (min (if a<0 then a+(n:Int) else a) (n:Int))) (max (0:Int) (min (if b<0 then b+(n:Int) else b) (n:Int))) 1=_;rw [B a 0,B b n]
theorem Acj (z:Str)(lo B:Option Int):(Yc lo B 1 z.length).filterMap (z.cps[·]?)=F7 z.cps.toList lo B:=by
 rw [OT];have H:=OR z.length B;have I:=OS z.length lo;have D:z.cps.toList.length=z.length:=by simp [WR]
 unfold F7;rw [D];by_cases hc:HT.aQ z.length 0 lo<=HT.aQ z.length z.length B
 .have:=PySem.StrLaws.picks z.cps.toList (HT.aQ z.length z.length B - HT.aQ z.length 0 lo) (HT.aQ z.length 0 lo) (by rw [D];omega);simpa using this
 .have e:HT.aQ z.length z.length B - HT.aQ z.length 0 lo=0:=by omega
  rw [e];simp
theorem Ack (z:Str)(lo B:Option Int)(h:(Yc lo B 1 z.length).length=z.length):He z lo B=z:=by
 rw [OT,TU,Vg] at h;have J:=OR z.length B;have L:=OS z.length lo;have D:z.cps.toList.length=z.length:=by simp [WR]
 unfold He F7;rw [D];by_cases O:z.length=0
 .have:z.cps.toList=[]:=tU.mp (by omega);rw [this];cases z with | mk c=>cases c;simp_all
 .have H:HT.aQ z.length 0 lo=0:=by omega
  have I:HT.aQ z.length z.length B=z.length:=by omega
  rw [H,I,List.drop_zero,Nat.sub_zero,tV (by omega)]
section
variable {X:Cx}
def OU:V->Option Int->Option Int->Hp->VK->Prop:=λx lo hi H Q=>∃ z,x=.str z/\z.length<=sizeLine/\Q (.str (He z lo hi)) H
theorem Acl:EH X OU:=by
 intro pins s σ H x v J L lo B sl Q I O hs pl V h;replace h:=AF h;obtain ⟨z,rfl,Y,q⟩:=h
 obtain ⟨t,rfl⟩:=O;refine ⟨"str",_,F.slot_str_getitem.lookup,X5 s z t,?_⟩;obtain ⟨l,hl,hV⟩:∃ l,J=partValue l/\l.map (·.1)=lo:=by
  cases pl with
  | none=>exact ⟨none,rfl,rfl⟩
  | int i t=>exact ⟨some (i,t),rfl,rfl⟩
 obtain ⟨u,hu,D⟩:∃ u,L=partValue u/\u.map (·.1)=B:=by
  cases V with
  | none=>exact ⟨none,rfl,rfl⟩
  | int i t=>exact ⟨some (i,t),rfl,rfl⟩
 subst hl hu;refine wpAny_getItem_str_slice (l:=l) (u:=u) (st:=none) hs rfl ?_;unfold sliceMade slicePicked;simp only [Option.map_none,Y4,hV,D,beq_self_eq_true,Bool.true_and];by_cases hc:((Yc lo B 1 z.length).length == z.length)=true
 .rw [if_pos hc];rw [Ack z lo B (beq_iff_eq.mp hc)] at q;exact ⟨.str z,H,I,⟨t,rfl⟩,q⟩
 .rw [if_neg hc,Acj];exact ⟨UM (Ach z lo B) Y,.str _,H,I.tok _,⟨_,rfl⟩,q⟩
noncomputable def Fv (z:Str)(n:Int):Str:=⟨(TX n.toNat z.cps.toList).flatten.toArray⟩
def OV:R2:=λx y H Q=>∃ z n,x=.str z/\y=.int n/\0<=n/\n<2 ^ 40/\z.length * n.toNat<=sizeLine/\Q (.str (Fv z n)) H
end
end L2
namespace PySem.SeqAt
open AutoSeq1 (wpAny_loadPart')
open MeetsSeq MeetsSeq2 MeetsSeq3 SeqRoads2
end PySem.SeqAt
namespace L2
open PySem PySem.Spec PyProof.Rows
section
variable {X:Cx}
theorem Acm:A8 X (Vs .Mult) OV:=by
 intro pins s σ H x y v u Q I Y ry ⟨z,n,e1,D,h0,hn,hz,q⟩;subst e1 D;obtain ⟨t,rfl⟩:=Y;obtain ⟨t',rfl⟩:=ry;have fold:∀(k:Nat)(B:List Nat),((TX k z.cps).foldl (·++·) B.toArray)=(B++(TX k z.cps.toList).flatten).toArray:=by
  intro k;induction k with
  | zero=>intro B;simp
  | succ k ih =>
   intro B;rw [Wm,tK,Wm,W4];have e:B.toArray++z.cps=(B++z.cps.toList).toArray:=by simp
   rw [e,ih,Ur]
 have V:=fold n.toNat [];simp only [Za] at V;have len:(Fv z n).length=z.length * n.toNat:=by show (List.flatten _).toArray.size=_;rw [Uw,List.length_flatten,XC,List.sum_replicate_nat];simp [WR,Nat.mul_comm]
 have sl:sizeLine<=2 ^ 40:=by rw [TY];decide
 refine P.mul_str (by simp;omega) (λJ _=>?_) (λ_ _=>?_) ?_
 .have L:0<n:=by omega
  have:((z.length:Int))<=(2 ^ 63 - 1) / n:=by
   rw [Int.le_ediv_iff_mul_le L];have:((z.length * n.toNat:Nat):Int)<=2 ^ 40:=by omega
   rw [Int.natCast_mul,Int.toNat_of_nonneg h0] at this;omega
  omega
 .unfold Builtin.Str.tooLong;rw [decide_eq_false_iff_not];omega
 .by_cases J:n<1
  .have e:n=0:=by omega
   subst e;rw [if_pos J];have D:Fv z 0=UI:=rfl;rw [D] at q;exact ⟨by decide,.str _,H,I.tok _,⟨_,rfl⟩,q⟩
  .rw [if_neg J];by_cases O:(n == 1 || z.length == 0)=true
   .rw [if_pos O];have D:Fv z n=z:=by
     rcases Bool.or_eq_true_iff.mp O with h | h
     .have e:n=1:=beq_iff_eq.mp h;subst e;show (⟨(TX 1 z.cps.toList).flatten.toArray⟩:Str)=z;simp
     .have e:z.length=0:=beq_iff_eq.mp h;have e':z.cps.toList=[]:=tU.mp (by simpa [WR] using e);unfold Fv;rw [e'];cases z with | mk c=>cases c;simp_all
    rw [D] at q;exact ⟨.str _,H,I,⟨_,rfl⟩,q⟩
   .rw [if_neg O];have D:(⟨(TX n.toNat z.cps).foldl (·++·) #[]⟩:Str)=Fv z n:=by
     unfold Fv;rw [<- V]
    rw [D];exact ⟨by rw [len];exact hz,.str _,H,I.tok _,⟨_,rfl⟩,q⟩
def F8 (z:Str):It:=⟨λi _=>i<z.cps.size,λi H x H'=>H'=H/\∃ c,z.cps.toList[i]?=some c/\x=.str ⟨#[c]⟩,λi _=>z.cps.size<=i⟩
theorem Acn {P:TV}{w:TM}{K:TH}{tg:TN}(z:Str)(t:Tok)(it:Addr):EB P w K tg (F8 z) [it] it (λi h=>h.IsStrIter it "str_ascii_iterator" z t i) where
 mem:=by simp
 obj:=λi h st b hb=>by
  have e:b=it:=by simpa using hb
  subst e;obtain ⟨o,e,c,d⟩:=AF st;exact ⟨o,e,λv z=>by rw [d] at z;cases z⟩
 keep:=λi h B ⟨o,e,r⟩ k=>⟨o,k it (by simp) o e,r⟩
 item:=by intro X J hw L hc i pins s σ H E I D st O;subst J hw L;obtain ⟨V,f1,f2,Y,f4,f5⟩:=AW (D it (by simp));have hx:z.cps[i]?=some z.cps[i]:=W6 O;refine wpAny_pyNext_ascii_item st hx λB bg sb=>?_;have I1:Ae X pins σ H { s with heap:=B,toks:=s.toks+1 }:=I.turned (t':=s.toks+1) (λb o hb e=>(sb.2 b hb).trans e) V f1 Y f4 f5;obtain ⟨o,e,c,d⟩:=AF (id bg);exact ⟨_,rfl,GS (s:={ s with heap:=B,toks:=s.toks+1 }) e c d (by decide) ⟨.str _,H,I1,⟨_,rfl⟩,⟨rfl,z.cps[i],by rw [Y8];exact hx,rfl⟩,bg,λb hb=>(D b hb).1⟩⟩
 done:=by intro X J hw L hc i pins s σ H E I D st O;subst J hw L;obtain ⟨V,f1,f2,Y,f4,f5⟩:=AW (D it (by simp));exact wpAny_pyNext_ascii_end (I.ok.hd hc) st (Array.getElem?_eq_none O) λB eb=>⟨rfl,I.turned (t':=s.toks) (λb o hb e=>eb b o hb e) V f1 Y f4 f5⟩
 self:=λ_ _ _ _ _ st h=>wpAny_pyIter_striter_ascii st h
def Aco (tl:TE):TI:=λσ H R=>tl σ H λx H1=>∃ z,x=.str z/\z.cps.all (·<128)=true/\R (F8 z) H1
theorem Acp {O l:TN}{tl:TE}(V:PE X l tl):PI X O l (Aco tl):=by
 intro pins s σ H R I h;refine Am (V pins s σ H _ I h) λv B Y=>AH Y λx L D r1 J=>?_;replace J:=AF J;obtain ⟨z,rfl,ha,q⟩:=J
 obtain ⟨t,rfl⟩:=r1;refine wpAny_pyIter_ascii ha ?_;have I2:Ae X pins σ L { B with heap:=B.heap.push { cls:=.type "str_ascii_iterator",data:=.fields #[.str z t,.int 0 0] } }:=D.kept (t':=B.toks) λb ob q=>Ul _ q;exact ⟨_,[B.heap.objs.size],_,F8 z,L,rfl,I2,Acn z t _,⟨_,U2 _ rfl,rfl,rfl⟩,λb hb=>by
  have e:b=B.heap.objs.size:=by simpa using hb
  subst e;exact D.dI (T3 _) (D.af.fresh (T3 _)),q⟩
theorem Acq:BB X (.type "int") (λxs H Q=>∃ z n,xs=[.str z]/\XD z=some n/\z.length<=640/\Q (.int n) H):=by intro pins s σ H xs J Q I r ⟨z,n,e,B,D,q⟩;subst e;obtain ⟨u,rfl,t,rfl⟩:=Ao r.one;exact PySem.W.KIN.call_text B D ⟨.int n,H,I.tok _,⟨_,rfl⟩,q⟩
inductive Hg (K:TH)(H:Hp):V->Value->Prop where
 | of {x:V} {t:Value} (h:Dk K H x t):Hg K H x t
 | exc {a C:Addr} (e:H a=some (G8 a (.ref C))) (c:Ee K C):Hg K H (.ref a) (.ref C)
theorem Acr {pins:List (Addr×Obj)}{σ:St}{H:Hp}{s:TF}{A:Ub}{E:Value->TF->Prop}{Q:Value->TF->Prop}{c:Value}{b:Bool}{x:V}{u t:Value}(I:Ae X pins σ H s)(B:AG x u)(ty:Hg X.K H x t)(e:Xs X.K t c=some b)(h:∀ tk,Q (.bool b) { s with toks:=tk }) :
  TL (TQ X.prog X.w) A (call (.builtin "isinstance") [u,c]) Q E s:=by
 cases ty with
 | of ty=>exact Abh I B ty e h
 | @exc a C D J =>
  cases (show u=Uz a from B);obtain ⟨p,_⟩:=(show Bg X.prog X.w H s.heap a (G8 a (.ref C)) from I.af a _ D);exact Vz (OQ J) I.aN p e (λz=>nomatch z) h
noncomputable def Fw:V->Option Value
 | .ref a=>some (.ref a)
 | .ty n=>some (.type n)
 | _=>none
theorem OW {c:V}{u v:Value}(e:Fw c=some v)(r:AG c u):u=v:=by cases c<;>simp only [Fw] at e<;>first | (cases e;done) | (cases e;exact r)
theorem Acs:BB X (.builtin "isinstance") (λxs H Q=>∃ x c t v b,xs=[x,c]/\Hg X.K H x t/\Fw c=some v/\Xs X.K t v=some b/\Q (.bl b) H):=by intro pins s σ H xs J Q I r ⟨x,c,t,v,b,e,ty,hc,hk,q⟩;subst e;obtain ⟨u,w,rfl,B,D⟩:=Bk r.two;cases OW hc D;exact Acr I B ty hk λL=>⟨.bl b,H,I.tok _,rfl,q⟩
theorem OX:∀{B:List V}{us vs:List Value},B.mapM Fw=some vs->As B us->us=vs
 | [],_,vs,e,r=>by cases r;simp at e;exact e.symm
 | c :: B,_,vs,e,r=>by
  cases r with
  | cons H I =>
   simp only [List.mapM_cons,Option.bind_eq_bind,Option.bind_eq_some_iff,Option.pure_def,Option.some.injEq] at e;replace e:=Ao e;obtain ⟨v,hv,J,D,rfl⟩:=e
   rw [OW hv H,OX D I]
theorem Acu:BB X (.builtin "isinstance") (λxs H Q=>∃ a C p B vs b,xs=[.ref a,.ref p]/\H a=some (G8 a (.ref C))/\Ee X.K C/\H p=some (.tup B)/\B.mapM Fw=some vs/\tW X.K (.ref C) vs=some b/\Q (.bl b) H):=by intro pins s σ H xs us Q I r ⟨a,C,p,B,vs,b,e,L,O,V,hc,hk,q⟩;subst e;obtain ⟨u,w,rfl,Y,bV⟩:=Bk r.two;cases (show u=Uz a from Y);cases (show w=Uz p from bV);obtain ⟨p1,_⟩:=(show Bg X.prog X.w H s.heap a (G8 a (.ref C)) from I.af a _ L);obtain ⟨_,its,rv,⟨cls,dd,data,sl⟩,e1,D,n,J⟩:=(show Bg X.prog X.w H s.heap p (.tup B) from I.af p _ V);simp only at D J;subst D J;cases OX hc rv;exact PySem.W.kia_tup (OQ O) I.aN p1 e1 hk (λz=>nomatch z) λtk=>⟨.bl b,H,I.tok _,rfl,q⟩
theorem Hh {e:TN}{J:TE}{pos:Pos}(V:PE X e J):PE X (.FormattedValue e 114 none pos) (λσ H Q=>J σ H λx B=>∃ z,x=.str z/\(Zh z).length<=sizeLine/\Q (.str (Zh z)) B):=by
 intro pins s σ H Q I h;refine wpAny_FormattedValue_repr (Am (V pins s σ H _ I h) λv s1 Y=>AH Y λx B L r1 D=>?_);replace D:=AF D;obtain ⟨z,rfl,O,q⟩:=D
 obtain ⟨t,rfl⟩:=r1;refine wpAny_pyReprObj_gives (X5 _ _ _) F.slot_str_repr F.entry_str_repr (F.args_str_repr_1 _) (gives_str_repr z t) ?_ rfl O;exact tX ⟨.str _,B,L.tok _,⟨_,rfl⟩,q⟩ ⟨.str _,B,L.tok _,⟨_,rfl⟩,q⟩ O
abbrev TJ:=Str->St->Hp->(Str->Hp->Prop)->Prop
def PJ (X:Cx)(es:List TN)(t:TJ):Prop:=∀(acc:Str)(pins:List (Addr×Obj))(s:TF)(σ:St)(H:Hp)(Q:Str->Hp->Prop),Ae X pins σ H s->t acc σ H Q ->
 Joins (TQ X.prog X.w) X.A X.xe (evalEach es X.env) acc (λout s₁=>∃ H',Ae X pins σ H' s₁/\Q out H') s
theorem Fx:PJ X [] (λB _ H Q=>Q B H):=λ_ _ _ _ H _ I h=>⟨H,I,h⟩
theorem Ck {e:TN}{es:List TN}{L:TE}{O:TJ}(V:PE X e L)(hs:PJ X es O)(Y:evalEach (e :: es) X.env=TZ e X.env :: evalEach es X.env:=by rfl) :
  PJ X (e :: es) (λB σ H Q=>L σ H λx D=>∃ y,x=.str y/\(B++y).length<=sizeLine/\O (B++y) σ D Q):=by
 intro B pins s σ H Q I h;rw [Y];refine Am (V pins s σ H _ I h) λv s1 zz=>AH zz λx D I1 r1 J=>?_;replace J:=AF J;obtain ⟨y,rfl,hz,q⟩:=J
 obtain ⟨t,rfl⟩:=r1;exact ⟨y,t,rfl,hz,hs _ pins s1 σ D Q I1 q⟩
theorem Joins.imp {M:Wb}{A:Ub}{E:Value->TF->Prop}{Q D:Str->TF->Prop}(hq:∀ x s,Q x s->D x s):∀{l:List (Sem Value)}{B:Str}{s:TF},Joins M A E l B Q s->Joins M A E l B D s
 | [],_,_,h=>hq _ _ h
 | x :: rest,B,s,h=>Am (t:=x) h λv J H=>AH H λy t e I r=>⟨y,t,e,I,Joins.imp hq r⟩
theorem Fy {e e':TN}{es:List TN}{D:TJ}{pos:Pos}(h:PJ X (e :: e' :: es) D):PE X (.JoinedStr (e :: e' :: es) pos) (λσ H Q=>D UI σ H λout B=>out.length<=sizeLine/\Q (.str out) B):=by intro pins s σ H Q I hw;refine wpAny_JoinedStr (Joins.imp (λout O ⟨B,J,L,q⟩=>?_) (h UI pins s σ H _ I hw));exact ⟨L,.str out,B,J.tok _,⟨_,rfl⟩,q⟩
end
section
variable {P:TV}{w:TM}{K:TH}{mg:Str->Option Value}{base:Heap}
theorem AL.bf {x B:Str}{st:Stmt}{f:Addr}{I:T5}{N ps:List Str}{k:Nat}{sp:Sp}(F:AL K x B st f I)(S:AR N ps (Ab st))(J:∀ (D:Value) (A:Ub) (outer:List Env) (s:TF) (H:Hp) (vs:List V) (Q:VK) (E:XK),Bq k (A.deeper (VO B (Ab st) s.heap.objs.size f D))->sp vs H Q E ->
   ∃ t,CQ (CL (AJ P w) P w K mg base N B (Ab st) f D A outer s H E) (C4 st) t/\t { nx:=λ_ L=>Q .aa L,rt:=Q } (AQ N vs) H)(len:∀ vs H Q E,sp vs H Q E->vs.length=ps.length:=by intro _ _ _ _ h;repeat (first | exact congrArg WQ h.1 | obtain ⟨_,h⟩:=h)):AE P w K mg base (AJ P w) (k+1) f I ps sp:=by
 obtain ⟨oc,od,kV,O,pm,an,D,ct,dN,rfl,lk,Y⟩:=KA F.ex;exact OA lk Y S len λA outer s H vs Q E hr dj=>J D A outer s H vs Q E hr dj
def BX (P:TV)(w:TM)(K:TH)(mg:Str->Option Value)(base:Heap)(CX:B4)(k:Nat)(x:Str)(ps:List Str)(sp:Sp):Prop :=
 ∃ f fd,mg x=some (.ref f)/\U5 K (.ref f)=true/\C3 K fd ps []/\AE P w K mg base CX k f fd ps sp
end
section
variable {X:Cx}{CX:B4}{k:Nat}{x:Str}{ps:List Str}{sp:Sp}{p pos:Pos}{e:TN}{es:List TN}{t:TA}
theorem Acv {E:XK}(D:BX X.prog X.w X.K X.mg X.base CX k x ps sp)(B:Bq k X.A)(hx:CB CX X E)(ha:PA X (e :: es) t)(H:Gl X x:=by rfl)(I:(x == ("__debug__":Str))=false:=by decide)(J:T2 (e :: es) X.env=(false,TZ e X.env) :: T2 es X.env:=by rfl)(L:(UA pos (T2 es X.env)).any (·.1)=false:=by rfl) :
  PE X (.Call (.Name x p) (e :: es) [] pos) (IM sp [] E t):=by
 obtain ⟨f,fd,O,V,Y,h4⟩:=Bk D;exact Abn h4 B H O V Y .nil hx ha I J L
theorem Ef {P:TV}{w:TM}:CB (AJ P w) X E0:=λ_ _ _ _ _ _ _ h=>by
 obtain ⟨_,_,_,_,_,_,_,_,_,_,_,_,_,z⟩:=Fl h;exact z.elim
end
section
variable {X:Cx}
theorem Cr:A8 X (Vs .Add) (λx y H Q=>(∃ i j,x=.int i/\y=.int j/\Q (.int (i+j)) H)\/(∃ i j,x=.str i/\y=.str j/\i.length+j.length<=sizeLine/\Q (.str (i++j)) H)\/OL x y H Q):=AaR.or (Aa3.or AbW)
theorem Cc:A8 X (Vs .Mult) (λx y H Q=>(∃ i j,x=.int i/\y=.int j/\GV i j/\Q (.int (i * j)) H)\/OV x y H Q\/OM x y H Q):=AaS.or (Acm.or AbY)
theorem CC (hu:X.A.units+64<cLine):A8 X (UJ .Eq) (λx y H Q=>KO x y H Q\/G9 X.K false x y H Q):=AaU.or (Acf hu)
theorem DC (hu:X.A.units+64<cLine):A8 X (UJ .NotEq) (λx y H Q=>N9 x y H Q\/G9 X.K true x y H Q):=AaV.or (Acg hu)
noncomputable def F9 (i j:Str):Bool:=!(YQ j i 0 j.length 1).isEmpty
theorem K0:A8 X (UJ .In) (λx y H Q=>(∃ i j,x=.str i/\y=.str j/\Q (.bl (F9 i j)) H)\/GY X.K false x y H Q):=AaX.or AbL
theorem Acw:A8 X (UJ .NotIn) (λx y H Q=>(∃ i j,x=.str i/\y=.str j/\Q (.bl (!F9 i j)) H)\/GY X.K true x y H Q):=AbN.or AbM
theorem Cw:BB X (.builtin "len") (λxs H Q=>(∃ z,xs=[.str z]/\z.length<=sizeLine/\Q (.int z.length) H)\/∃ p ys,xs=[.ref p]/\(A7 X.K H p ys\/Bl X.K H p ys)/\Q (.int ys.length) H):=AbP.or AbO
theorem Acx:BB X (.builtin "isinstance") (λxs H Q=>(∃ x c t v b,xs=[x,c]/\Hg X.K H x t/\Fw c=some v/\Xs X.K t v=some b/\Q (.bl b) H) \/
 ∃ a C p B vs b,xs=[.ref a,.ref p]/\H a=some (G8 a (.ref C))/\Ee X.K C/\H p=some (.tup B)/\B.mapM Fw=some vs/\tW X.K (.ref C) vs=some b/\Q (.bl b) H):=Acs.or Acu
theorem Acy:BB X (.type "int") (λxs H Q=>∃ z n,xs=[.str z]/\XD z=some n/\z.length<=640/\Q (.int n) H):=Acq
theorem Acz:EH X (λx lo B H Q=>OU x lo B H Q\/OG X.K x lo B H Q):=Acl.or AbJ
end
theorem Ga {α:Type}{xs:List α}{k:Int}(D:0<=k)(h:k<xs.length):∃ v,BA xs k=some v/\xs[k.toNat]?=some v:=by
 have B:k.toNat<xs.length:=by omega
 refine ⟨xs[k.toNat],?_,Ug B⟩;unfold BA DQ;rw [if_pos D,if_pos h];exact Ug B
theorem Gb {ns:List Int}{k:Int}(H:0<=k)(h:k<ns.length):BA (ns.map V.int) k=some (.int (ns.getD k.toNat 0)):=by
 obtain ⟨v,I,B⟩:=Ao (Ga (xs:=ns.map V.int) H (by simpa using h));have D:k.toNat<ns.length:=by omega
 rw [T7,Ug D] at B;cases B;rw [I];simp [UO,Ug D]
theorem Ag.upd {H B:Hp}{p:Addr}{o:HO}(s:Ag H B)(h:B p=none):Ag H (upd B p o):=λb I e=>by
 have D:=s b I e;rw [Ap (Cb D h)];exact D
theorem Ag.bI {H B:Hp}{p:Addr}{o:HO}(s:Ag H B)(h:H p=none):Ag H (L2.upd B p o):=λb D e=>by
 rw [Ap (Cb e h)];exact s b D e
structure Nm (sc:Scope)(x:Str):Prop where
 loc:sc.names.lookup x=some .local
 db:(x == ("__debug__":Str))=false
 cd:(x == ("__classdict__":Str))=false
structure Gm (sc:Scope)(x:Str):Prop where
 gl:sc.names.lookup x=some .globalImplicit
 db:(x == ("__debug__":Str))=false
 nn:x≠"__name__"
theorem Nm.of {sc:Scope}{x:Str}(a:sc.names.lookup x=some .local:=by decide +kernel)(b:(x == ("__debug__":Str))=false:=by decide +kernel)(c:(x == ("__classdict__":Str))=false:=by decide +kernel):Nm sc x:=⟨a,b,c⟩
theorem Gm.of {sc:Scope}{x:Str}(a:sc.names.lookup x=some .globalImplicit:=by decide +kernel)(b:(x == ("__debug__":Str))=false:=by decide +kernel)(c:x≠"__name__":=by decide +kernel):Gm sc x:=⟨a,b,c⟩
theorem AR.of {N P:List Str}{sc:Scope}(a:sc.kind=.function:=by rfl)(b:sc.isCoroutine=false:=by rfl)(c:sc.isGenerator=false:=by rfl)(d:N.Nodup:=by decide +kernel)(e:N.take P.length=P:=by rfl)(f:∀ x∈P,sc.names.lookup x=some .local\/sc.names.lookup x=some .cell:=by decide +kernel)(g:∀ y∈sc.names,y.2≠.free:=by decide +kernel):AR N P sc:=⟨a,b,c,d,e,f,g⟩
theorem Cn:U0 "len"=some (.builtin "len"):=by decide +kernel
theorem AcA:U0 "isinstance"=some (.builtin "isinstance"):=by decide +kernel
theorem OY:U0 "int"=some (.type "int"):=by decide +kernel
theorem AcB:U0 "bool"=some (.type "bool"):=by decide +kernel
theorem IY:U0 "str"=some (.type "str"):=by decide +kernel
theorem Hi:U0 "list"=some (.type "list"):=by decide +kernel
theorem IZ:U0 "tuple"=some (.type "tuple"):=by decide +kernel
theorem AcC:U0 "set"=some (.type "set"):=by decide +kernel
theorem I0:U0 "sorted"=some (.builtin "sorted"):=by decide +kernel
theorem AcD:U0 "all"=some (.builtin "all"):=by decide +kernel
section
variable {X:Cx}{x:Str}{pos p:Pos}
theorem Aa (i:Nat)(n:Nm X.env.scope x)(B:X.N[i]?=some x:=by rfl):PE X (.Name x pos) (Iw i):=KC B (T9 n.loc) n.db n.cd
theorem Bt (i:Nat)(B:X.N.Nodup)(n:Nm X.env.scope x)(D:X.N[i]?=some x:=by rfl):PG X (.Name x pos) (Cj i):=Aaz B D (T9 n.loc) (T1 n.loc)
theorem Bb (i:Nat){e:TN}{D:TE}{B:Pos}(H:X.N.Nodup)(n:Nm X.env.scope x)(I:PE X e D)(J:X.N[i]?=some x:=by rfl)(hs:WD e (some (.Name x B)) pos.line X.env=pure false:=by rfl) :
  PS X (.Assign [.Name x B] e pos) (GR D (Cj i)):=NZ H J (T9 n.loc) I hs (T1 n.loc)
theorem Fz {v:V}{u:Value}(g:Gm X.env.scope x)(B:X.mg x=some u)(r:AG v u):PE X (.Name x pos) (tC v):=Aam g.gl B r g.db
theorem AcE {v:V}{u:Value}(g:Gm X.env.scope x)(B:X.mg x=none)(hv:U0 x=some u)(r:AG v u):PE X (.Name x pos) (tC v):=Aan g.gl B hv r g.nn g.db
variable {e:TN}{es:List TN}{t:TA}{id T:String}{r:List V->Hp->VK->Prop}
theorem BR (hc:BB X (.builtin id) r)(g:Gm X.env.scope x)(B:X.mg x=none)(hv:U0 x=some (.builtin id))(ha:PA X (e :: es) t)(D:T2 (e :: es) X.env=(false,TZ e X.env) :: T2 es X.env:=by rfl)(H:(UA pos (T2 es X.env)).any (·.1)=false:=by rfl):PE X (.Call (.Name x p) (e :: es) [] pos) (IQ r t):=Abt hc g.gl B hv ha g.nn g.db D H
theorem Cy (hc:BB X (.type T) r)(g:Gm X.env.scope x)(B:X.mg x=none)(hv:U0 x=some (.type T))(ha:PA X (e :: es) t)(D:T2 (e :: es) X.env=(false,TZ e X.env) :: T2 es X.env:=by rfl)(H:(UA pos (T2 es X.env)).any (·.1)=false:=by rfl):PE X (.Call (.Name x p) (e :: es) [] pos) (IQ r t):=Abu hc g.gl B hv ha g.nn g.db D H
theorem BS {CX:B4}{k:Nat}{ps:List Str}{sp:Sp}{E:XK}(D:BX X.prog X.w X.K X.mg X.base CX k x ps sp)(g:Gm X.env.scope x)(B:Bq k X.A)(hx:CB CX X E)(ha:PA X (e :: es) t)(H:T2 (e :: es) X.env=(false,TZ e X.env) :: T2 es X.env:=by rfl)(I:(UA pos (T2 es X.env)).any (·.1)=false:=by rfl) :
  PE X (.Call (.Name x p) (e :: es) [] pos) (IM sp [] E t):=Acv D B hx ha g.gl g.db H I
theorem FA {D b:TN}{B:TA}(g:Gm X.env.scope "range")(H:X.mg "range"=none)(ha:PA X [b] B)(hs:T2 [b] X.env=[(false,TZ b X.env)]:=by rfl):PI X D (.Call (.Name "range" p) [b] [] pos) (N3 B):=AaM g.gl H ha hs
theorem CN {W:St->XK}{C:Addr}{D B:Pos}(H:KY X W)(g:Gm X.env.scope x)(hc:X.calm=true)(q:Vn X.K C [.type "ValueError",.type "Exception",.type "BaseException",.type "object"] "ValueError.__new__"=true)(I:X.mg x=some (.ref C))(ha:PA X (e :: es) t)(J:T2 (e :: es) X.env=(false,TZ e X.env) :: T2 es X.env:=by rfl)(L:(UA B (T2 es X.env)).any (·.1)=false:=by rfl) :
  PS X (.Raise (some (.Call (.Name x D) (e :: es) [] B)) none pos) (OP W C t):=Ab7 H hc q I ha g.gl g.db J L
end
noncomputable def Hj:TN->Option V
 | .Constant (.int i) _ _=>some (.int i)
 | .Constant (.str x) _ _=>some (.str x)
 | .Constant (.bool b) _ _=>some (.bl b)
 | .Constant .none _ _=>some .aa
 | _=>none
noncomputable def K1:List TN->Option (List V)
 | []=>some []
 | e :: es=>match Hj e,K1 es with
  | some v,some vs=>some (v :: vs)
  | _,_=>none
section
variable {X:Cx}
theorem AcF {e:TN}{v:V}(h:Hj e=some v):PE X e (tC v):=by unfold Hj at h;split at h<;>first | (cases h;first | exact Aq | exact Az | exact Dq | exact B8) | cases h
theorem AcG {e:TN}{v:V}(h:Hj e=some v)(es:List TN):T2 (e :: es) X.env=(false,TZ e X.env) :: T2 es X.env:=by unfold Hj at h;split at h<;>first | rfl | cases h
theorem K2:∀{es:List TN}{vs:List V},K1 es=some vs->PA X es (λ_ H Q=>Q vs H)
 | [],vs,h=>by
  cases h;exact Af
 | e :: es,vs,h=>by
  unfold K1 at h;split at h
  .rename_i v vs' h1 h2
   cases h;exact Ac (AcF h1) (K2 h2) (AcG h1 es)
  .cases h
end
theorem Ja {env:Env}{x:Str}:∀{ns:List (Str×Wi)},(ns.map λ(n,k)=>if (k == Wn && env.scope.kind == .function && env.kindOf n == some .cell) then (n,NameKind.cell) else (n,k)).lookup x
   =(ns.lookup x).map λk=>if (k == Wn && env.scope.kind == .function && env.kindOf x == some .cell) then NameKind.cell else k
 | []=>rfl
 | (n,k) :: r=>by
  have ih:=@Ja env x r;rw [U4];cases q:x == n with
  | true =>
   have e:x=n:=beq_iff_eq.mp q;subst e;rw [Wo,Wo,q];by_cases hc:(k == Wn && env.scope.kind == .function && env.kindOf x == some .cell)=true
   .simp only [hc,if_true,q,U7]
   .simp only [hc,if_false,q,U7,W7]
  | false =>
   rw [Wo,Wo,q];by_cases hc:(k == Wn && env.scope.kind == .function && env.kindOf n == some .cell)=true
   .simp only [hc,if_true,q];exact ih
   .simp only [hc,if_false,q,W7];exact ih
theorem Jb {sc:Scope}{env:Env}{x:Str}(h:sc.names.lookup x=some .free):(VH sc env).names.lookup x=some .cell\/(VH sc env).names.lookup x=some .free:=by
 have e:(VH sc env).names.lookup x=_:=Ja;rw [h] at e;rw [e,U7];by_cases hc:(Wn == Wn && env.scope.kind == .function && env.kindOf x == some .cell)=true
 .rw [if_pos hc];exact .inl rfl
 .rw [if_neg hc];exact .inr rfl
theorem OZ {sc:Scope}{env:Env}{x:Str}{k:Wi}(h:sc.names.lookup x=some k)(hk:(k == Wn)=false):(VH sc env).names.lookup x=some k:=by have e:(VH sc env).names.lookup x=_:=Ja;rw [h,U7,hk] at e;exact e
theorem AcH {sc:Scope}{env:Env}{x:Str}(B:∀ y∈sc.names,y.2≠.cell)(h:(VH sc env).names.lookup x=some .cell\/(VH sc env).names.lookup x=some .free):sc.names.lookup x=some .free:=by
 have e:(VH sc env).names.lookup x=_:=Ja;cases q:sc.names.lookup x with
 | none=>rw [q] at e;rw [e] at h;rcases h with z | z<;>cases z
 | some k =>
  rw [q,U7] at e;cases k with
  | free=>rfl
  | cell=>exact absurd rfl (B _ (VP q))
  | _=>rw [e] at h;rcases h with z | z<;>cases z
theorem K4 {env:Env}:∀(ns:List (Str×Wi))(B:List (Str×Addr)),(∀ y∈ns,y.2=.free->∃ c,env.cells.lookup y.1=some c)->(∀ x c,B.lookup x=some c->env.cells.lookup x=some c) ->
  ∃ D,(forIn ns B λ(x:Str×Wi) (r:List (Str×Addr))=>if (x.2 == .free)=true then do let c <- cellOf env x.1;pure (Yd ((x.1,c) :: r)) else pure (Yd r):Sem (List (Str×Addr)))=pure D /\
   (∀ x c,D.lookup x=some c->env.cells.lookup x=some c)/\(∀ y∈ns,y.2=.free->∃ c,D.lookup y.1=some c)/\∀ x c,B.lookup x=some c->∃ H,D.lookup x=some H
 | [],B,_,J=>⟨B,rfl,J,λy hy=>by simp at hy,λx c e=>⟨c,e⟩⟩
 | (n,k) :: r,B,h1,J=>by
  rw [List.forIn_cons];by_cases hk:k=.free
  .subst hk;obtain ⟨c,hc⟩:=h1 (n,.free) UC rfl;have hc:env.cells.lookup n=some c:=hc;obtain ⟨D,e,O,V,I⟩:=K4 r ((n,c) :: B) (λy hy=>h1 y (Uu _ hy)) (λx H e=>by
    rw [Wo] at e;cases q:x == n with
    | true=>rw [q] at e;cases e;rw [beq_iff_eq.mp q];exact hc
    | false=>rw [q] at e;exact J x H e)
   refine ⟨D,?_,O,λy hy L=>?_,λx H e=>?_⟩
   .have:cellOf env n=pure c:=by unfold cellOf;rw [hc]
    simp only [beq_self_eq_true,if_true,this,pure_bind];exact e
   .rcases T8.mp hy with z | z
    .subst z;exact I n c (by rw [Wo,beq_self_eq_true])
    .exact V y z L
   .cases q:x == n with
    | true=>exact I x c (by rw [Wo,q])
    | false=>exact I x H (by rw [Wo,q];exact e)
  .have hb:(k == Wn)=false:=beq_eq_false_iff_ne.mpr hk;obtain ⟨D,e,O,V,I⟩:=K4 r B (λy hy=>h1 y (Uu _ hy)) J;refine ⟨D,?_,O,λy hy L=>?_,I⟩
   .simp only [hb,W7,if_false,pure_bind];exact e
   .rcases T8.mp hy with z | z
    .subst z;exact absurd L hk
    .exact V y z L
theorem K5 {env:Env}{sc:Scope}(h:∀ y∈sc.names,y.2=.free->∃ c,env.cells.lookup y.1=some c) :
  ∃ B,closureFor sc env=pure B/\(∀ x c,B.lookup x=some c->env.cells.lookup x=some c)/\∀ y∈sc.names,y.2=.free->∃ c,B.lookup y.1=some c:=by
 obtain ⟨B,e,D,H,_⟩:=K4 sc.names [] h (λx c e=>by cases e);refine ⟨B,?_,D,H⟩;unfold closureFor;show (forIn sc.names ([]:List (Str×Addr)) _ >>= λr=>pure r)=_;rw [bind_pure];rw [<- e]
theorem Cs {α:Type}{M:Wb}{A:Ub}{t:Sem α}{Q B:α->TF->Prop}{E:Value->TF->Prop}{s:TF}(h:TL M A t Q (λ_ _=>False) s)(hq:∀ a s,Q a s->B a s):TL M A t B E s:=Vx h hq λ_ _ f=>f.elim
noncomputable def Hk (ifs:List TN)(env:Env):Sem Bool:=forIn ifs true λc r=>if r=true then do let ok <- Xm c env (TZ c env);pure (Yd ok) else pure (Yd r)
theorem AcI {prog:TV}{w:TM}{A:Ub}{R:WK->TF->Prop}{s:TF}{B O iter:TN}{D:List TN}{sc:Scope}{pos:Pos}{it H:Value}{env:Env}(I:Nat->TF->Prop)(turn:∀ n s,I n s->TL (TQ prog w) A (Vy it) (λr V=>match r with
   | none=>R (.ok .next) V
   | some v=>TL (TQ prog w) A (WH O it v) (λ_ s₂=>TL (TQ prog w) A (VE O env v) (λ_ s₃=>TL (TQ prog w) A (Hk D env) (λok Y =>
     if ok=true then TL (TQ prog w) A (TZ B env) (λx s₅=>TL (TQ prog w) A (call (.builtin "list.append") [H,x]) (λ_ s₆=>∃ m,m<n/\I m s₆) (λ_ _=>False) s₅) (λ_ _=>False) Y
     else ∃ m,m<n/\I m Y) (λ_ _=>False) s₃) (λ_ _=>False) s₂) (λ_ _=>False) V) (λ_ _=>False) s)(n:Nat)(h:I n s):U8 (TQ prog w) A (.compLoop (.ListComp B [⟨O,iter,D,0⟩] sc pos) 0 it H env) R s:=by
 refine Zi rfl I (λn s hI=>?_) n h;show TL _ A ((Ye (.ListComp B [⟨O,iter,D,0⟩] sc pos) 0 it H env).onRaise _) _ _ s;refine Zj ?_;rw [compTurn_list];refine TR (VY (TR (Cs (turn n s hI) λr V J=>?_)));match r,J with
 | none,J=>exact T6 J
 | some v,J =>
  refine TR (Cs J λ_ s₂ h₂=>TR (Cs h₂ λ_ s₃ h₃=>TR (Cs h₃ λok Y L=>?_)));match ok,L with
  | false,L=>exact T6 ⟨rfl,L⟩
  | true,L=>exact TR (TR (Cs L λx s₅ h₅=>TR (Cs h₅ λ_ s₆ h₆=>T6 (T6 ⟨rfl,h₆⟩))))
structure Bh (sc dk:Scope)(N' N:List Str)(ay:List (Option Nat)):Prop where
 kind:sc.kind=.function
 jw:∀ y∈sc.names,y.2≠.cell
 one:∀ y∈sc.names,y.2=.local->sc.names.lookup y.1=some .local
 frees:∀ y∈sc.names,y.2=.free->dk.names.lookup y.1=some .cell\/dk.names.lookup y.1=some .free
 nd:N'.Nodup
 len:ay.length=N'.length
 out:∀ i j:Nat,ay[i]?=some (some j)->∃ x,N'[i]?=some x/\N[j]?=some x/\sc.names.lookup x=some .free/\(dk.names.lookup x=some .cell\/dk.names.lookup x=some .free)
noncomputable def Eg (ay:List (Option Nat))(σ:St):St:=ay.map λo=>o.bind λj=>(σ[j]?).join
noncomputable def AU (X:Cx)(N':List Str)(sc:Scope)(cl:List (Str×Addr))(C:Addr)(fp:List Addr)(pins:List (Addr×Obj))(s₂:TF)(H₂:Hp):Cx :=
 { prog:=X.prog,w:=X.w,K:=X.K,mg:=X.mg,base:=X.base,A:=X.A,N:=N',s₀:=s₂,H₀:=H₂,env:=Yf sc cl C X.env,outer:=X.stack,stack:=X.stack,ex:=fp,fn:=λ_=>false,calm:=X.calm,pn:=X.pn++pins,xe:=λ_ _=>False }
section
variable {X:Cx}{N':List Str}{sc:Scope}{ay:List (Option Nat)}{cl:List (Str×Addr)}{C:Addr}{fp:List Addr}{pins:List (Addr×Obj)}{s₂:TF}{H₂:Hp}{σ:St}
theorem Eh (S:Bh sc X.env.scope N' X.N ay)(I:Ae X pins σ H₂ s₂)(D:∀ x c,cl.lookup x=some c->X.env.cells.lookup x=some c)(J:∀ y∈sc.names,y.2=.free->∃ c,cl.lookup y.1=some c)(H:s₂.heap.objs.size<=C)(B:∀ b∈fp,CS X pins H₂ b)(L:∀ b∈fp,∃ o,s₂.heap.get? b=some o):(AU X N' sc cl C fp pins s₂ H₂).Ok where
 mod:=I.ok.mod
 kind:=S.kind
 glob:=I.ok.glob
 blt:=I.ok.blt
 above:=H
 inj:=λx y c O V=>I.ok.inj x y c (D x c O) (D y c V)
 has:=λx hx=>J _ (VP (AcH S.jw hx)) rfl
 gb:=λx c Y=>by cases Y
 hd:=I.ok.hd
 frames:=I.ok.frames
 gZ:=.inl rfl
 gh:=λb hb=>by
  obtain ⟨o,ho⟩:=L b hb;exact ⟨Uq (Ux (Uc ho) H),λx c e=>(B b hb).2.2.2.2.1 x c (D x c e)⟩
 bs:=I.bs
 dG:=UM I.ok.dG I.sz
 gi:=λb o e hb=>by
  rcases (B b hb).2.2.2.1 with z | z
  .exact I.ok.gi b o e z
  .exact absurd (Ux (Uc (I.ok.bs b o e).1) z) (Vi _)
 eJ:=λb hb z=>(T8.mp (I.cS b z)).elim (B b hb).2.1 (B b hb).2.2.1
 cq:=I.stack
 eK:=I.kh
theorem AcJ {D:Addr}{h₁:Heap}{tk:Nat}{m:Str->Option Value}(S:Bh sc X.env.scope N' X.N ay)(I:Ae X pins σ H₂ s₂)(L:∀ x c,cl.lookup x=some c->X.env.cells.lookup x=some c)(bt:∀ y∈sc.names,y.2=.free->∃ c,cl.lookup y.1=some c)(b8:∀ b∈fp,CS X pins H₂ b)(bu:∀ b∈fp,∃ o,s₂.heap.get? b=some o)(hD:D=s₂.heap.objs.size)(hC:C=s₂.heap.objs.size+1)(hk:∀ b o,(s₂.heap.push { cls:=.type "list",data:=.seq #[] }).get? b=some o->h₁.get? b=some o)(bD:h₁.Ns C m) :
  Ae (AU X N' sc cl C fp pins s₂ H₂) [] (Eg ay σ) (upd H₂ D (.lst [])) { s₂ with heap:=h₁,toks:=tk }:=by
 subst hD;have Y:s₂.heap.objs.size<=C:=by rw [hC];exact U9 _
 have ok:=Eh S I L bt Y b8 bu;have I3:=I.kr (ys:=[]) (its:=[]) (t':=tk) .nil (UH _);have I4:Ae X pins σ (upd H₂ s₂.heap.objs.size (.lst [])) { s₂ with heap:=h₁,toks:=tk }:=I3.kept (t':=tk) hk;have B:∀ b o,s₂.heap.get? b=some o->h₁.get? b=some o:=λb o e=>hk b o (Ul _ e);have h8:∀ b o,s₂.heap.get? b=some o->b≠s₂.heap.objs.size:=λb o e=>Uq (Uc e);have eO:∀ x c,cl.lookup x=some c->∃ v o,s₂.heap.get? c=some o/\o.data=.cell v:=λx c e=>by
  obtain ⟨v,o,H,hd⟩:=Bp (I.cell x c (L x c e));exact ⟨v,o,H,hd⟩
 refine ⟨ok,rfl,I.bare,Un.laid B (T3 _) I.fresh,⟨m,bD,λi x v e1 e2 e3=>?_⟩,λx c e=>?_,?_,λx c e=>?_,λp hp=>?_,I4.af,?_⟩
 .have J:(ay[i]?).map (λo=>o.bind λj=>(σ[j]?).join)=some (some v):=by
   have:=e2;unfold Eg at this;rwa [T7] at this
  cases q:ay[i]? with
  | none=>rw [q] at J;cases J
  | some oj =>
   rw [q,U7] at J;cases oj with
   | none=>cases J
   | some j =>
    have O:(σ[j]?).join=some v:=by simpa using J
    have e5:σ[j]?=some (some v):=by
     cases z:σ[j]? with
     | none=>rw [z] at O;cases O
     | some w=>rw [z] at O;rw [<- O];rfl
    obtain ⟨x',n1,n2,n3,V⟩:=AF (S.out i j q);have cD:N'[i]?=some x:=e1;rw [n1] at cD;cases cD;obtain ⟨m2,fz,hl⟩:=Ao I.loc;have hv:GK X.env.scope x:=V.elim (λz=>.inr (.inl z)) λz=>.inr (.inr z);obtain ⟨u,r,l⟩:=Ao (hl j x v n2 e5 hv);refine ⟨u,r,.inr ⟨Jb n3,?_⟩⟩;rcases l with ⟨k,_⟩ | ⟨_,c,ec,z⟩
    .have k':X.env.scope.names.lookup x=some .local:=k;rcases V with z | z<;>rw [k'] at z<;>cases z
    .obtain ⟨c',eP⟩:=bt _ (VP n3) rfl;have:=L x c' eP;rw [ec] at this;cases this;obtain ⟨o,H,hd⟩:=Ao z;exact ⟨c,eP,o,B c o H,hd⟩
 .obtain ⟨v,o,H,hd⟩:=Bp (eO x c e);exact ⟨v,o,B c o H,hd⟩
 .show upd H₂ s₂.heap.objs.size (.lst []) C=none;rw [Ap (by rw [hC];exact XE _)];exact I.af.fresh Y
 .obtain ⟨v,o,H,hd⟩:=Bp (eO x c e);show upd H₂ s₂.heap.objs.size (.lst []) c=none;rw [Ap (h8 c o H)];exact I.cu x c (L x c e)
 .have bJ:p∈X.pn++pins:=by simpa [AU] using hp
  obtain ⟨e,n,ne,nf,d⟩:=AW (I.pin p bJ);obtain ⟨_,V,_⟩:=AW (I4.pin p bJ);exact ⟨B _ _ e,V,Uq (Ux (Uc e) Y),λz=>(T8.mp (I.cS _ z)).elim ne nf,d⟩
 .show (ay.map _).length=N'.length;rw [TU];exact S.len
theorem K6 {D:Hp}{σ':St}{H:TF}(I:Ae X pins σ H₂ s₂)(B:∀ b∈fp,CS X pins H₂ b)(J:Ae (AU X N' sc cl C fp pins s₂ H₂) [] σ' D H):Ae X pins σ D H :=
 I.oE J.os J.base J.af J.bare λb hb=>⟨(B b hb).2.2.2.1,(B b hb).2.1,(B b hb).2.2.2.2.1,(B b hb).2.2.2.2.2⟩
def Ei (X:Cx)(ifs:List TN)(t:TT):Prop :=
 ∀(pins:List (Addr×Obj))(s:TF)(σ:St)(H:Hp)(Q:Bool->Hp->Prop),Ae X pins σ H s->t σ H Q->TL (TQ X.prog X.w) X.A (Hk ifs X.env) (TP X pins σ Q) X.xe s
def AcK:TT:=λ_ H Q=>Q true H
theorem DD {X:Cx}:Ei X [] AcK:=λpins s σ H Q I h=>wpAny_tests_nil ⟨H,I,h⟩
theorem K7 {X:Cx}{c:TN}{t:TT}(h:PT X c t):Ei X [c] t:=λpins s σ H Q I q=>wpAny_tests_one (h pins s σ H Q I q)
def K8 (ay:List (Option Nat))(wi:TI)(g:TG)(tt:TT)(te:TE):TE:=λσ H Q=>wi σ H λJ H1=>∀ D,H1 D=none->∃ W:Nat->Nat->St->Hp->Prop,(∃ m,W 0 m (Eg ay σ) (upd H1 D (.lst [])))/\∀ i m σ' H',W i m σ' H' ->
 (J.stop i H'/\Q (.ref D) H')\/(J.go i H'/\∃ N:St->Hp->Prop,(∀ σ2 H2,N σ2 H2->∃ m',m'<m/\W (i+1) m' σ2 H2)/\∀ x H2,J.bU i H' x H2->g x σ' H2 λσ3 H3=>tt σ3 H3 λb H4 =>
  if b=true then te σ3 H4 λv H5=>∃ ys,H5 D=some (.lst ys)/\ys.length<sizeLine/\N σ3 (upd H5 D (.lst (ys++[v]))) else N σ3 H4)
theorem O0 {elt tg iter:TN}{V:List TN}{sc:Scope}{ay:List (Option Nat)}{N':List Str}{pos:Pos}{wi:TI}{g:TG}{tt:TT}{te:TE}{s:TF}{H:Hp}{use:Option (Value->Sem Unit)}{Qv:Value->TF->Prop}{Q:VK}(hc:X.calm=true)(S:Bh sc X.env.scope N' X.N ay)(hi:PI X tg iter wi)(hg:∀ cl C fp pins s₂ H₂,PG (AU X N' sc cl C fp pins s₂ H₂) tg g)(ht:∀ cl C fp pins s₂ H₂,Ei (AU X N' sc cl C fp pins s₂ H₂) V tt)(he:∀ cl C fp pins s₂ H₂,PE (AU X N' sc cl C fp pins s₂ H₂) elt te)(hs:∀ x,VZ iter X.env x=pure x)(I:Ae X pins σ H s)(h:K8 ay wi g tt te σ H Q)(post:∀ D C B s' m,(∀ h',UN C s'.heap h'->Ae X pins σ B { s' with heap:=h' })->Ae X pins σ B s'->s'.heap.Ns C m->(∀ x c,X.env.cells.lookup x=some c->c≠C)->X.env.locals≠C->B C=none ->
   (∀ σ' Y h',Ae X pins σ' B Y->UN C Y.heap h'->Ae X pins σ' B { Y with heap:=h' })->Q (.ref D) B->W9 (TQ X.prog X.w) X.A X.xe use Qv (.ref D) C (.ok .next) s') :
  TL (TQ X.prog X.w) X.A (Yg (.ListComp elt [⟨tg,iter,V,0⟩] sc pos) sc X.env (Zk [⟨tg,iter,V,0⟩] pos) (newList []) false (TZ iter X.env) use) Qv X.xe s:=by
 obtain ⟨cl,ic,aX,bt⟩:=K5 (env:=X.env) (sc:=sc) λy hy hf=>I.ok.has y.1 (S.frees y hy hf);refine Zl rfl hs ic S.kind S.one (Am (hi pins s σ H _ I h) λxv s₁ h₁=>Am h₁ λg5 s₂ h₂=>?_);obtain ⟨it,fp,tn,J,H₂,e,O,T,eQ,f₂,rd⟩:=Fl h₂;subst e;refine Yh (Zm S.jw (by intro y hy;simp at hy) (λh₁ bD cW=>?_) S.kind);dsimp only at bD cW ⊢;have bu:∀ b∈fp,∃ o,s₂.heap.get? b=some o:=λb hb=>let ⟨o,e,_⟩:=T.obj _ _ eQ b hb;⟨o,e⟩;have cw:(s₂.heap.push { cls:=.type "list",dict:=none,data:=.seq ([]:List Value).toArray }).objs.size=s₂.heap.objs.size+1:=VG ..;have hk:∀ b o,(s₂.heap.push { cls:=.type "list",data:=.seq #[] }).get? b=some o->h₁.get? b=some o:=λb o e=>cW.extBut b o (Uq (Uc e)) (Ul _ e);have IB:=AcJ (tk:=s₂.toks+([]:List (Str×Value)).length) S O aX bt f₂ bu rfl cw hk bD;generalize (s₂.heap.push { cls:=.type "list",dict:=none,data:=.seq ([]:List Value).toArray }).objs.size=C at cw bD cW IB ⊢;generalize hD:s₂.heap.objs.size=D at IB cw ⊢;have aR:s₂.heap.objs.size<=C:=by rw [hD,cw];exact U9 _
 obtain ⟨W,⟨m0,w0⟩,turn⟩:=Ao (rd D (by rw [<- hD];exact O.fresh));have cX:∀{B:Hp},(∀ b∈fp,B b=none)->∀ b∈fp,CS (AU X N' sc cl C fp pins s₂ H₂) [] B b:=λhn b hb=>by
  obtain ⟨z1,z2⟩:=(Eh S O aX bt aR f₂ bu).gh b hb;exact ⟨hn b hb,z1,(Eh S O aX bt aR f₂ bu).eJ b hb,.inl hb,z2,λp hp=>(f₂ b hb).2.2.2.2.2 p (by simpa [AU] using hp)⟩
 have ie:∀ b∈fp,(upd H₂ D (.lst [])) b=none:=λb hb=>by
  obtain ⟨o,ho⟩:=bu b hb;rw [Ap (by rw [<- hD];exact Uq (Uc ho))];exact (f₂ b hb).1
 have bw:tn 0 h₁:=T.keep _ _ _ eQ λb hb o e=>hk b o (Ul _ e);have loop:U8 (TQ X.prog X.w) X.A (.compLoop (.ListComp elt [⟨tg,iter,V,0⟩] sc pos) 0 (.ref it) (.ref D) (Yf sc cl C X.env)) (W9 (TQ X.prog X.w) X.A X.xe use Qv (.ref D) C) { s₂ with heap:=h₁,toks:=s₂.toks+([]:List (Str×Value)).length }:=by
  refine AcI (λn s'=>∃ i σ' B,Ae (AU X N' sc cl C fp pins s₂ H₂) [] σ' B s'/\tn i s'.heap/\(∀ b∈fp,B b=none)/\W i n σ' B) ?_ m0 ⟨0,_,_,IB,bw,ie,w0⟩;rintro n s3 ⟨i,σ3,H3,I3,cU,cV,w3⟩;rcases turn i n σ3 H3 w3 with ⟨stop,qn⟩ | ⟨go,N,hN,Vk⟩
  .refine Am (T.done (AU X N' sc cl C fp pins s₂ H₂) rfl rfl rfl hc i [] s3 σ3 H3 _ I3 (cX cV) cU stop) λr s4 ⟨hr,I4⟩=>?_;subst hr;have JX:=K6 O f₂ I4;obtain ⟨m,hn,_⟩:=Ao I4.loc;have cn:∀ x c,X.env.cells.lookup x=some c->c≠C:=λx c e z=>by
    obtain ⟨v,q⟩:=O.cell x c e;exact absurd (Ux q.lt (by rw [z];exact aR)) (Vi _)
   have gone:∀ σ' Y h',Ae X pins σ' H3 Y->UN C Y.heap h'->Ae X pins σ' H3 { Y with heap:=h' }:=λσ' Y h' K3 ig =>
    K3.turned (t':=Y.toks) (it:=C) (λb o hb e=>(ig.2 b hb).trans e) I4.free (Wd (Ux O.lt aR)) (.inr (UM O.sz aR)) cn λp hp z=>by
     exact absurd (Ux (Uc (O.pin p hp).1) (by rw [z];exact aR)) (Vi _)
   exact post D C H3 s4 m (λh' hs'=>gone σ s4 h' JX hs') JX hn cn (Uq (Ux O.lt aR)) I4.free gone qn
  .refine Am (T.item (AU X N' sc cl C fp pins s₂ H₂) rfl rfl rfl hc i [] s3 σ3 H3 _ I3 (cX cV) cU go) λr s4 L=>Ct L λu hr h4=>?_;subst hr;refine Am h4 λ_ s5 L=>AH L λx H5 I5 r5 ⟨y5,bZ,fu⟩=>?_;have fv:=I5.pinned (cX fu) (T.obj _ _ bZ);refine Am (hg cl C fp pins s₂ H₂ _ s5 σ3 H5 x u _ fv r5 (Vk x H5 y5)) λ_ s6 L=>GG L λσ6 H6 I6 q6=>?_;refine Am (ht cl C fp pins s₂ H₂ _ s6 σ6 H6 _ I6 q6) λok s7 L=>Ct L λH7 I7 q7=>?_;have again:∀{H8:Hp}{s8:TF},Ae (AU X N' sc cl C fp pins s₂ H₂) ([]++Fo fp s5.heap) σ6 H8 s8->N σ6 H8->∃ m,m<n/\∃ i σ' B,Ae (AU X N' sc cl C fp pins s₂ H₂) [] σ' B s8/\tn i s8.heap/\(∀ b∈fp,B b=none)/\W i m σ' B:=λ{H8 s8} I8 n8=>by
    obtain ⟨m',hm,w8⟩:=Ao (hN σ6 H8 n8);refine ⟨m',hm,i+1,σ6,H8,I8.gn,T.keep _ _ _ bZ λb hb o e=>(I8.pin (b,o) (UD _ (UD _ (EC hb e)))).1,λb hb=>?_,w8⟩;obtain ⟨o,e,d⟩:=Ao (T.obj _ _ bZ b hb);exact (I8.pin (b,o) (UD _ (UD _ (EC hb e)))).2.1
   cases ok with
   | false=>exact again I7 q7
   | true =>
    refine Am (he cl C fp pins s₂ H₂ _ s7 σ6 H7 _ I7 q7) λy s8 L=>AH L λv H8 I8 r8 q8=>?_;obtain ⟨ys,hy,hz,n8⟩:=AF q8;refine Am (DU _ s8 σ6 H8 (.ref D) [v] (.ref D) [y] (λ_ H9=>N σ6 H9) I8 rfl (.cons r8 .nil) ⟨D,ys,v,rfl,rfl,hy,hz,n8⟩) λ_ s9 L=>AH L λ_ H9 I9 _ q9=>?_;exact again I9 q9
 exact codeAny_compStart_list loop (T.self _ 0 _ _ _ bw loop)
theorem Ej {B O iter:TN}{L:List TN}{sc:Scope}{ay:List (Option Nat)}{N':List Str}{pos:Pos}{Y:TI}{g:TG}{tt:TT}{te:TE}(hc:X.calm=true)(S:Bh sc X.env.scope N' X.N ay)(hi:PI X O iter Y)(hg:∀ cl C fp pins s₂ H₂,PG (AU X N' sc cl C fp pins s₂ H₂) O g)(ht:∀ cl C fp pins s₂ H₂,Ei (AU X N' sc cl C fp pins s₂ H₂) L tt)(he:∀ cl C fp pins s₂ H₂,PE (AU X N' sc cl C fp pins s₂ H₂) B te)(hs:∀ x,VZ iter X.env x=pure x:=by intro _;rfl):PE X (.ListComp B [⟨O,iter,L,0⟩] sc pos) (K8 ay Y g tt te):=by intro pins s σ H Q I h;rw [eval_ListComp];refine O0 (use:=none) (Q:=Q) hc S hi hg ht he hs I h λD C H' s' m g1 J hn cn ln fr g2 q=>?_;exact ⟨m,hn,λh' V=>⟨.ref D,H',g1 h' V,rfl,q⟩⟩
theorem O1 {O Y iter:TN}{V:List TN}{sc:Scope}{ay:List (Option Nat)}{N':List Str}{pos oT B:Pos}{wi:TI}{g:TG}{tt:TT}{te:TE}{j:Nat}{y:Str}(hc:X.calm=true)(nd:X.N.Nodup)(hj:X.N[j]?=some y)(hy:GN X.env.scope y)(S:Bh sc X.env.scope N' X.N ay)(hi:PI X Y iter wi)(hg:∀ cl C fp pins s₂ H₂,PG (AU X N' sc cl C fp pins s₂ H₂) Y g)(ht:∀ cl C fp pins s₂ H₂,Ei (AU X N' sc cl C fp pins s₂ H₂) V tt)(he:∀ cl C fp pins s₂ H₂,PE (AU X N' sc cl C fp pins s₂ H₂) O te)(hsw:WD (.ListComp O [⟨Y,iter,V,0⟩] sc pos) (some (.Name y B)) oT.line X.env=pure true)(hs:∀ x,VZ iter X.env x=pure x:=by intro _;rfl)(hf:X.fn y=true\/X.env.scope.names.lookup y=some .local:=by first | exact .inl rfl | exact .inr rfl | assumption) :
  PS X (.Assign [.Name y B] (.ListComp O [⟨Y,iter,V,0⟩] sc pos) oT) (GR (K8 ay wi g tt te) (Cj j)):=by
 intro pins s σ H D I h;rw [exec_Assign_Name_used _ _ _ _ hsw];refine TR (VY (TR ?_));show TL _ X.A (do let _ <- Yg (.ListComp O [⟨Y,iter,V,0⟩] sc pos) sc X.env _ (newList []) false (TZ iter X.env) (some (VE (.Name y B) X.env))) _ _ s;refine TR (Am (O0 (use:=some (VE (.Name y B) X.env)) (Qv:=λ_ s'=>SP X pins D .next s') hc S hi hg ht he hs I h λL C H' s' m g1 J hn cn ln fr g2 q=>?_) λ_ s' hq=>T6 (T6 hq));show TL _ X.A (VE (.Name y B) X.env (.ref L)) _ _ _;refine Z1 (NS J nd hj hy (v:=.ref L) rfl (λaO K aaA=>?_) hf);obtain ⟨a,hsm,ha⟩:=Ao aaA;have kC:C≠a:=by
  rcases ha with z | z
  .rw [z];exact Uj ln
  .exact Uj (cn y a z)
 exact ⟨m,hn.sameBut hsm kC,λh' hs'=>⟨_,H',g2 _ aO h' K hs',q⟩⟩
end
section
variable {X:Cx}{pins:List (Addr×Obj)}{σ:St}{H:Hp}{s:TF}{h':Heap}
theorem Ae.oU {t':Nat}{ch:List Addr}{T:Addr}{xs:List V}{us:List Value}(I:Ae X pins σ H s)(B:∀ b∈ch,CS X pins H b)(k:∀ b o,b ∉ ch->s.heap.get? b=some o->h'.get? b=some o)(J:s.heap.objs.size<=T)(O:∀ b∈ch,∃ o,s.heap.get? b=some o)(Y:h'.get? T=some { cls:=.type "tuple",data:=.seq us.toArray })(hv:As xs us)(hz:xs.length<=sizeLine):Ae X pins σ (upd H T (.tup xs)) { s with heap:=h',toks:=t' }:=by
 have hn:=I.af.fresh J;have neT:∀ b o,s.heap.get? b=some o->b≠T:=λb o e=>Uq (Ux (Uc e) J);have L:∀ b u,H b=some u->b ∉ ch:=λb u e z=>by rw [(B b z).1] at e;cases e
 have D:∀ b u,H b=some u->upd H T (.tup xs) b=some u:=λb u e=>by rw [Ap (λz=>by rw [z,hn] at e;cases e)];exact e
 refine I.step (g':=s.gens) (d':=s.drawn) (ch:=ch) (λb hb=>⟨(B b hb).2.2.2.1,(B b hb).2.1,(B b hb).2.2.2.2.1,(B b hb).2.2.2.2.2⟩) (λb o _ _ hc e _=>k b o hc e) (λb o _ _ hc e _=>⟨o.slots,k b o hc e⟩)
  (λb o _ e n=>by rw [Ap (neT b o e)];exact n) (λb o hc e=>⟨o,k b o hc e⟩) (λb ys e=>D b _ e) (λb o u e=>D b _ e) (λb ps e=>⟨#[],by rw [D b _ e];simp⟩) (λm hm=>?_) (λb u e=>?_) I.bare
 .obtain ⟨o,es,ep,ho,r⟩:=Dh hm;exact ⟨o,es,ep,k _ o (λz=>(B _ z).2.1 rfl) ho,r⟩
 .by_cases hb:b=T
  .subst hb;rw [Ai] at e;cases e;exact ⟨hz,us,hv,_,Y,rfl,_,rfl⟩
  .rw [Ap hb] at e;refine (I.af b u e).de (λc v hc q=>k c v ?_ q) (λc q=>D c _ q) λc ys q=>D c _ q;rcases hc with z | z
   .rw [z];exact L b u e
   .exact L c _ z
noncomputable def EL (K:TH)(a:Addr):It :=
 ⟨λi H=>∃ xs x,A7 K H a xs/\xs[i]?=some x,λi H x H'=>∃ t y,x=.ref t/\H t=none/\H'=upd H t (.tup [.int i,y])/\∀ xs,A7 K H a xs->xs[i]?=some y,λi H=>∃ xs,A7 K H a xs/\xs.length<=i⟩
theorem AcL {P:TV}{w:TM}{K:TH}{L:List TN}{kk:Nat}{pos:Pos}(a e it:Addr)(ik:e≠it):EB P w K (.Tuple L kk pos) (EL K a) [e,it] e (λi h=>(∃ B,VA h e it i B)/\h.IsListIter it a i) where
 mem:=by simp
 obj:=λi h st b hb=>by
  obtain ⟨⟨B,D⟩,⟨o,V,c,d⟩⟩:=st;rcases T8.mp hb with z | z
  .subst z;exact ⟨_,D,λv z=>by cases z⟩
  .have z:b=it:=by simpa using z
   subst z;exact ⟨o,V,λv z=>by rw [d] at z;cases z⟩
 keep:=λi h h' st k=>by
  obtain ⟨⟨B,D⟩,hi⟩:=st;exact ⟨⟨B,k e (by simp) _ D⟩,hi.at λo q=>k it (by simp) o q⟩
 item:=by
  intro X Y hw hK hc i pins s σ H E I O st hg;subst Y hw hK;obtain ⟨xs,x,hq,hx⟩:=Bp hg;obtain ⟨its,rv,p,hz⟩:=AF (I.list hq);obtain ⟨u,hu,ru⟩:=Ao (rv.get hx);obtain ⟨⟨B,D⟩,J⟩:=st;refine wpAny_pyNext_enum_item D J p.isList (x:=u) (by simpa using hu) ik λh' V kD hT hsz hk=>⟨_,rfl,?_⟩;have I1:Ae X pins σ (upd H s.heap.objs.size (.tup [.int i,x])) { s with heap:=h',toks:=s.toks+1 } :=
   I.oU (ch:=[e,it]) (us:=[.int i s.toks,u]) O (λb o hb q=>hk b o (λz=>hb (by simp [z])) (λz=>hb (by simp [z])) q) (T3 _)
    (λb hb=>by
     rcases T8.mp hb with z | z
     .subst z;exact ⟨_,D⟩
     .have z:b=it:=by simpa using z
      subst z;obtain ⟨o,q,_⟩:=Ao J;exact ⟨o,q⟩) hT (.cons ⟨_,rfl⟩ (.cons ru .nil)) Aw
  have fr:∀ b∈[e,it],(upd H s.heap.objs.size (.tup [.int i,x])) b=none:=λb hb=>by
   have au:b<s.heap.objs.size:=by
    rcases T8.mp hb with z | z
    .subst z;exact Uc D
    .have z:b=it:=by simpa using z
     subst z;obtain ⟨o,q,_⟩:=Ao J;exact Uc q
   rw [Ap (Uq au)];exact (O b hb).1
  refine tY V λh2 kE bC=>?_;obtain ⟨f0,f1,f2,f3,f4,f5⟩:=AW (O e (by simp));have I2:Ae X pins σ (upd H s.heap.objs.size (.tup [.int i,x])) { s with heap:=h2,toks:=s.toks+1 }:=I1.turned (t':=s.toks+1) (λb o hb q=>(bC.2 b hb).trans q) (fr e (by simp)) f1 f3 f4 f5;refine ⟨.ref s.heap.objs.size,_,I2,rfl,⟨_,x,rfl,I.fresh,rfl,λys hy=>by rw [I.oG hy hq];exact hx⟩,⟨⟨u,kE⟩,?_⟩,fr⟩;exact kD.at λo q=>(bC.2 it ik.symm).trans q
 done:=by intro X Y hw hK hc i pins s σ H E I O st hg;subst Y hw hK;obtain ⟨xs,hq,hx⟩:=Ao hg;obtain ⟨its,rv,p,hz⟩:=AF (I.list hq);obtain ⟨⟨B,D⟩,J⟩:=st;obtain ⟨f0,f1,f2,f3,f4,f5⟩:=AW (O it (by simp));have hl:=rv.length;exact wpAny_pyNext_enum_end (I.ok.hd hc) D J p.isList (by simp;omega) λh' eb=>⟨rfl,I.turned (t':=s.toks) (λb o hb q=>eb b o hb q) f0 f1 f3 f4 f5⟩
 self:=λ_ _ _ _ _ st h=>by
  obtain ⟨⟨B,D⟩,_⟩:=st;exact Yi D h
theorem O2:U0 "enumerate"=some (.type "enumerate"):=by decide +kernel
def AcM (K:TH)(ta:TA):TI:=λσ H R=>ta σ H λvs H1=>∃ a xs,vs=[.ref a]/\A7 K H1 a xs/\R (EL K a) H1
theorem O3 {x:TN}{O:TA}{p pos tp:Pos}{J:List TN}{kk:Nat}(g:Gm X.env.scope "enumerate")(hm:X.mg "enumerate"=none)(ha:PA X [x] O)(hs:T2 [x] X.env=[(false,TZ x X.env)]:=by rfl) :
  PI X (.Tuple J kk tp) (.Call (.Name "enumerate" p) [x] [] pos) (AcM X.K O):=by
 intro pins s σ H R I h;refine Call_ (Fm I g.gl hm O2 (Xp (Am (ha pos pins s σ H _ I h) λus B zz=>AH zz λvs V D r1 q1=>?_) hs rfl));obtain ⟨a,xs,e,hq,q⟩:=Bk q1;subst e;cases r1 with
 | cons r rr =>
  cases rr;cases r;obtain ⟨its,rv,pl,hz⟩:=AF (D.list hq);refine call_enumerate_list pl.isList λh' Y L hsz hk=>?_;refine Yi Y ?_;have kF:V (B.heap.objs.size+1)=none:=D.af.fresh (U9 _);refine ⟨B.heap.objs.size+1,[B.heap.objs.size+1,B.heap.objs.size],_,_,V,rfl,D.kept (t':=B.toks) hk,AcL a _ _ (XE _),⟨⟨_,Y⟩,L⟩,λb hb=>?_,q⟩;rcases T8.mp hb with z | z
  .subst z;exact D.dI (U9 _) kF
  .have z:b=B.heap.objs.size:=by simpa using z
   subst z;exact D.dI (T3 _) D.fresh
end
noncomputable def BM (lo hi:Int):List Int:=(UY (hi - lo).toNat).map λ(k:Nat)=>lo+(k:Int)
theorem K9 (lo B:Int):(BM lo B).length=(B - lo).toNat:=by unfold BM;rw [TU,Vg]
section
variable {X:Cx}
def Sm (i:Int):Prop:=-(2 ^ 62)<=i/\i<2 ^ 62
theorem O4 {pins:List (Addr×Obj)}{σ:St}{H:Hp}{s:TF}{lo B:Int}{t u v:Tok}{tk:Nat}(I:Ae X pins σ H s) :
  Ae X pins σ (upd H s.heap.objs.size (.cL lo B)) { s with heap:=s.heap.push { cls:=.type "range",data:=.fields #[.int lo t,.int B u,.int 1 v] },toks:=tk } :=
 I.laid (λ_ _ q=>Ul _ q) (T3 _) (show Bg X.prog X.w _ _ _ (.cL lo B) from ⟨t,u,v,U2 _ rfl⟩)
theorem O5:BB X (.type "range") (λxs H Q=>(∃ j:Int,xs=[.int j]/\Sm j/\∀ p,H p=none->Q (.ref p) (upd H p (.cL 0 j)))\/∃ i j:Int,xs=[.int i,.int j]/\Sm i/\Sm j/\∀ p,H p=none->Q (.ref p) (upd H p (.cL i j))):=by
 intro pins s σ H xs D Q I r h;rcases h with ⟨j,rfl,B,q⟩ | ⟨i,j,rfl,J,B,q⟩
 .obtain ⟨u,rfl,t,rfl⟩:=Ao (CK r);exact call_range_1 ⟨.ref s.heap.objs.size,_,O4 I,rfl,q _ I.fresh⟩
 .obtain ⟨u,L,rfl,⟨t,rfl⟩,⟨O,rfl⟩⟩:=Bk (Oi r);exact call_range_2 ⟨.ref s.heap.objs.size,_,O4 I,rfl,q _ I.fresh⟩
theorem AcN {lo O:Int}{B:Array Value}(h:ItemsOf (λ(i:Nat) (v:Value)=>∃ t,v=.int (lo+(i:Int) * 1) t) B (O - lo).toNat):As ((BM lo O).map V.int) B.toList:=by
 obtain ⟨hs,cY⟩:=h;have I:∀(D:List Value)(n k:Nat),D.length=n->(∀ j v,D[j]?=some v->∃ t,v=U3 (lo+((k+j:Nat):Int)) t)->As (((List.range' k n).map λ(k:Nat)=>lo+(k:Int)).map V.int) D:=by
  intro D;induction D with
  | nil=>intro n k H _;subst H;exact .nil
  | cons u D ih =>
   intro n k H Y;obtain ⟨J,rfl⟩:∃ J,n=J+1:=⟨D.length,by rw [<- H];rfl⟩;rw [List.range'_succ,U4,U4];obtain ⟨t,e⟩:=Y 0 u rfl;refine .cons ⟨t,by simpa using e⟩ (ih J (k+1) (by simpa using H) λj v L=>?_);obtain ⟨t,e⟩:=Y (j+1) v (by simpa using L);exact ⟨t,by rw [e];congr 1;omega⟩
 unfold BM;rw [List.range_eq_range'];refine I B.toList _ 0 (by rw [Ve];exact hs) λj v L=>?_;obtain ⟨t,e⟩:=cY j v (by simpa using L);exact ⟨t,by rw [e];simp⟩
theorem AcO (hc:X.calm=true):BB X (.type "list") (λxs H Q=>∃ p lo B,xs=[.ref p]/\H p=some (.cL lo B)/\Sm lo/\Sm B/\(B - lo).toNat<=sizeLine/\∀ l,H l=none->Q (.ref l) (upd H l (.lst ((BM lo B).map V.int)))):=by
 intro pins s σ H xs us Q I r h;replace h:=F0 h;obtain ⟨p,lo,B,rfl,O,⟨Y,l2⟩,⟨l3,l4⟩,L,q⟩:=h
 obtain ⟨u,rfl,rx⟩:=Ao (CK r);cases rx;obtain ⟨t,u,v,e⟩:=I.af p _ O;have D:(B - lo).toNat<=2 ^ 24:=L;refine call_list_range (n:=(B - lo).toNat) (I.ok.hd hc) e (small_one Y l2 l3 l4) (by rw [rangeSize_one];split<;>omega) D λh' tk J c hk hl ha=>?_;refine ⟨.ref s.heap.objs.size,_,I.laid (t':=tk) hk (T3 _) (show Bg X.prog X.w _ h' _ (.lst ((BM lo B).map V.int)) from ⟨?_,J.toList,c,AcN ha,by simpa using hl⟩),rfl,q _ I.fresh⟩;rw [TU,K9];exact L
theorem Jc (hc:X.calm=true):BB X (.type "list") (λxs H Q=>(∃ p ys,xs=[.ref p]/\(A7 X.K H p ys\/Bl X.K H p ys)/\∀ l,H l=none->Q (.ref l) (upd H l (.lst ys))) \/
  ∃ p lo B,xs=[.ref p]/\H p=some (.cL lo B)/\Sm lo/\Sm B/\(B - lo).toNat<=sizeLine/\∀ l,H l=none->Q (.ref l) (upd H l (.lst ((BM lo B).map V.int)))):=AbQ.or (AcO hc)
theorem O6:U0 "range"=some (.type "range"):=by decide +kernel
theorem La {α:Type} [BEq α] [LawfulBEq α] {f:α->V}:∀{ns:List α}{us:List Value}{n:α},As (ns.map f) us->As ((ns.erase n).map f) (us.eraseIdx (ns.idxOf n))
 | [],[],_,_=>.nil
 | a :: ns,u :: us,n,.cons r t=>by
  rw [List.erase_cons,tZ];cases q:a == n with
  | true=>simpa using t
  | false=>simpa using Paired.cons r (La t)
def AcP (X:Cx):V->List V->Hp->VK->Prop:=λx vs H Q=>(∃(l:Addr)(ns:List Int)(n:Int),x=.ref l/\vs=[.int n]/\H l=some (.lst (ns.map V.int))/\n∈ns/\Q .aa (upd H l (.lst ((ns.erase n).map V.int)))) \/
 ∃(l:Addr)(ns:List Str)(n:Str),x=.ref l/\vs=[.str n]/\H l=some (.lst (ns.map V.str))/\n∈ns/\Q .aa (upd H l (.lst ((ns.erase n).map V.str)))
theorem Lb {α:Type} [BEq α] [LawfulBEq α]:∀{ns:List α}{n a:α}{m:Nat},m<ns.idxOf n->ns[m]?=some a->(a == n)=false
 | [],_,_,_,_,e=>by simp at e
 | b :: ns,n,a,m,h,e=>by
  rw [tZ] at h;cases q:b == n with
  | true=>rw [q] at h;simp at h
  | false =>
   rw [q] at h;cases m with
   | zero=>simp at e;rw [<- e];exact q
   | succ m=>exact Lb (ns:=ns) (m:=m) (by simpa using h) (by simpa using e)
theorem Ld {α:Type} [BEq α] [LawfulBEq α] {ns:List α} {n:α} (h:n∈ns):ns[ns.idxOf n]?=some n:=by have B:=Zn h;rw [Ug B,List.getElem_idxOf B]
theorem Lf {ns:List Int}{us:List Value}(r:As (ns.map V.int) us)(j:Nat)(h:j<us.length):∃ a t,ns[j]?=some a/\us[j]=.int a t:=by have B:=r.length;rw [TU] at B;obtain ⟨u,hu,⟨t,rfl⟩⟩:=r.get (i:=j) (x:=.int (ns[j]'(by omega))) (by rw [T7,Ug (by omega)];rfl);rw [Ug h] at hu;exact ⟨_,t,Ug (by omega),Uk hu⟩
theorem Lg {ns:List Str}{us:List Value}(r:As (ns.map V.str) us)(j:Nat)(h:j<us.length):∃ a t,ns[j]?=some a/\us[j]=.str a t:=by have B:=r.length;rw [TU] at B;obtain ⟨u,hu,⟨t,rfl⟩⟩:=r.get (i:=j) (x:=.str (ns[j]'(by omega))) (by rw [T7,Ug (by omega)];rfl);rw [Ug h] at hu;exact ⟨_,t,Ug (by omega),Uk hu⟩
noncomputable def Lh (n:Int):Value->Bool
 | .int a _=>a == n
 | _=>false
noncomputable def Li (n:Str):Value->Bool
 | .str a _=>a == n
 | _=>false
theorem AcQ:KU X "list.remove" (AcP X):=by
 intro pins s σ H x vs v us Q I rx rv h;rcases h with ⟨l,B,n,rfl,rfl,L,O,q⟩ | ⟨l,B,n,rfl,rfl,L,O,q⟩
 .cases rx;obtain ⟨u,rfl,t,rfl⟩:=Ao rv.one;obtain ⟨z,its,c,r,V,e⟩:=I.fD L;rw [TU] at V;have hj:B.idxOf n<B.length:=Zn O;refine W5 ua ⟨_,e,rfl⟩ ub (uc _ _)
   (ud l its.toArray c (.int n t) (Lh n) (λy hy=>?_) (B.idxOf n) (by rw [Uw];omega) ?_ (λm Y au=>?_) (by rw [Uw,<- V];simpa using z)) ⟨e,?_⟩
  .obtain ⟨k,hk,rfl⟩:=Vd (by simpa using hy:y∈its);obtain ⟨a,t',_,D⟩:=Bp (Lf r k hk);rw [D];exact MeetsSeq.EqGives.int _ _ _ _
  .obtain ⟨a,t',J,D⟩:=Bp (Lf r (B.idxOf n) (by omega));rw [Ld O] at J;cases J;show Lh n its[B.idxOf n]=true;rw [D];exact beq_self_eq_true n
  .obtain ⟨a,t',J,D⟩:=Bp (Lf r m (by simpa using Y));show Lh n (its[m]'(by simpa using Y))=false;rw [D];exact Lb au J
  .refine ⟨.aa,_,I.jr (its':=its.eraseIdx (B.idxOf n)) L e (by simp [Y9]) (La r) ?_,rfl,q⟩;have:=Zo (a:=n) (l:=B);rw [TU] at z ⊢;omega
 .cases rx;obtain ⟨u,rfl,t,rfl⟩:=Ao rv.one;obtain ⟨z,its,c,r,V,e⟩:=I.fD L;rw [TU] at V;have hj:B.idxOf n<B.length:=Zn O;refine W5 ua ⟨_,e,rfl⟩ ub (uc _ _)
   (ud l its.toArray c (.str n t) (Li n) (λy hy=>?_) (B.idxOf n) (by rw [Uw];omega) ?_ (λm Y au=>?_) (by rw [Uw,<- V];simpa using z)) ⟨e,?_⟩
  .obtain ⟨k,hk,rfl⟩:=Vd (by simpa using hy:y∈its);obtain ⟨a,t',_,D⟩:=Bp (Lg r k hk);rw [D];exact eqGives_str _ _ _ _
  .obtain ⟨a,t',J,D⟩:=Bp (Lg r (B.idxOf n) (by omega));rw [Ld O] at J;cases J;show Li n its[B.idxOf n]=true;rw [D];exact beq_self_eq_true n
  .obtain ⟨a,t',J,D⟩:=Bp (Lg r m (by simpa using Y));show Li n (its[m]'(by simpa using Y))=false;rw [D];exact Lb au J
  .refine ⟨.aa,_,I.jr (its':=its.eraseIdx (B.idxOf n)) L e (by simp [Y9]) (La r) ?_,rfl,q⟩;have:=Zo (a:=n) (l:=B);rw [TU] at z ⊢;omega
end
def AO (P:TV)(w:TM)(K:TH)(mg:Str->Option Value)(base:Heap)(CX:B4)(k:Nat)(C:Addr)(m:Str)(ps:List Str)(sp:Sp):Prop :=
 ∃ f fd,IK K C m f/\C3 K fd ps []/\AE P w K mg base CX k f fd ps sp
def EM (P:TV)(w:TM)(K:TH)(mg:Str->Option Value)(base:Heap)(CX:B4)(k:Nat)(C:Addr)(x:Str)(ps:List Str)(sp:Sp):Prop :=
 ∃ f fd,mg x=some (.ref C)/\Mk K C f/\C3 K fd ps []/\AE P w K mg base CX k f fd ps sp
section
variable {X:Cx}{CX:B4}{k:Nat}{C:Addr}{ps:List Str}{sp:Sp}{E:XK}{x m:Str}{p pos apos:Pos}{e o:TN}{es:List TN}{ta:TE}{t:TA}{W:St->XK}
theorem A2 {pl:Sem Bool}(D:AO X.prog X.w X.K X.mg X.base CX k C m ps sp)(c:Cm X.K C)(I:PE X o ta)(J:Bq k X.A)(hx:CB CX X E)(ha:PA X (e :: es) t)(L:T2 (e :: es) X.env=(false,TZ e X.env) :: T2 es X.env:=by rfl)(O:(UA pos (T2 es X.env)).any (·.1)=false:=by rfl)(V:TZ (.Call (.Attribute o m apos) (e :: es) [] pos) X.env=(TZ o X.env >>= λB=>Vq apos.atName >>= λ_=>Vj [B] (V1 B m pl) >>= λH=>WN pos H.1 H.2 (UA pos (T2 (e :: es) X.env)) (VM pos (VN [] X.env))):=by rfl) :
  PE X (.Call (.Attribute o m apos) (e :: es) [] pos) (IP C m sp [] E ta t):=by
 obtain ⟨f,fd,Y,hb,F⟩:=Bk D;exact Abo (pl:=pl) I c Y F J hb .nil hx ha L O V
theorem Jd {pl:Sem Bool}(D:AO X.prog X.w X.K X.mg X.base CX k C m ps sp)(c:Cm X.K C)(I:PE X o ta)(J:Bq k X.A)(hx:CB CX X E)(L:TZ (.Call (.Attribute o m apos) [] [] pos) X.env=(TZ o X.env >>= λB=>Vq apos.atName >>= λ_=>Vj [B] (V1 B m pl) >>= λH=>WN pos H.1 H.2 (UA pos (T2 [] X.env)) (VM pos (VN [] X.env))):=by rfl) :
  PE X (.Call (.Attribute o m apos) [] [] pos) (IP C m sp [] E ta BJ):=by
 obtain ⟨f,V,O,hb,F⟩:=Bk D;exact Abp (pl:=pl) I c O F J hb .nil hx L
theorem Hl (D:EM X.prog X.w X.K X.mg X.base CX k C x ps sp)(g:Gm X.env.scope x)(B:Bq (k+1) X.A)(hx:CB CX X E)(ha:PA X (e :: es) t)(H:T2 (e :: es) X.env=(false,TZ e X.env) :: T2 es X.env:=by rfl)(I:(UA pos (T2 es X.env)).any (·.1)=false:=by rfl) :
  PE X (.Call (.Name x p) (e :: es) [] pos) (Ou C sp [] E t):=by
 obtain ⟨f,L,J,M,hb,F⟩:=Bk D;exact Abr M F B g.gl J hb .nil hx ha g.db H I
end
structure Hm (sc:Scope)(x:Str):Prop where
 loc:sc.names.lookup x=some .cell
 db:(x == ("__debug__":Str))=false
 cd:(x == ("__classdict__":Str))=false
structure O7 (sc:Scope)(x:Str):Prop where
 loc:sc.names.lookup x=some .cell\/sc.names.lookup x=some .free
 db:(x == ("__debug__":Str))=false
 cd:(x == ("__classdict__":Str))=false
section
variable {X:Cx}{x:Str}{pos p:Pos}
theorem Je (i:Nat)(n:Hm X.env.scope x)(B:X.N[i]?=some x:=by rfl):PE X (.Name x pos) (Iw i):=KC B (T1 (T9 n.loc)) n.db n.cd
theorem EN (i:Nat)(n:O7 X.env.scope x)(B:X.N[i]?=some x:=by rfl):PE X (.Name x pos) (Iw i):=KC B (T1 n.loc) n.db n.cd
theorem O8 (i:Nat){e:TN}{D:TE}{B:Pos}(H:X.N.Nodup)(n:Hm X.env.scope x)(I:PE X e D)(J:X.fn x=true:=by rfl)(L:X.N[i]?=some x:=by rfl)(hs:WD e (some (.Name x B)) pos.line X.env=pure false:=by rfl) :
  PS X (.Assign [.Name x B] e pos) (GR D (Cj i)):=NZ H L (T1 n.loc) I hs (T9 J)
theorem Nm.comp {sc:Scope}{env:Env}(n:Nm sc x):Nm (VH sc env) x:=⟨OZ n.loc rfl,n.db,n.cd⟩
theorem Gm.comp {sc:Scope}{env:Env}(n:Gm sc x):Gm (VH sc env) x:=⟨OZ n.gl rfl,n.db,n.nn⟩
structure EO (sc:Scope)(x:Str):Prop where
 loc:sc.names.lookup x=some .free
 db:(x == ("__debug__":Str))=false
 cd:(x == ("__classdict__":Str))=false
theorem EO.comp {sc:Scope}{env:Env}(n:EO sc x):O7 (VH sc env) x:=⟨Jb n.loc,n.db,n.cd⟩
end
section
variable {X:Cx}
theorem Lj:N0 X (λo i H Q=>∃ p xs k v,o=.ref p/\i=.int k/\0<=k/\A7 X.K H p xs/\BA xs k=some v/\Q v H):=by
 intro pins s σ H o i ov iv Q I J L h;replace h:=Ir h;obtain ⟨p,xs,k,z,rfl,rfl,B,hq,O,q⟩:=h
 cases J;obtain ⟨t,rfl⟩:=L;obtain ⟨its,r,pl,hz⟩:=AF (I.list hq);obtain ⟨j,D,V,h3,h4,Y⟩:=AF (IT O);obtain ⟨w,ew,bV⟩:=Ao (r.get V);have hn:=EG;have hj:k.toNat=j:=by rw [XY B Y] at D;exact Uk D
 exact wpAny_getItem_list pl.isList B (by omega) (by rw [hj];simpa using ew) ⟨z,H,I,bV,q⟩
theorem O9:BB X (.type "int") (λxs H Q=>(∃ k,xs=[.bl k]/\Q (.int (if k then 1 else 0)) H)\/(∃ i,xs=[.int i]/\Q (.int i) H)\/∃ z n,xs=[.str z]/\XD z=some n/\z.length<=640/\Q (.int n) H):=by
 intro pins s σ H xs B Q I r h;rcases h with h | h | h
 .exact Oj pins s σ H xs B Q I r (.inr h)
 .exact Oj pins s σ H xs B Q I r (.inl h)
 .exact Acy pins s σ H xs B Q I r h
theorem Bh.mk' {sc D:Scope}{B N:List Str}{H:List (Option Nat)}(I:sc.kind=.function)(J:∀ y∈sc.names,y.2≠.cell)(L:∀ y∈sc.names,y.2=.local->sc.names.lookup y.1=some .local)(O:∀ y∈sc.names,y.2=.free->D.names.lookup y.1=some .cell\/D.names.lookup y.1=some .free)(V:B.Nodup)(Y:H.length=B.length)(h7:∀ p∈H.zip B,∀ j∈p.1,N[j]?=some p.2/\sc.names.lookup p.2=some .free/\(D.names.lookup p.2=some .cell\/D.names.lookup p.2=some .free)):Bh sc D B N H :=
 ⟨I,J,L,O,V,Y,λi j e=>by
  have hi:i<H.length:=(Uy.mp e).1;obtain ⟨x,hx⟩:∃ x,B[i]?=some x:=⟨B[i]'(by omega),Ug (by omega)⟩;have hz:(H.zip B)[i]?=some (some j,x):=by rw [List.getElem?_zip_eq_some];exact ⟨e,hx⟩
  obtain ⟨a,b,c⟩:=h7 _ (Ue hz) j rfl;exact ⟨x,hx,a,b,c⟩⟩
theorem AcR:∀ n:Nat,n<1001->(TK (toString (n:Int))).length<=10:=by decide +kernel
theorem Hn {e:TN}{J:TE}{pos:Pos}(O:PE X e J):PE X (.FormattedValue e (-1) none pos) (λσ H Q=>J σ H λx B=>(∃ i:Int,x=.int i/\0<=i/\i<=1000/\∀ z:Str,z.length<=10->Q (.str z) B)\/∃ z,x=.str z/\z.length<=sizeLine/\Q (.str z) B):=by
 intro pins s σ H Q I h;refine wpAny_FormattedValue_plain (Am (O pins s σ H _ I h) λv s1 V=>AH V λx B D L Y=>?_);rcases Y with ⟨i,rfl,h0,h1,q⟩ | ⟨z,rfl,hz,q⟩
 .obtain ⟨t,rfl⟩:=L;obtain ⟨n,rfl⟩:=ue h0;have hn:n<1001:=by omega
  refine wpAny_formatField_int ?_ ⟨.str _,B,D.tok _,⟨_,rfl⟩,q _ (AcR n hn)⟩;have:(n:Int).natAbs=n:=rfl;rw [this];exact Xa (Nat.log2_le_self n) (by omega)
 .obtain ⟨t,rfl⟩:=L;exact tX ⟨.str _,B,D,⟨_,rfl⟩,q⟩ ⟨.str _,B,D.tok _,⟨_,rfl⟩,q⟩ hz
end
section
variable {K:TH}{a D:Addr}{xs:List V}{g:TG}{tt:TT}{te:TE}{σ0:St}{H:Hp}{Q:Hp->Prop}
abbrev Jf (D:Addr)(tt:TT)(te:TE)(N:St->Hp->Prop):St->Hp->Prop:=λσ3 H3=>tt σ3 H3 λb H4 =>
 if b=true then te σ3 H4 λv H5=>∃ ys,H5 D=some (.lst ys)/\ys.length<sizeLine/\N σ3 (upd H5 D (.lst (ys++[v]))) else N σ3 H4
theorem AcS (Pv:Nat->St->Hp->Prop)(h0:Pv 0 σ0 (upd H D (.lst [])))(hl:∀ i σ H,i<=xs.length->Pv i σ H->A7 K H a xs)(hs:∀ i x t σ B,xs[i]?=some x->Pv i σ B->B t=none->g (.ref t) σ (upd B t (.tup [.int i,x])) (Jf D tt te (Pv (i+1))))(hd:∀ σ B,Pv xs.length σ B->Q B) :
  ∃ W:Nat->Nat->St->Hp->Prop,(∃ m,W 0 m σ0 (upd H D (.lst [])))/\∀ i m σ' B,W i m σ' B ->
   ((EL K a).stop i B/\Q B)\/((EL K a).go i B/\∃ N:St->Hp->Prop,(∀ σ2 I,N σ2 I->∃ m',m'<m/\W (i+1) m' σ2 I)/\∀ x I,(EL K a).bU i B x I->g x σ' I λσ3 H3=>tt σ3 H3 λb L =>
    if b=true then te σ3 L λv O=>∃ ys,O D=some (.lst ys)/\ys.length<sizeLine/\N σ3 (upd O D (.lst (ys++[v]))) else N σ3 L):=by
 refine ⟨λi m σ H=>m=xs.length - i/\i<=xs.length/\Pv i σ H,⟨xs.length,by simp,UH _,h0⟩,?_⟩;rintro i m σ J ⟨rfl,hi,p⟩;have q:=hl i σ J hi p;by_cases Y:i<xs.length
 .refine .inr ⟨⟨xs,xs[i],q,by simp [Y]⟩,Pv (i+1),λσ' B p'=>⟨xs.length - (i+1),by omega,rfl,Y,p'⟩,λx B y=>?_⟩;replace y:=Bk y;obtain ⟨t,y,rfl,ht,rfl,hy⟩:=y
  exact hs i y t σ J (hy xs q) p ht
 .have e:i=xs.length:=by omega
  subst e;exact .inl ⟨⟨xs,q,T3 _⟩,hd σ J p⟩
theorem Jg (Pv:Nat->St->Hp->Prop)(h0:Pv 0 σ0 (upd H D (.lst [])))(hl:∀ i σ H,i<=xs.length->Pv i σ H->A7 K H a xs)(hs:∀ i x σ B,xs[i]?=some x->Pv i σ B->g x σ B (Jf D tt te (Pv (i+1))))(hd:∀ σ B,Pv xs.length σ B->Q B) :
  ∃ W:Nat->Nat->St->Hp->Prop,(∃ m,W 0 m σ0 (upd H D (.lst [])))/\∀ i m σ' B,W i m σ' B ->
   ((DA K a).stop i B/\Q B)\/((DA K a).go i B/\∃ N:St->Hp->Prop,(∀ σ2 I,N σ2 I->∃ m',m'<m/\W (i+1) m' σ2 I)/\∀ x I,(DA K a).bU i B x I->g x σ' I λσ3 H3=>tt σ3 H3 λb J =>
    if b=true then te σ3 J λv L=>∃ ys,L D=some (.lst ys)/\ys.length<sizeLine/\N σ3 (upd L D (.lst (ys++[v]))) else N σ3 J):=by
 refine ⟨λi m σ H=>m=xs.length - i/\i<=xs.length/\Pv i σ H,⟨xs.length,by simp,UH _,h0⟩,?_⟩;rintro i m σ O ⟨rfl,hi,p⟩;have q:=hl i σ O hi p;by_cases Y:i<xs.length
 .refine .inr ⟨⟨xs,xs[i],q,by simp [Y]⟩,Pv (i+1),λσ' B p'=>⟨xs.length - (i+1),by omega,rfl,Y,p'⟩,λx B y=>?_⟩;obtain ⟨rfl,hy⟩:=y;exact hs i x σ _ (hy xs q) p
 .have e:i=xs.length:=by omega
  subst e;exact .inl ⟨⟨xs,q,T3 _⟩,hd σ O p⟩
theorem Ho {lo:Int}{n:Nat}(Pv:Nat->St->Hp->Prop)(Y:Pv 0 σ0 (upd H D (.lst [])))(hs:∀ i σ B,i<n->Pv i σ B->g (.int (lo+i)) σ B (Jf D tt te (Pv (i+1))))(hd:∀ σ B,Pv n σ B->Q B) :
  ∃ W:Nat->Nat->St->Hp->Prop,(∃ m,W 0 m σ0 (upd H D (.lst [])))/\∀ i m σ' B,W i m σ' B ->
   ((DP lo n).stop i B/\Q B)\/((DP lo n).go i B/\∃ N:St->Hp->Prop,(∀ σ2 I,N σ2 I->∃ m',m'<m/\W (i+1) m' σ2 I)/\∀ x I,(DP lo n).bU i B x I->g x σ' I λσ3 H3=>tt σ3 H3 λb L =>
    if b=true then te σ3 L λv O=>∃ ys,O D=some (.lst ys)/\ys.length<sizeLine/\N σ3 (upd O D (.lst (ys++[v]))) else N σ3 L):=by
 refine ⟨λi m σ H=>m=n - i/\i<=n/\Pv i σ H,⟨n,by simp,UH _,Y⟩,?_⟩;rintro i m σ H1 ⟨rfl,hi,p⟩;by_cases J:i<n
 .refine .inr ⟨J,Pv (i+1),λσ' B p'=>⟨n - (i+1),by omega,rfl,J,p'⟩,λx B y=>?_⟩;obtain ⟨rfl,rfl⟩:=y;exact hs i σ _ J p
 .have e:i=n:=by omega
  subst e;exact .inl ⟨T3 _,hd σ H1 p⟩
theorem AcT {L:TS}{E:Di}{σ:St}(Pv:Nat->St->Hp->Prop)(Y:Pv 0 σ H)(hl:∀ i σ H,i<=xs.length->Pv i σ H->A7 K H a xs)(hs:∀ i x t σ H,xs[i]?=some x->Pv i σ H->H t=none->g (.ref t) σ (upd H t (.tup [.int i,x])) λσ2 I=>L { E with nx:=Pv (i+1),ct:=Pv (i+1),bk:=E.nx } σ2 I)(hd:∀ σ H,Pv xs.length σ H->E.nx σ H) :
  ∃ W:Nat->Nat->St->Hp->Prop,(∃ m,W 0 m σ H)/\∀ i m σ H,W i m σ H ->
   ((EL K a).stop i H/\E.nx σ H)\/((EL K a).go i H/\∃ N:St->Hp->Prop,(∀ σ' B,N σ' B->∃ m',m'<m/\W (i+1) m' σ' B)/\∀ x B,(EL K a).bU i H x B->g x σ B λσ2 I=>L { E with nx:=N,ct:=N,bk:=E.nx } σ2 I):=by
 refine ⟨λi m σ H=>m=xs.length - i/\i<=xs.length/\Pv i σ H,⟨xs.length,by simp,UH _,Y⟩,?_⟩;rintro i m σ J ⟨rfl,hi,p⟩;have q:=hl i σ J hi p;by_cases O:i<xs.length
 .refine .inr ⟨⟨xs,xs[i],q,by simp [O]⟩,Pv (i+1),λσ' B p'=>⟨xs.length - (i+1),by omega,rfl,O,p'⟩,λx B y=>?_⟩;replace y:=Bk y;obtain ⟨t,y,rfl,ht,rfl,hy⟩:=y
  exact hs i y t σ J (hy xs q) p ht
 .have e:i=xs.length:=by omega
  subst e;exact .inl ⟨⟨xs,q,T3 _⟩,hd σ J p⟩
end
section
variable {X:Cx}(K:TH)(h:X.K=K)
include h
theorem ER:DR X (OF K):=h▸Bx
theorem Pa (hu:X.A.units+64<cLine):A8 X (UJ .Eq) (λx y H Q=>KO x y H Q\/G9 K false x y H Q):=h▸CC hu
theorem AcU:BB X (.builtin "len") (λxs H Q=>(∃ z,xs=[.str z]/\z.length<=sizeLine/\Q (.int z.length) H)\/∃ p ys,xs=[.ref p]/\(A7 K H p ys\/Bl K H p ys)/\Q (.int ys.length) H):=h▸Cw
theorem Jh (n:Nat){es:List TN}{k:Nat}{pos:Pos}{t:Ey}(hc:X.calm=true)(B:GO X es t)(D:(Wc es X.env).length=n)(H:(Wc es X.env).findIdx? (·.1)=none):PG X (.Tuple es k pos) (NY K n t):=h▸GQ hc B D H
theorem AcV:A8 X (UJ .In) (λx y H Q=>(∃ i j,x=.str i/\y=.str j/\Q (.bl (F9 i j)) H)\/GY K false x y H Q):=h▸K0
end
section
variable {κ:Type} [DecidableEq κ]
noncomputable def Bj (kvs:List (κ×V))(k:κ):Option V:=(kvs.find? λkv=>decide (kv.1=k)).map (·.2)
noncomputable def BD (kvs:List (κ×V))(k:κ)(v:V):List (κ×V) :=
 if (kvs.any λkv=>decide (kv.1=k))=true then kvs.map (λkv=>if kv.1=k then (kv.1,v) else kv) else kvs++[(k,v)]
theorem Ek {p:κ×V}{r:List (κ×V)}{k:κ}(e:p.1=k):Bj (p :: r) k=some p.2:=by simp [Bj,VI,e]
theorem DE {p:κ×V}{r:List (κ×V)}{k:κ}(e:¬ p.1=k):Bj (p :: r) k=Bj r k:=by simp [Bj,VI,e]
theorem Ll (k:κ):∀ kvs:List (κ×V),(kvs.any λkv=>decide (kv.1=k))=(Bj kvs k).isSome
 | []=>rfl
 | p :: r=>by
  rw [Xv];by_cases e:p.1=k
  .simp only [Ek e,decide_eq_true e,Bool.true_or,Option.isSome_some]
  .rw [DE e,decide_eq_false e,Bool.false_or];exact Ll k r
theorem Ji (k j:κ)(y:V):∀ kvs:List (κ×V),Bj kvs k=none->Bj (kvs++[(k,y)]) j=if j=k then some y else Bj kvs j
 | [],_=>by
  by_cases e:k=j
  .rw [if_pos e.symm];exact Ek (p:=(k,y)) e
  .rw [if_neg (λz=>e z.symm)];exact DE (p:=(k,y)) e
 | p :: r,hn=>by
  rw [Wq];have hk:¬ p.1=k:=λz=>by rw [Ek z] at hn;cases hn
  rw [DE hk] at hn;have ih:=Ji k j y r hn;by_cases e:p.1=j
  .rw [Ek e,Ek e,if_neg (λz=>hk (e.trans z))]
  .rw [DE e,DE e,ih]
theorem Jj (kvs:List (κ×V))(k:κ)(v:V):(BD kvs k v).length<=kvs.length+1:=by
 unfold BD;split
 .rw [TU];omega
 .rw [UK,Vf,uf];omega
theorem Jk {kvs:List (κ×V)}{k:κ}(v:V)(h:Bj kvs k=none):BD kvs k v=kvs++[(k,v)]:=by unfold BD;rw [Ll,h];exact if_neg (by decide)
theorem CP.oV {o:Option V}{u:Option Value}(r:CP o u):o.isSome=u.isSome:=by
 cases o with
 | none=>cases u with
  | none=>rfl
  | some _=>exact (show False from r).elim
 | some _=>cases u with
  | none=>exact (show False from r).elim
  | some _=>rfl
theorem KV.val {kvs:List (κ×V)}{vs:List (κ×Value)}(r:KV kvs vs)(k:κ):CP (Bj kvs k) (WW vs k):=by
 unfold KV at r;induction r with
 | nil=>exact Vl
 | @cons p q J B h t ih =>
  obtain ⟨H,I⟩:=h;by_cases e:p.1=k
  .have D:q.1=k:=H.symm.trans e;have b:WW (q :: B) k=some q.2:=by simp [WW,VI,D]
   rw [Ek e,b];exact I
  .have D:¬ q.1=k:=λz=>e (H.trans z);have b:WW (q :: B) k=WW B k:=by simp [WW,VI,D]
   rw [DE e,b];exact ih
theorem KV.any {kvs:List (κ×V)}{vs:List (κ×Value)}(r:KV kvs vs)(k:κ):(kvs.any λkv=>decide (kv.1=k))=vs.any λkv=>decide (kv.1=k):=by
 unfold KV at r;induction r with
 | nil=>rfl
 | cons h t ih=>rw [Xv,Xv,ih,h.1]
theorem KV.kG {kvs:List (κ×V)}{vs:List (κ×Value)}(r:KV kvs vs)(k:κ){y:V}{u:Value}(D:AG y u) :
  KV (kvs.map λkv=>if kv.1=k then (kv.1,y) else kv) (vs.map λkv=>if kv.1=k then (kv.1,u) else kv):=by
 unfold KV at r ⊢;induction r with
 | nil=>exact .nil
 | @cons p q I J h t ih =>
  rw [U4,U4];refine .cons ?_ ih;obtain ⟨B,H⟩:=h;by_cases e:p.1=k
  .rw [if_pos e,if_pos (B.symm.trans e)];exact ⟨B,D⟩
  .rw [if_neg e,if_neg (λz=>e (B.trans z))];exact ⟨B,H⟩
theorem KV.put {kvs:List (κ×V)}{vs:List (κ×Value)}(r:KV kvs vs)(k:κ){y:V}{u:Value}(B:AG y u):KV (BD kvs k y) (stored vs k u):=by
 unfold BD stored;rw [r.any k];by_cases e:(vs.any λkv=>decide (kv.1=k))=true
 .rw [if_pos e,if_pos e];exact r.kG k B
 .rw [if_neg e,if_neg e];exact Paired.snoc r ⟨rfl,B⟩
theorem KV.keys {kvs:List (κ×V)}{vs:List (κ×Value)}(r:KV kvs vs):kvs.map (·.1)=vs.map (·.1):=by
 unfold KV at r;induction r with
 | nil=>rfl
 | cons h t ih=>rw [U4,U4,ih,h.1]
theorem KV.length {kvs:List (κ×V)}{vs:List (κ×Value)}(r:KV kvs vs):kvs.length=vs.length:=Paired.length r
end
theorem Gd {P:TV}{w:TM}{k:Av}{u:Value}(r:AG (kV k) u):(Br P w).is k u=true:=by
 cases k with
 | inl i=>obtain ⟨t,e⟩:=(show ∃ t,u=U3 i t from r);subst e;exact Aah P w i t
 | inr x=>obtain ⟨t,e⟩:=(show ∃ t,u=UQ x t from r);subst e;exact F1 P w x t
theorem Pb {P:TV}{w:TM}:∀{ks:List Av}{us:List Value},As (ks.map kV) us->ItemsAre (Br P w) ks us
 | [],_,r=>by rw [Xy] at r;cases r;exact .nil
 | k :: ks,_,r=>by
  rw [U4] at r;cases r with
  | cons h t=>exact .cons (Gd h) (Pb t)
abbrev KT (H:Hp):List (List Av×V)->List (List Av×Addr×Value)->Prop:=Paired λp q=>p.1=q.1/\H q.2.1=some (.tup (p.1.map kV))/\AG p.2 q.2.2
theorem KT.val {H:Hp}{kvs:List (List Av×V)}{xs:List (List Av×Addr×Value)}(r:KT H kvs xs)(k:List Av):CP (Bj kvs k) ((Wr xs k).map (·.2)):=by
 induction r with
 | nil=>exact Vl
 | @cons p q L B h t ih =>
  obtain ⟨I,_,J⟩:=AW h;by_cases e:p.1=k
  .have D:q.1=k:=I.symm.trans e;have b:Wr (q :: B) k=some q.2:=by simp [Wr,VI,D]
   rw [Ek e,b];exact J
  .have D:¬ q.1=k:=λz=>e (I.trans z);have b:Wr (q :: B) k=Wr B k:=by simp [Wr,VI,D]
   rw [DE e,b];exact ih
theorem KT.kG {H:Hp}{kvs:List (List Av×V)}{xs:List (List Av×Addr×Value)}(r:KT H kvs xs)(k:List Av){y:V}{u:Value}(I:AG y u) :
  KT H (kvs.map λkv=>if kv.1=k then (kv.1,y) else kv) (xs.map (putAt k u)):=by
 induction r with
 | nil=>exact .nil
 | @cons p q L O h t ih =>
  rw [U4,U4];refine .cons ?_ ih;obtain ⟨B,D,J⟩:=AW h;unfold putAt;by_cases e:p.1=k
  .rw [if_pos e,if_pos (B.symm.trans e)];exact ⟨B,D,I⟩
  .rw [if_neg e,if_neg (λz=>e (B.trans z))];exact ⟨B,D,J⟩
theorem KT.put {H:Hp}{kvs:List (List Av×V)}{xs:List (List Av×Addr×Value)}(r:KT H kvs xs)(k:List Av){b:Addr}{y:V}{u:Value}(hb:H b=some (.tup (k.map kV)))(B:AG y u) :
  KT H (BD kvs k y) (storedH xs k b u):=by
 have e:(kvs.any λkv=>decide (kv.1=k))=(Wr xs k).isSome:=by rw [Ll,(r.val k).oV,Option.isSome_map]
 unfold BD storedH;rw [e];by_cases q:(Wr xs k).isSome=true
 .rw [if_pos q,if_pos q];exact r.kG k B
 .rw [if_neg q,if_neg q];exact Paired.snoc r ⟨rfl,hb,B⟩
theorem KT.keeps {H B:Hp}{kvs:List (List Av×V)}{xs:List (List Av×Addr×Value)}(r:KT H kvs xs)(D:∀ b ys,H b=some (.tup ys)->B b=some (.tup ys)):KT B kvs xs :=
 Paired.kf r λ_ _ z=>⟨z.1,D _ _ z.2.1,z.2.2⟩
section
variable {P:TV}{w:TM}{H:Hp}{h:Heap}{a:Addr}
theorem Pc {u:HO}(ok:AM P w H h)(e:Rd H a u):Bg P w H h a u:=e.ok ok
theorem Pd {kvs:List (Av×V)}(ok:AM P w H h)(e:Rd H a (.dK kvs)):kvs.length<=sizeLine/\(a == Vh)=false/\∃ vs,KV kvs vs/\h.DictOf (Br P w) a vs :=
 show Bg P w H h a (.dK kvs) from Pc ok e
theorem Jl {kvs:List (Av×V)}(ok:AM P w H h)(e:H a=some (.dK kvs)):kvs.length<=sizeLine/\(a == Vh)=false/\∃ vs,KV kvs vs/\h.DictOf (Br P w) a vs:=Pd ok (.inl e)
theorem Pe {ks:List Av}(ok:AM P w H h)(e:H a=some (.tup (ks.map kV))):(Xj (Br P w)).is h ks a:=by obtain ⟨_,its,r,o,B,D,n,I⟩:=(show Bg P w H h a (.tup (ks.map kV)) from ok a _ e);exact ⟨o,its.toArray,n,B,D,I,by simpa using Pb r⟩
theorem AcW {kvs:List (List Av×V)}(ok:AM P w H h)(e:Rd H a (.dT kvs)):kvs.length<=sizeLine/\(a == Vh)=false /\
  ∃ xs,KT H kvs xs/\h.DictOfH (Xj (Br P w)) a xs:=by
 obtain ⟨z,y,xs,r,o,es,B,D,I,J,L,O⟩:=AW ((show Bg P w H h a (.dT kvs) from Pc ok e));refine ⟨z,y,xs,r,o,es,B,D,I,J,L,λx hx=>?_,O⟩;have all:∀{l:List (List Av×V)}{m:List (List Av×Addr×Value)},KT H l m->∀ x∈m,(Xj (Br P w)).is h x.1 x.2.1:=by
  intro l m q;induction q with
  | nil=>intro x hx;exact nomatch hx
  | @cons p q Y qs hq t ih =>
   intro x hx;rcases T8.mp hx with e | hx
   .subst e;exact Pe ok (by rw [<- hq.1];exact hq.2.1)
   .exact ih x hx
 exact all r x hx
theorem AcX {kvs:List (List Av×V)}(ok:AM P w H h)(e:H a=some (.dT kvs)):kvs.length<=sizeLine/\(a == Vh)=false /\
  ∃ xs,KT H kvs xs/\h.DictOfH (Xj (Br P w)) a xs:=AcW ok (.inl e)
end
def Pf (H:Hp)(a:Addr)(y v:V)(H':Hp):Prop :=
 (∃ kvs k,H a=some (.dK kvs)/\y=kV k/\kvs.length<sizeLine/\H'=upd H a (.dK (BD kvs k v))) \/
 ∃ kvs k b,H a=some (.dT kvs)/\y=.ref b/\H b=some (.tup (k.map kV))/\kvs.length<sizeLine/\H'=upd H a (.dT (BD kvs k v))
section
variable {X:Cx}{pins:List (Addr×Obj)}{σ:St}{H:Hp}{s:TF}{a:Addr}{y v:V}{u r:Value}{o:Option V}{A:Ub}{E:Value->TF->Prop}
theorem Ae.big (I:Ae X pins σ H s):Vh<s.heap.objs.size:=by have h:Ui<s.heap.objs.size:=(I.mod.glob.keeps I.bk).lt;exact Nat.lt_trans (by decide) h
theorem Jm {h':Heap}{t':Nat}{B:HO}(I:Ae X pins σ H s)(D:GJ (H a))(hs:UN a s.heap h')(J:∃ q,h'.get? a=some q)(new:Bg X.prog X.w (upd H a B) h' a B) :
  Ae X pins σ (upd H a B) { s with heap:=h',toks:=t' } :=
 I.write (x:=a) (e:=a) D (.inl rfl) (λb q hb z=>(hs.2 b hb).trans z) J new
theorem Lm {P:TV}{w:TM}{B:Hp}{h':Heap}{kvs:List (Av×V)}{vs:List (Av×Value)}(z:kvs.length<=sizeLine)(hd:(a == Vh)=false)(rel:KV kvs vs)(dd:h'.DictOf (Br P w) a vs) :
  Bg P w B h' a (.dK kvs):=⟨z,hd,vs,rel,dd⟩
theorem AcY {H':Hp}{Q:Unit->TF->Prop}(hu:A.units+1<cLine)(I:Ae X pins σ H s)(g:Pf H a y v H')(ry:AG y u)(rv:AG v r)(h:∀ s',Ae X pins σ H' s'->Q () s') :
  TL (TQ X.prog X.w) A (XR (.ref a) u r) Q E s:=by
 rcases g with ⟨B,k,e,J,l,L⟩ | ⟨B,k,b,e,J,eb,l,L⟩
 .subst J L;obtain ⟨z,hd,vs,rel,O⟩:=AW (Jl I.af e);have Y:vs.length<=sizeLine:=by rw [<- rel.length];exact z
  have hl:(BD B k v).length<=sizeLine:=by have:=Jj B k v;omega
  refine wpAny_setItem_pairs (hsz:=Y) (Gd ry) O λh' D hs=>h _ ?_;have he:∃ q,h'.get? a=some q:=let ⟨q,_,_,hq,_⟩:=D;⟨q,hq⟩;exact Jm I (by rw [e];exact Vl) hs he (Lm hl hd (rel.put k rv) D)
 .subst J L;cases (show u=Uz b from ry);obtain ⟨z,hd,xs,rel,O⟩:=AW (AcX I.af e);have Y:xs.length<=sizeLine:=by rw [<- Paired.length rel];exact z
  have hl:(BD B k v).length<=sizeLine:=by have:=Jj B k v;omega
  refine wpAny_setItem_heap (hsz:=Y) (tupleKind_room_in1 hu) (Pe I.af eb) O λh' D hs=>h _ ?_;obtain ⟨q,es,ep,hq,h2,h3,h4,_,h5⟩:=F0 D;refine Jm I (by rw [e];exact Vl) hs ⟨q,hq⟩ ⟨hl,hd,_,(rel.put k eb rv).keeps λc ys ec=>?_,q,es,ep,hq,h2,h3,h4,h5⟩;rw [Ap (Iu ec e (λz=>nomatch z))];exact ec
end
section
variable {X:Cx}{pins:List (Addr×Obj)}{σ:St}{H:Hp}{s:TF}{a:Addr}{kvs:List (Av×V)}{k:Av}{u:Value}{A:Ub}{E:Value->TF->Prop}
end
def Lp (i:TN):Prop:=∀ ov iv,XZ i false ov iv=operate [ov,iv] (W2 ov iv)
theorem AcZ {prog:TV}{w:TM}{A:Ub}{E:Value->TF->Prop}{s:TF}{env:Env}{value slice:TN}{pos:Pos}{T id:String}{Q:Value->TF->Prop}(O:typeLookup (.type T) "__getitem__"=pure (some (.builtin id)))(hs:Lp slice)(h:TL (TQ prog w) A (TZ value env) (λo I=>TL (TQ prog w) A (TZ slice env) (λi D=>D.TypeIs o T/\TL (TQ prog w) A (W2 o i) Q E D) E I) E s) :
  TL (TQ prog w) A (TZ (.Subscript value slice pos) env) Q E s:=by
 refine Y0 (Vx h (λo I V=>Vx V (λi D H=>?_) λ_ _ x=>x) λ_ _ x=>x);obtain ⟨J,H⟩:=H;unfold Y1;refine TR ?_;rw [getitemInPython_of_ne J.not_modules];refine TR (wpAny_specialOf J O ?_);have B:TL (TQ prog w) A (XZ slice false o i) (λr L=>TL (TQ prog w) A (letTemporaryGo value o r >>= λ_=>pure r) Q E L) E D:=by rw [hs o i];exact wpAny_operating (Vx H (λr L Y=>TR (wpAny_letTemporaryGo (T6 Y))) λ_ _ x=>x)
 first
  | exact T6 (TR B)
  | exact TR (T6 (TR B))
  | exact TR B
def Ac0 (td ty tv:TE):TS:=λD σ H=>tv σ H λv H1=>td σ H1 λx H2=>ty σ H2 λy H3=>∃ a H4,x=.ref a/\Pf H3 a y v H4/\D.nx σ H4
section
variable {X:Cx}{o i e value:TN}{pos pos' jq:Pos}{td ty tv:TE}
theorem Lq (hu:X.A.units+1<cLine)(J:PE X o td)(L:PE X i ty)(hv:PE X value tv)(hs:WD value (some (.Subscript o i pos')) pos.line X.env=pure false) :
  PS X (.Assign [.Subscript o i pos'] value pos) (Ac0 td ty tv):=by
 intro pins s σ H D I h;refine wpAny_Assign_Subscript (Am (hv pins s σ H _ I h) λr O B=>AH B λv V Y rv q1=>Am (J pins O σ V _ Y q1) λu s2 B=>AH B λx H2 I2 rx q2=>Am (L pins s2 σ H2 _ I2 q2) λiv s3 B=>AH B λy H3 I3 ry ⟨a,H4,ex,g,q3⟩=>?_) hs;subst ex;obtain rfl:u=Uz a:=rx;exact AcY hu I3 g ry rv λs4 I4=>⟨σ,H4,I4,q3⟩
end
theorem Lr {P:TV}{w:TM}{H:Hp}(h:Heap)(hb:Vh<h.objs.size):Bg P w H (h.push { cls:=.type "dict",data:=.dict #[] }) h.objs.size (.dK []) :=
 ⟨UH _,beq_eq_false_iff_ne.mpr (Uj (Uq hb)),[],.nil,Heap.DictOf.new h⟩
def Ac1:TE:=λ_ H Q=>∀ p,H p=none->Q (.ref p) (upd H p (.dK []))
section
variable {X:Cx}{pos:Pos}
theorem Ac2:PE X (.Dict [] [] pos) Ac1:=λpins s σ H Q I h =>
 wpAny_Dict_empty ⟨.ref s.heap.objs.size,_,I.laid (a:=s.heap.objs.size) (o:=.dK []) (t':=s.toks) (λ_ _ q=>Ul _ q) (T3 _) (Lr s.heap I.big),rfl,h _ (I.af.fresh (T3 _))⟩
end
def Ls:List (TE×TE)->St->Hp->(List (V×V)->Hp->Prop)->Prop
 | [],_,H,Q=>Q [] H
 | (tk,tv) :: r,σ,H,Q=>tk σ H λx H1=>tv σ H1 λy H2=>Ls r σ H2 λps H3=>Q ((x,y) :: ps) H3
abbrev VV:List (V×V)->List (Value×Value)->Prop:=Paired λp q=>AG p.1 q.1/\AG p.2 q.2
def Jn (X:Cx)(pos:Pos)(keys:List (Option TN))(values:List TN)(dO:List (TE×TE)):Prop :=
 ∀(pins:List (Addr×Obj))(s:TF)(σ:St)(H:Hp)(Q:List (V×V)->Hp->Prop),Ae X pins σ H s->Ls dO σ H Q ->
  TL (TQ X.prog X.w) X.A (evalPairs (pairTrees keys values X.env pos)) (λvs s'=>∃ ps H',Ae X pins σ H' s'/\VV ps vs/\Q ps H') X.xe s
theorem Ac3 {X:Cx}{pos:Pos}:Jn X pos [] [] []:=λpins s σ H Q I h=>pairTrees_nil_walk ⟨[],H,I,.nil,h⟩
theorem Lu {X:Cx}{pos:Pos}{k v:TN}{ks:List (Option TN)}{vs:List TN}{tk D:TE}{J:List (TE×TE)}(hk:PE X k tk)(hv:PE X v D)(L:Jn X pos ks vs J) :
  Jn X pos (some k :: ks) (v :: vs) ((tk,D) :: J):=λpins s σ H Q I h =>
 pairTrees_cons_walk (Am (hk pins s σ H _ I h) λu O B=>AH B λx V Y rx q1=>Am (hv pins O σ V _ Y q1) λw2 s2 ⟨y,H2,I2,ry,q2⟩ =>
  Am (L pins s2 σ H2 _ I2 q2) λws s3 B=>AH B λps H3 I3 rel q3=>⟨(x,y) :: ps,H3,I3,.cons ⟨rx,ry⟩ rel,q3⟩)
def Ge (kvs more:List (Av×V)):List (Av×V):=more.foldl (λacc kv=>BD acc kv.1 kv.2) kvs
theorem KV.merge:∀{more:List (Av×V)}{B:List (Av×Value)}{kvs:List (Av×V)}{vs:List (Av×Value)},KV more B->KV kvs vs->KV (Ge kvs more) (merged vs B):=by
 intro more B kvs vs r;unfold KV at r;induction r generalizing kvs vs with
 | nil=>intro q;exact q
 | @cons p q H I h t ih =>
  intro D;have e:KV (BD kvs p.1 p.2) (stored vs q.1 q.2):=by have:=D.put p.1 h.2;rw [<- h.1];exact this
  exact ih e
theorem Pg:∀(more kvs:List (Av×V)),(Ge kvs more).length<=kvs.length+more.length
 | [],kvs=>by show kvs.length<=kvs.length+0;omega
 | p :: r,kvs=>by
  have B:=Pg r (BD kvs p.1 p.2);have D:=Jj kvs p.1 p.2;show (Ge (BD kvs p.1 p.2) r).length<=_;rw [Vf];omega
theorem Ph {P:TV}{w:TM}:∀{kvs:List (Av×V)}{ws:List (Value×Value)},VV (kvs.map λkv=>(kV kv.1,kv.2)) ws->∃ B,Carries (Br P w) ws B/\KV kvs B
 | [],_,r=>by rw [Xy] at r;cases r;exact ⟨[],Vl,.nil⟩
 | p :: kvs,_,r=>by
  rw [U4] at r;cases r with
  | @cons a b H bs h t =>
   obtain ⟨B,c,q⟩:=Ao (Ph (P:=P) (w:=w) t);obtain ⟨I,D⟩:=b;exact ⟨(p.1,D) :: B,⟨Gd h.1,rfl,c⟩,.cons ⟨rfl,h.2⟩ q⟩
def Ac4 (dO:List (TE×TE)):TE:=λσ H Q=>∀ p,H p=none->Ls dO σ (upd H p (.dK [])) λps H2=>H2 p=some (.dK [])/\∃ kvs:List (Av×V),ps=kvs.map (λkv=>(kV kv.1,kv.2))/\kvs.length<=15/\Q (.ref p) (upd H2 p (.dK (Ge [] kvs)))
theorem Ac5 {X:Cx}{pos:Pos}{keys:List (Option TN)}{B:List TN}{L:List (TE×TE)}(h:Jn X pos keys B L)(aB:keys.all (·.isSome)=true)(hl:keys.length=B.length)(h0:keys≠[])(J:keys.length<=15):PE X (.Dict keys B pos) (Ac4 L):=by
 intro pins s σ H Q I q;have hn:=I.af.fresh (T3 s.heap.objs.size);have I1:=I.laid (a:=s.heap.objs.size) (o:=.dK []) (h':=s.heap.push { cls:=.type "dict",data:=.dict #[] }) (t':=s.toks) (λ_ _ q=>Ul _ q) (T3 _) (Lr s.heap I.big);refine wpAny_Dict_walk (knd:=Br X.prog X.w) aB hl h0 J (Am (h pins _ σ _ _ I1 (q _ hn)) λws s2 zz=>AH zz λps H2 V rel ⟨e,D,ep,lk,q2⟩=>?_);subst ep;obtain ⟨rs,c,rk⟩:=Ao (Ph (P:=X.prog) (w:=X.w) rel);obtain ⟨z,hd,vs0,r0,dd⟩:=AW (Jl V.af e);cases r0;refine ⟨rs,c,dd,λO Y hs=>⟨.ref s.heap.objs.size,_,?_,rfl,q2⟩⟩;have hz:(Ge [] D).length<=sizeLine:=by have h1:=Pg D [];rw [uf] at h1;rw [TY];omega
 have he:∃ q,O.get? s.heap.objs.size=some q:=let ⟨q,_,_,hq,_⟩:=Y;⟨q,hq⟩;exact Jm V (by rw [e];exact Vl) hs he (Lm hz hd (rk.merge .nil) Y)
structure M1 (X:Cx)(o:TN)(m:Str)(apos:Pos)(e:TN)(bh:Pos):Prop where
 base:Xr o m X.env (TZ o X.env)=TZ o X.env
 aJ:((UA bh (T2 [e] X.env)).all (λx=>!x.1) && (VM bh (VN [] X.env)).all (λx=>x.1.isSome)
  && decide (([e]:List TN).length+([]:List WO).length+(if ([]:List WO).isEmpty then 0 else 1)<30))=true
 line:(apos.endLine == bh.line)=true
 trees:UA bh (T2 [e] X.env)=[(false,TZ e X.env)]
structure M2 (X:Cx)(o:TN)(m:Str)(apos:Pos)(e f:TN)(bh:Pos):Prop where
 base:Xr o m X.env (TZ o X.env)=TZ o X.env
 aJ:((UA bh (T2 [e,f] X.env)).all (λx=>!x.1) && (VM bh (VN [] X.env)).all (λx=>x.1.isSome)
  && decide (([e,f]:List TN).length+([]:List WO).length+(if ([]:List WO).isEmpty then 0 else 1)<30))=true
 line:(apos.endLine == bh.line)=true
 trees:UA bh (T2 [e,f] X.env)=[(false,TZ e X.env),(false,TZ f X.env)]
section
variable {X:Cx}{pins:List (Addr×Obj)}{σ:St}{H:Hp}{s:TF}{a:Addr}{y d:V}{u r:Value}{o:Option V}{A:Ub}{E:Value->TF->Prop}
end
section
variable {X:Cx}{o e f:TN}{apos bh:Pos}{td ty tx:TE}
end
section
variable {X:Cx}{pins:List (Addr×Obj)}{σ:St}{H:Hp}{s:TF}{a:Addr}{kvs:List (Av×V)}{A:Ub}{E:Value->TF->Prop}
end
section
variable {X:Cx}{pins:List (Addr×Obj)}{σ:St}{H:Hp}{s:TF}{a:Addr}{y:V}{u:Value}{A:Ub}{E:Value->TF->Prop}
end
section
variable {X:Cx}
end
section
variable {κ:Type} [DecidableEq κ]
end
structure Pj (K:TH)(C f:Addr)(m:Str):Prop where
 rd:ug K C (.type "type")=true
 sp:XU K (.ref C) "__getattribute__"=some (some (.builtin "type.__getattribute__"))
 fd:uh K (.ref C) (.type "type") m=some (.val (.ref f))
 ty:YT K (.ref f)=some (.type "function")
 kp:U5 K (.ref f)=true
section
variable {X:Cx}{CX:B4}{k:Nat}{f C:Addr}{fd:T5}{ps:List Str}{sp:Sp}{E:XK}{x m:Str}{p pos apos:Pos}{e:TN}{es:List TN}{t:TA}
theorem Ac6 {pl:Sem Bool}(c:Pj X.K C f m)(g:Gm X.env.scope x)(Y:X.mg x=some (.ref C))(F:AE X.prog X.w X.K X.mg X.base CX k f fd ps sp)(hb:C3 X.K fd ps [])(hr:Bq k X.A)(hx:CB CX X E)(ha:PA X (e :: es) t)(aU:T2 (e :: es) X.env=(false,TZ e X.env) :: T2 es X.env:=by rfl)(aV:(UA pos (T2 es X.env)).any (·.1)=false:=by rfl)(ht:TZ (.Call (.Attribute (.Name x p) m apos) (e :: es) [] pos) X.env=(TZ (.Name x p) X.env >>= λJ=>Vq apos.atName >>= λ_=>Vj [J] (V1 J m pl) >>= λL=>WN pos L.1 L.2 (UA pos (T2 (e :: es) X.env)) (VM pos (VN [] X.env))):=by rfl) :
  PE X (.Call (.Attribute (.Name x p) m apos) (e :: es) [] pos) (IM sp [] E t):=by
 intro pins s σ H Q I h;refine Xu (pl:=pl) ?_ ht;have pn:PE X (.Name x p) (tC (.ref C)):=Fz g Y rfl;refine Am (pn pins s σ H (λv O=>v=.ref C/\O=H) I ⟨rfl,rfl⟩) λu s1 B=>GH B λv O D rv e1 e2=>?_;subst e1 e2;cases rv;refine PySem.W.method_cls D.aN c.sp (PySem.W.cls_value D.aN c.rd c.fd rfl ?_);have I2:=D.tok (s1.toks+1);refine Xt (first:=[]) (h₀:=X.base) I.ok.mod.eI c.kp (Am (ha pos pins _ σ _ _ I2 h) λus s2 B=>AH B λvs H2 V r q=>⟨V.aN,?_⟩) aU aV;exact F4 F hr hb .nil hx V r q
end
section
variable {X:Cx}
end
theorem Jo:∀{vs:List Value}{zs:List Str},StrsAre vs zs->As (zs.map V.str) vs
 | _,_,.nil=>.nil
 | _,_,.cons n t r=>.cons ⟨t,rfl⟩ (Jo r)
theorem Lv:∀{zs:List Str}{vs:List Value},As (zs.map V.str) vs->StrsAre vs zs
 | [],_,.nil=>.nil
 | n :: zs,_,.cons r t=>by
  obtain ⟨B,rfl⟩:=r;exact .cons n B (Lv t)
def CV (a b:Str):Prop:=a.cps.toList<=b.cps.toList
theorem Ac7 {a b c:Str}(h:CV a b)(k:CV b c):CV a c:=List.le_trans h k
theorem Ac8 {a b:Str}(h:CV a b)(k:CV b a):a=b:=by have e:=Zp h k;cases a with | mk x=>cases b with | mk y=>cases x;cases y;simp_all
theorem Pk:∀(l:List Str)(p:Str),risingS p l=true->(p :: l).Pairwise CV
 | [],p,_=>List.pairwise_singleton _ _
 | x :: r,p,h=>by
  have B:(!ltCps x.cps.toList p.cps.toList && risingS x r)=true:=h;rw [Vu] at B;have ih:=Pk r x B.2;have hx:CV p x:=by have:=B.1;rw [ltCps_eq] at this;show ¬ (x.cps.toList<p.cps.toList);simpa using this
  refine ui.mpr ⟨λy hy=>?_,ih⟩;rcases T8.mp hy with z | z
  .rw [z];exact hx
  .exact Ac7 hx ((ui.mp ih).1 y z)
theorem Ac9:∀{l:List Str},sortedS l=true->l.Pairwise CV
 | [],_=>.nil
 | x :: r,h=>Pk r x h
theorem Ada {a b:List Str}(p:a.Perm b)(ha:a.Pairwise CV)(hb:b.Pairwise CV):a=b :=
 List.Perm.eq_of_pairwise (le:=CV) (λx y _ _ B D=>Ac8 B D) ha hb p
section
variable {X:Cx}
theorem Lx:BB X (.builtin "sorted") (λxs H Q=>∃(p:Addr)(zs:List Str),xs=[.ref p]/\A7 X.K H p (zs.map V.str)/\zs.length<64/\∀(l:Addr)(B:List Str),H l=none->B.Perm zs->B.Pairwise CV->Q (.ref l) (upd H l (.lst (B.map V.str)))):=by
 intro pins s σ H xs us Q I r h;replace h:=Bk h;obtain ⟨p,zs,rfl,hq,hl,q⟩:=h
 obtain ⟨u,rfl,L⟩:=Ao (CK r);cases L;obtain ⟨its,D,pl,hz⟩:=AF (I.list hq);have e:=D.length;rw [TU] at e;refine sorted_strs pl.isList (Lv D) (by omega) λout B O J Y=>?_;obtain ⟨c,ho⟩:=sortedAll_at s.heap its out;have fr:H (s.heap.objs.size+1)=none:=I.af.fresh (U9 _);refine ⟨.ref (s.heap.objs.size+1),_,I.laid (t':=s.toks) (λb o q=>sortedAll_old q) (U9 _) (show Bg X.prog X.w _ _ _ (.lst (B.map V.str)) from ⟨?_,out.toList,c,Jo O,by simpa using ho⟩),rfl,q _ B fr J (Ac9 Y)⟩;rw [TU,J.length_eq,TY];omega
theorem Adb (hc:X.calm=true):BB X (.builtin "all") (λxs H Q=>∃(p:Addr)(bs:List Bool),xs=[.ref p]/\A7 X.K H p (bs.map V.bl)/\Q (.bl (bs.all id)) H):=by
 intro pins s σ H xs us Q I r h;replace h:=Bk h;obtain ⟨p,bs,rfl,hq,q⟩:=h
 obtain ⟨u,rfl,rx⟩:=Ao (CK r);cases rx;obtain ⟨its,L,pl,hz⟩:=AF (I.list hq);refine call_all_walk (YM pl.isList ?_);have au:p<s.heap.objs.size:=by obtain ⟨o,e,_⟩:=Ao pl.isList;exact Uc e
 have J:=L.length;rw [TU] at J;have hb:∀(i:Nat)(v:Value),its.toArray[i]?=some v->v=Xh (bs.getD i true):=λi v hv=>by
  have O:its[i]?=some v:=by simpa using hv
  have B:i<bs.length:=by rw [J];exact (Uy.mp O).1
  obtain ⟨u,Y,e2⟩:=L.get (i:=i) (x:=.bl bs[i]) (by rw [T7,Ug B];rfl);rw [O] at Y;cases Y;rw [UO,Ug B];exact e2
 refine ⟨s.heap.objs.size,_,_,_,_,_,λi=>bs.getD i true,rfl,Walks.list (by simpa using I.ok.hd hc) s.heap.objs.size p (Uq au) its.toArray,⟨⟨_,U2 _ rfl,rfl,rfl⟩,pl.isList.push _⟩,λi v s' Q' E' hv fB=>?_,λh' tk hk=>?_⟩
 .rw [hb i v hv];exact WC fB
 .have e:(UY its.toArray.size).all (λi=>bs.getD i true)=bs.all id:=by
   rw [Uw,<- J,We,Xb,Xb];constructor
   .intro h b D;obtain ⟨i,B,rfl⟩:=Vd D;have:=h i (UZ.mpr B);rwa [UO,Ug B] at this
   .intro h i B;have cY:=UZ.mp B;rw [UO,Ug cY];exact h _ (V5 cY)
  rw [e];have I2:Ae X pins σ H { s with heap:=h',toks:=tk }:=I.kept (t':=tk) λb o D=>hk b o (λz=>by
   rw [UB.mp z] at D;exact absurd (Uc D) (Vi _)) (Ul _ D)
  exact ⟨.bl _,H,I2,rfl,q⟩
end
end L2
namespace L2
open PySem PySem.Spec PyProof.Rows PySem.W
section
variable {n:Nat}{key:Nat->List Nat}{cmp:Nat->Nat->(Bool->TF->Prop)->TF->Prop}{s:TF}
noncomputable def Bc (p:Array Nat)(i:Nat):Nat:=p.getD i 0
theorem Dw (p:Array Nat)(i:Nat):Bc p i=(p[i]?).getD 0:=by unfold Bc;rw [Array.getD_eq_getD_getElem?]
structure Pm (n:Nat)(p:Array Nat):Prop where
 pm:p.toList.Perm (UY n)
theorem Pm.size {p:Array Nat}(h:Pm n p):p.size=n:=by have:=h.pm.length_eq;simpa using this
theorem Pm.lt {p:Array Nat}(h:Pm n p){i:Nat}(B:i<n):Bc p i<n:=by
 have hs:i<p.size:=by rw [h.size];exact B
 rw [Dw,W6 hs];exact UZ.mp (h.pm.mem_iff.mp (Array.getElem_mem_toList hs))
theorem Pm.inj {p:Array Nat}(h:Pm n p){i j:Nat}(D:i<n)(H:j<n)(e:Bc p i=Bc p j):i=j:=by
 have hs:i<p.size:=by rw [h.size];exact D
 have B:j<p.size:=by rw [h.size];exact H
 rw [Dw,Dw,W6 hs,W6 B] at e;have I:p.toList.Nodup:=h.pm.nodup_iff.mpr List.nodup_range;have J:p.toList[i]'(by simpa using hs)=p.toList[j]'(by simpa using B):=by simpa using e
 exact (XO I).mp J
structure Ky (n:Nat)(key:Nat->List Nat)(cmp:Nat->Nat->(Bool->TF->Prop)->TF->Prop)(s:TF):Prop where
 df:∀ i j,i<n->j<n->i≠j->key i≠key j
 ok:∀ i j C,i<n->j<n->C (decide (key i<key j)) s->cmp i j C s
def Up (key:Nat->List Nat)(p:Array Nat)(m:Nat):Prop:=∀ i j,i<j->j<m->key (Bc p i)<key (Bc p j)
def Dn (key:Nat->List Nat)(p:Array Nat)(m:Nat):Prop:=∀ i j,i<j->j<m->key (Bc p j)<key (Bc p i)
theorem Ly (k:Ky n key cmp s){p:Array Nat}(h:Pm n p){i j:Nat}(B:i<n)(D:j<n)(d:i≠j)(z:¬ key (Bc p i)<key (Bc p j)):key (Bc p j)<key (Bc p i):=by
 have ne:key (Bc p i)≠key (Bc p j):=k.df _ _ (h.lt B) (h.lt D) λe=>d (h.inj B D e);rcases List.le_total (key (Bc p i)) (key (Bc p j)) with q | q
 .exact absurd (Zp q (List.not_lt.mp z)) ne
 .exact Yj λw=>ne (Zp (List.not_lt.mp w) q)
theorem Up.more {p:Array Nat}{m:Nat}(u:Up key p m)(h:m=0\/key (Bc p (m - 1))<key (Bc p m)):Up key p (m+1):=λi j B D=>by
 by_cases e:j<m
 .exact u i j B e
 .have e:j=m:=by omega
  subst e;rcases h with h | h
  .omega
  .by_cases q:i=j - 1
   .rw [q];exact h
   .exact Yk (u i (j - 1) (by omega) (by omega)) h
theorem Dn.more {p:Array Nat}{m:Nat}(u:Dn key p m)(h:m=0\/key (Bc p m)<key (Bc p (m - 1))):Dn key p (m+1):=λi j B D=>by
 by_cases e:j<m
 .exact u i j B e
 .have e:j=m:=by omega
  subst e;rcases h with h | h
  .omega
  .by_cases q:i=j - 1
   .rw [q];exact h
   .exact Yk h (u i (j - 1) (by omega) (by omega))
theorem Lz (k:Ky n key cmp s){p:Array Nat}(B:Pm n p){Q:Nat->TF->Prop}:∀(f m:Nat),1<=m->m+f=n->Up key p m->(∀ m',m<=m'->m'<=n->Up key p m'->(m'<n->key (Bc p m')<key (Bc p (m' - 1)))->Q m' s)->(kas_asc p f m).kasWp cmp Q s
 | 0,m,H,I,u,q=>q m (T3 _) (by omega) u λz=>by omega
 | f+1,m,H,I,u,q=>by
  refine k.ok _ _ _ (B.lt (i:=m) (by omega)) (B.lt (i:=m - 1) (by omega)) ?_;by_cases c:key (Bc p m)<key (Bc p (m - 1))
  .have D:key (p.getD m 0)<key (p.getD (m - 1) 0):=c;rw [decide_eq_true D];dsimp only;rw [if_pos rfl];exact q m (T3 _) (by omega) u λ_=>c
  .have D:¬ key (p.getD m 0)<key (p.getD (m - 1) 0):=c;rw [decide_eq_false D];dsimp only;rw [if_neg (by decide)];exact Lz k B f (m+1) (by omega) (by omega) (u.more (.inr (Ly k B (by omega) (by omega) (by omega) c))) λm' a b=>q m' (by omega) b
theorem Pl (k:Ky n key cmp s){p:Array Nat}(B:Pm n p){Q:Array Nat×Nat×Nat->TF->Prop}:∀(f m:Nat),1<=m->m+f=n->Dn key p m->(∀ m',m<=m'->m'<=n->Dn key p m'->Q (p,m',0) s)->(kas_desc f p m 0).kasWp cmp Q s
 | 0,m,H,I,u,q=>q m (T3 _) (by omega) u
 | f+1,m,H,I,u,q=>by
  refine k.ok _ _ _ (B.lt (i:=m) (by omega)) (B.lt (i:=m - 1) (by omega)) ?_;by_cases c:key (Bc p m)<key (Bc p (m - 1))
  .have D:key (p.getD m 0)<key (p.getD (m - 1) 0):=c;rw [decide_eq_true D];dsimp only;rw [if_pos rfl,if_neg (by decide)];exact Pl k B f (m+1) (by omega) (by omega) (u.more (.inr c)) λm' a b=>q m' (by omega) b
  .have D:¬ key (p.getD m 0)<key (p.getD (m - 1) 0):=c;rw [decide_eq_false D];dsimp only;rw [if_neg (by decide)];have d:=Ly k B (i:=m) (j:=m - 1) (by omega) (by omega) (by omega) c;have J:key (p.getD (m - 1) 0)<key (p.getD m 0):=d;refine k.ok _ _ _ (B.lt (i:=m - 1) (by omega)) (B.lt (i:=m) (by omega)) ?_;rw [decide_eq_true J];dsimp only;rw [if_pos rfl];exact q m (T3 _) (by omega) u
theorem Pn {p:Array Nat}{m:Nat}(B:m<=p.size)(i:Nat):Bc (kas_rev p 0 m) i=if i<m then Bc p (m - 1 - i) else Bc p i:=by
 rw [Dw,Dw,Dw];unfold kas_rev;rw [getElem?_mirror B _ (by omega)];split
 .rename_i h
  have D:i<m:=by omega
  rw [if_pos D];congr 2
  omega
 .rename_i h
  split
  .congr 2
   omega
  .rfl
theorem Pm.rev {p:Array Nat}(h:Pm n p)(m:Nat):Pm n (kas_rev p 0 m):=⟨(uj.mp (mirror_perm _ _ _ _)).trans h.pm⟩
theorem Dn.rev {p:Array Nat}{m:Nat}(h:Dn key p m)(B:m<=p.size):Up key (kas_rev p 0 m) m:=λi j H D=>by
 rw [Pn B,Pn B,if_pos (by omega),if_pos D];exact h _ _ (by omega) (by omega)
theorem Adc (k:Ky n key cmp s){p:Array Nat}(B:Pm n p)(V:1<=n){Q:Nat×Array Nat->TF->Prop}(q:∀ m D,1<=m->m<=n->Pm n D->Up key D m->Q (m,D) s):(kas_count n p).kasWp cmp Q s:=by
 unfold kas_count;rw [XF];refine Lz k B (n - 1) 1 (T3 _) (by omega) (λi j a b=>by omega) λm H I u d=>?_;by_cases e:m=n
 .rw [if_pos (beq_iff_eq.mpr e)];exact q m p H I B u
 .rw [if_neg (λz=>e (beq_iff_eq.mp z))];by_cases g:m > 1
  .rw [if_pos g];have c:key (p.getD 0 0)<key (p.getD (m - 1) 0):=u 0 (m - 1) (by omega) (by omega);refine k.ok _ _ _ (B.lt (i:=0) (by omega)) (B.lt (i:=m - 1) (by omega)) ?_;rw [decide_eq_true c];dsimp only;rw [if_pos rfl];exact q m p H I B u
  .rw [if_neg g];have J:m=1:=by omega
   subst J;unfold kas_descPart;rw [XF];refine Pl k B (n - 2) 2 (by decide) (by omega) (Dn.more (m:=1) (λi j a b=>by omega) (.inr (d (by omega)))) λm' a b dn=>?_;rw [if_neg (by simp)];unfold kas_tail3;rw [XF];have Y:=B.size;exact Lz k (B.rev m') (n - m') m' (by omega) (by omega) (dn.rev (by omega)) λm2 c1 L O _=>q m2 _ (by omega) L (B.rev m') O
theorem LA (k:Ky n key cmp s){p:Array Nat}(B:Pm n p){c:Nat}(hc:c<n)(u:Up key p c){Q:Nat->TF->Prop}(q:∀ l,l<=c->(∀ i,i<l->key (Bc p i)<key (Bc p c))->(∀ i,l<=i->i<c->key (Bc p c)<key (Bc p i))->Q l s) :
  ∀(f l r:Nat),l<=r->r<=c->r - l<=f->(∀ i,i<l->key (Bc p i)<key (Bc p c))->(∀ i,r<=i->i<c->key (Bc p c)<key (Bc p i))->(kas_place p c f l r).kasWp cmp Q s
 | 0,l,r,I,D,J,a,b=>by
  have e:l=r:=by omega
  subst e;exact q l D a b
 | f+1,l,r,I,D,J,a,b=>by
  unfold kas_place;by_cases g:l ≥ r
  .rw [if_pos g];have e:l=r:=by omega
   subst e;exact q l D a b
  .rw [if_neg g];refine k.ok _ _ _ (B.lt (i:=c) hc) (B.lt (i:=(l+r) / 2) (by omega)) ?_;by_cases z:key (Bc p c)<key (Bc p ((l+r) / 2))
   .have H:key (p.getD c 0)<key (p.getD ((l+r) / 2) 0):=z;rw [decide_eq_true H];dsimp only;rw [if_pos rfl];refine LA k B hc u q f l ((l+r) / 2) (by omega) (by omega) (by omega) a λi L O=>?_;by_cases e:i=(l+r) / 2
    .rw [e];exact z
    .exact Yk z (u _ _ (by omega) O)
   .have H:¬ key (p.getD c 0)<key (p.getD ((l+r) / 2) 0):=z;rw [decide_eq_false H];dsimp only;rw [if_neg (by decide)];have y:=Ly k B (i:=c) (j:=(l+r) / 2) hc (by omega) (by omega) z;refine LA k B hc u q f ((l+r) / 2+1) r (by omega) (by omega) (by omega) (λi L=>?_) b;by_cases e:i=(l+r) / 2
    .rw [e];exact y
    .exact Yk (u _ _ (by omega) (by omega)) y
theorem Po {p:Array Nat}{c l:Nat}(hc:c<p.size)(B:l<=c)(i:Nat):Bc (bubble p c (c - l)) i=if i=l then Bc p c else if l<i/\i<=c then Bc p (i - 1) else Bc p i:=by
 rw [Dw,getElem?_bubble hc (c - l) (by omega)];have e:c - (c - l)=l:=by omega
 rw [e,Dw,Dw,Dw];split
 .rfl
 .split<;>rfl
theorem Pp (k:Ky n key cmp s){Q:Array Nat->TF->Prop}(q:∀ p,Pm n p->Up key p n->Q p s):∀(f:Nat)(p:Array Nat)(c:Nat),Pm n p->c+f=n->Up key p c->(kas_bin f p c).kasWp cmp Q s
 | 0,p,c,B,e,u=>by
  have e:c=n:=by omega
  subst e;exact q p B u
 | f+1,p,c,B,e,u=>by
  unfold kas_bin;rw [XF];have V:=B.size;refine LA k B (by omega) u (λl D a b=>?_) c 0 c (UH _) (T3 _) (T3 _) (λi z=>by omega) (λi Y z2=>by omega);refine Pp k q f _ (c+1) ⟨(uj.mp (bubble_perm _ _ _)).trans B.pm⟩ (by omega) λi j J hj=>?_;rw [Po (by omega) D,Po (by omega) D];by_cases H:i=l
  .rw [if_pos H,if_neg (by omega),if_pos (by omega)];exact b _ (by omega) (by omega)
  .rw [if_neg H];by_cases L:l<i
   .rw [if_pos ⟨L,by omega⟩,if_neg (by omega),if_pos (by omega)];exact u _ _ (by omega) (by omega)
   .rw [if_neg (by omega)];by_cases I:j=l
    .rw [if_pos I];exact a i (by omega)
    .rw [if_neg I];by_cases O:l<j
     .rw [if_pos ⟨O,by omega⟩];by_cases e5:i=j - 1
      .omega
      .exact u _ _ (by omega) (by omega)
     .rw [if_neg (by omega)];exact u _ _ J (by omega)
theorem Ade (k:Ky n key cmp s)(D:1<=n){Q:Array Nat->TF->Prop}(q:∀ p,Pm n p->Up key p n->Q p s):(kas_sort n).kasWp cmp Q s:=by
 unfold kas_sort;rw [XF];refine Adc k ⟨by simp⟩ D λm p H I B u=>?_;by_cases e:m<n
 .rw [if_pos e];have em:max m 1=m:=by omega
  rw [em];exact Pp k q (n - m) p m B (by omega) u
 .rw [if_neg e];have e:m=n:=by omega
  subst e;exact q p B u
end
end L2
namespace L2
open PySem PySem.Spec PyProof.Rows PySem.W
section
variable {prog:TV}{w:TM}{A:Ub}{E:Value->TF->Prop}{s:TF}
def LB (prog:TV)(w:TM)(A:Ub)(key:Nat->List Nat)(vs:List Value)(s:TF):Prop :=
 TL (TQ prog w) A (keyKind' vs.toArray) (λκ s2=>s2=s/\Ky vs.length key (kas_ask prog w A κ vs) s) (λ_ _=>False) s
noncomputable def DX (p:Array Nat)(vs:List Value):Array Value:=(p.toList.map λi=>vs.getD i Vc).toArray
theorem Pq (vs:List Value):DX (UY vs.length).toArray vs=vs.toArray:=by
 unfold DX;congr 1
 refine uk (by simp) λi D B=>?_;simp [UO,Ug B]
theorem Adf {a:Addr}{vs:List Value}{n:Nat}{key:Nat->List Nat}{P:Fin->TF->Prop}(J:s.heap.get? a=some (US "list" vs.toArray n))(aJ:vs.length<64)(hk:2<=vs.length->∀ h',(∀ b o,b≠a->s.heap.get? b=some o->h'.get? b=some o)->LB prog w A key vs { s with heap:=h' })(q:∀ p,Pm vs.length p->Up key p vs.length->P (.done (.ret .none)) { s with heap:=sortedHeap s.heap a vs (DX p vs) }):TL (TQ prog w) A (Builtin.«list.sort» ⟨[.ref a],[]⟩) P E s:=by
 rw [list_sort_plain];have lt:a<s.heap.objs.size:=Uc J;refine TR (listItems_at J rfl (TR (Zq J rfl ?_)));obtain ⟨c,hc⟩:∃ c,(s.heap.update a (Va λ_=>#[])).get? a=some (US "list" #[] c):=⟨_,get?_update_seq J (λ_=>#[])⟩;refine TR (Zs hc rfl (TR (um (TR (wpAny_newList (VF ?_))))));have n1:a≠(s.heap.update a (Va λ_=>#[])).objs.size:=by rw [Zt];exact Uq lt
 have n2:a≠((s.heap.update a (Va λ_=>#[])).push (US "tuple" vs.toArray 0)).objs.size:=by rw [size_push',Zt];exact Uq (Yl lt)
 have hd:(((s.heap.update a (Va λ_=>#[])).push (US "tuple" vs.toArray 0)).push (US "list" #[] 0)).get? a=some (US "list" #[] c):=by rw [uo _ _ _ n2,uo _ _ _ n1];exact hc
 have V:∀ b o,b≠a->s.heap.get? b=some o->(((s.heap.update a (Va λ_=>#[])).push (US "tuple" vs.toArray 0)).push (US "list" #[] 0)).get? b=some o:=λb o hb e =>
  Ul _ (Ul _ (by rw [uq _ _ _ _ hb];exact e))
 show TL (TQ prog w) A _ P E { s with heap:=((s.heap.update a (Va λ_=>#[])).push (US "tuple" vs.toArray 0)).push (US "list" #[] 0) };have Y:∀ p,Pm vs.length p->Up key p vs.length->P (.done (.ret .none)) { s with heap:=(((s.heap.update a (Va λ_=>#[])).push (US "tuple" vs.toArray 0)).push (US "list" #[] 0)).update a (Va λ_=>DX p vs) }:=q;have oX:=λh2=>hk h2 _ V;generalize ((s.heap.update a (Va λ_=>#[])).push (US "tuple" vs.toArray 0)).push (US "list" #[] 0)=G at hd Y oX ⊢;dsimp only;have sz:vs.toArray.size=vs.length:=Uw;by_cases two:vs.toArray.size<2
 .rw [if_pos two,if_pos two];refine TR (T6 ?_);rw [StateT.run_pure];refine TR (T6 ?_);dsimp only;have e0:(arrOf (SortSt.mk' general' (vs.toArray.zip vs.toArray) #[] 7 none)).map (·.2)=DX (UY vs.length).toArray vs:=by
   rw [Pq];show (vs.toArray.zip vs.toArray).map (·.2)=_;rw [Array.map_snd_zip]<;>simp
  refine TR (Zs hd rfl (TR (Zq hd rfl ?_ (hsz2:=by rw [e0,Pq,sz,TY];omega))));simp only [bne_self_eq_false,W7,if_false];rw [e0];exact T6 (Y _ ⟨by simp⟩ λi j h1 h2=>by omega)
 .rw [if_neg two,if_neg two];refine TR (Vx (oX (by omega)) (λκ s2 ⟨e,ky⟩=>?_) λ_ _ f=>f.elim);subst e;refine TR (Vx (kat_run (ks:=vs) (vs:=vs) (Q:=λL H=>H={ s with heap:=G }/\failedOf L=none/\∃ p,Pm vs.length p/\Up key p vs.length/\(arrOf L).map (·.2)=DX p vs) (G:=λp H=>H={ s with heap:=G }/\Pm vs.length p/\Up key p vs.length) rfl (by omega) aJ
   (λp L H _ I O ⟨e,D,u⟩=>⟨e,O,p,D,u,kat_snds rfl I⟩) (Ade ky (by omega) λp D u=>⟨rfl,D,u⟩)) (λr H ⟨e,O,p,D,u,I⟩=>?_) λ_ _ f=>f)
  subst e;obtain ⟨⟨⟩,L⟩:=r;dsimp only at O I ⊢;have B:(DX p vs).size<=sizeLine:=by unfold DX;rw [Uw,TU,Ve,D.size,TY];omega
  refine TR (Zs hd rfl (TR (Zq hd rfl ?_ (hsz2:=by rw [I];exact Nat.le_succ_of_le B))));rw [O,I];simp only [bne_self_eq_false,W7,if_false];exact T6 (Y p D u)
theorem Adg {l:Addr}{vs:List Value}{key:Nat->List Nat}{Q:Value->TF->Prop}(I:s.heap.IsList l vs.toArray)(J:vs.length<64)(hk:2<=vs.length->∀ h',(∀ b o,s.heap.get? b=some o->h'.get? b=some o)->LB prog w A.in1.in1 key vs { s with heap:=h' })(q:∀ p,Pm vs.length p->Up key p vs.length->Q (.ref (s.heap.objs.size+1)) { s with heap:=sortedAll s.heap vs (DX p vs) }):TL (TQ prog w) A (call (.builtin "sorted") [.ref l]) Q E s:=by
 refine Calls.call_function_entry kind_sorted plain_sorted entry_sorted (args_sorted1 _) ?_;unfold Builtin.«sorted»;refine TR (m:=checkCount "sorted" 1 1 _) (T6 (TR (collect_list I (TR (wpAny_newList ?_ (by rw [TY];omega))) (by rw [TY];omega))));have D:((s.heap.push (US "list" #[] 0)).update s.heap.objs.size (Va (·++vs.toArray))).objs.size=s.heap.objs.size+1:=by rw [Zt,size_push']
 have H:(((s.heap.push (US "list" #[] 0)).update s.heap.objs.size (Va (·++vs.toArray))).push (US "list" vs.toArray 0)).get? (s.heap.objs.size+1)=some (US "list" vs.toArray 0):=D▸U2 _ rfl;have keep:∀ b o,s.heap.get? b=some o->(((s.heap.push (US "list" #[] 0)).update s.heap.objs.size (Va (·++vs.toArray))).push (US "list" vs.toArray 0)).get? b=some o:=λb o e =>
  Ul _ (by rw [uq _ _ _ _ (Uq (Uc e))];exact Ul _ e)
 show TL _ _ _ _ _ { s with heap:=((s.heap.push (US "list" #[] 0)).update s.heap.objs.size (Va (·++vs.toArray))).push (US "list" vs.toArray 0) };rw [D];refine TR (VF (Xc slot_list_sort ⟨_,H,rfl⟩ entry_list_sort (Adf (key:=key) H J (λL h' B=>hk L h' λb o e=>B b o (Uq (Yl (Uc e))) (keep b o e)) λp O u=>⟨_,rfl,?_⟩) (args_list_sort _)));exact T6 ⟨_,rfl,q p O u⟩
end
end L2
namespace L2
open PySem PySem.Spec PyProof.Rows PySem.W
abbrev Pr:=Addr×Str×Int
noncomputable def B9 (t:Pr):V:=.ref t.1
def DY (H:Hp)(ts:List Pr):Prop:=∀ t∈ts,H t.1=some (.tup [.str t.2.1,.int t.2.2])
theorem DY.same {H B:Hp}{ts:List Pr}(h:DY H ts)(s:Ag H B):DY B ts:=λt m=>s _ _ (h t m)
section
variable {X:Cx}{pins:List (Addr×Obj)}{σ:St}{H:Hp}{s:TF}
theorem Adh (I:Ae X pins σ H s){t:Pr}(h:H t.1=some (.tup [.str t.2.1,.int t.2.2])):∃ o tk B n,s.heap.get? t.1=some o/\o.cls=.type "tuple"/\o.data=.seq #[UQ t.2.1 tk,U3 t.2.2 B] n:=by obtain ⟨_,its,r,o,e,c,n,d⟩:=(show Bg X.prog X.w H s.heap t.1 _ from I.af _ _ h);obtain ⟨_,_,rfl,⟨tk,rfl⟩,B,rfl⟩:=Bk r.two;exact ⟨o,tk,B,n,e,c,d⟩
noncomputable def Hq (ts:List Pr)(i:Nat):List Nat:=(ts.getD i (0,UI,0)).2.1.cps.toList
theorem Adi {x y:Str}(h:x.cps.toList=y.cps.toList):x=y:=by cases x with | mk a=>cases y with | mk b=>cases a;cases b;simp_all
theorem LC {ts:List Pr}{vs:List Value}(r:As (ts.map B9) vs){i:Nat}(B:i<ts.length):vs.getD i Vc=.ref ts[i].1:=by obtain ⟨u,e,q⟩:=r.get (i:=i) (x:=.ref ts[i].1) (by rw [T7,Ug B];rfl);rw [UO,e];exact q
theorem Jp {ts:List Pr}{i:Nat}(B:i<ts.length):Hq ts i=ts[i].2.1.cps.toList:=by unfold Hq;rw [UO,Ug B];rfl
theorem Pt {h:Heap}:∀{ts:List Pr}{vs:List Value},As (ts.map B9) vs->(∀ t∈ts,∃ o tk B n,h.get? t.1=some o/\o.cls=.type "tuple"/\o.data=.seq #[UQ t.2.1 tk,U3 t.2.2 B] n) ->
  ∃ fs:List Value,KatTups h vs fs/\fs.length=ts.length/\∀ f∈fs,∃ z t,f=UQ z t
 | [],_,.nil,_=>⟨[],trivial,rfl,λ_ m=>nomatch m⟩
 | t :: ts,v :: vs,.cons r q,k=>by
  obtain ⟨fs,a,b,c⟩:=Pt q λD m=>k D (Uu _ m);obtain ⟨o,tk,B,n,I,J,L⟩:=Dp (k t UC);have r:v=.ref t.1:=r;subst r;refine ⟨UQ t.2.1 tk :: fs,KatTups.cons I J L rfl a,by rw [Vf,Vf,b],λf O=>?_⟩;rcases T8.mp O with z | z
  .exact ⟨_,_,z⟩
  .exact c f z
theorem Adj {A:Ub}{ts:List Pr}{vs:List Value}{h':Heap}(r:As (ts.map B9) vs)(B:∀ t∈ts,∃ o tk V n,h'.get? t.1=some o/\o.cls=.type "tuple"/\o.data=.seq #[UQ t.2.1 tk,U3 t.2.2 V] n)(O:(ts.map (·.2.1)).Nodup)(two:2<=vs.length):LB X.prog X.w A (Hq ts) vs { s with heap:=h' }:=by
 have Y:=r.length;rw [TU] at Y;obtain ⟨fs,k1,k2,k3⟩:=AF (Pt r B);refine kat_kind (s:={ s with heap:=h' }) (T:=.type "str") k1 (by omega) (λv m=>?_) (by decide) ⟨rfl,⟨λi j hi hj ne e=>?_,λi j C hi hj hc=>?_⟩⟩
 .obtain ⟨z,t,rfl⟩:=k3 v m;exact Looks.of_pure rfl
 .rw [Jp (by omega),Jp (by omega)] at e;have e':=Adi e;have D:i<(ts.map (·.2.1)).length:=by rw [TU];omega
  have I:j<(ts.map (·.2.1)).length:=by rw [TU];omega
  exact ne ((XO (h₀:=D) (h₁:=I) O).mp (by simpa using e'))
 .have J:i<ts.length:=by omega
  have L:j<ts.length:=by omega
  show TL _ A (keyLt' (tuples' true) (vs.getD i Vc) (vs.getD j Vc)) C _ _;rw [LC r J,LC r L];obtain ⟨o1,a1,b1,n1,x1,x2,x3⟩:=B ts[i] (V5 J);obtain ⟨o2,a2,b2,n2,y1,y2,y3⟩:=B ts[j] (V5 L);refine kat_lt (s:={ s with heap:=h' }) x1 x3 y1 y3 (kat_cons (eqBool_str ?_));rw [Jp J,Jp L] at hc;by_cases e:ts[i].2.1=ts[j].2.1
  .have D:i<(ts.map (·.2.1)).length:=by rw [TU];omega
   have I:j<(ts.map (·.2.1)).length:=by rw [TU];omega
   have ij:i=j:=(XO (h₀:=D) (h₁:=I) O).mp (by simpa using e);subst ij;rw [beq_self_eq_true];refine kat_yes (kat_cons (ZV ?_));rw [beq_self_eq_true];refine kat_yes (kat_nil ?_);rw [decide_eq_false (List.lt_irrefl _)] at hc;simpa using hc
  .rw [beq_eq_false_iff_ne.mpr e];exact kat_no (oneLt_str hc)
theorem Adk:BB X (.builtin "sorted") (λxs H Q=>∃(p:Addr)(ts:List Pr),xs=[.ref p]/\A7 X.K H p (ts.map B9)/\DY H ts/\(ts.map (·.2.1)).Nodup/\ts.length<64 /\
  ∀(l:Addr)(J:List Pr),H l=none->J.Perm ts->J.Pairwise (λa b=>CV a.2.1 b.2.1)->Q (.ref l) (upd H l (.lst (J.map B9)))):=by
 intro pins s σ H xs us Q I r h;replace h:=GI h;obtain ⟨p,ts,rfl,hq,L,nd,O,q⟩:=h
 obtain ⟨u,rfl,rx⟩:=Ao (CK r);cases rx;obtain ⟨its,V,pl,hz⟩:=AF (I.list hq);have el:=V.length;rw [TU] at el;have objs:=λt (m:t∈ts)=>Adh I (L t m);refine Adg (key:=Hq ts) pl.isList (by omega) (λtwo h' keep=>Adj V (λt m=>?_) nd two) λB hp up=>?_
 .obtain ⟨o,a,b,n,e1,e2,e3⟩:=Dp (objs t m);exact ⟨o,a,b,n,keep _ _ e1,e2,e3⟩
 .obtain ⟨c,ho⟩:=sortedAll_at s.heap its (DX B its);have fr:H (s.heap.objs.size+1)=none:=I.af.fresh (U9 _);have D:=hp.pm;rw [<- el] at D up;have Y:∀ i∈B.toList,i<ts.length:=λi m=>UZ.mp (D.mem_iff.mp m);have vv:∀ l:List Nat,(∀ i∈l,i<ts.length)->As ((l.map λi=>ts.getD i (0,UI,0)).map B9) (l.map λi=>its.getD i Vc):=λl O=>by
   induction l with
   | nil=>exact .nil
   | cons i l ih =>
    have hi:=O i UC;refine .cons ?_ (ih λj m=>O j (Uu _ m));dsimp only;rw [LC V hi,UO,Ug hi];rfl
  have perm:(B.toList.map λi=>ts.getD i (0,UI,0)).Perm ts:=by have:=D.map λi=>ts.getD i (0,UI,0);refine this.trans (List.Perm.of_eq ?_);refine uk (by simp) λi h1 h2=>?_;simp [UO,Ug h2]
  have sz:B.size=ts.length:=by have:=D.length_eq;simpa using this
  refine ⟨.ref (s.heap.objs.size+1),_,I.laid (t':=s.toks) (λb o q=>sortedAll_old q) (U9 _) (show Bg X.prog X.w _ _ _ (.lst ((B.toList.map λi=>ts.getD i (0,UI,0)).map B9)) from ⟨?_,(B.toList.map λi=>its.getD i Vc),c,vv _ Y,ho⟩),rfl,q _ _ fr perm ?_⟩
  .rw [TU,TU,Ve,sz,TY];omega
  .rw [XG,List.pairwise_iff_getElem];intro i j h1 h2 hij;have k1:i<B.size:=by simpa using h1
   have k2:j<B.size:=by simpa using h2
   have:=up i j hij (by omega);rw [Dw,Dw,W6 k1,W6 k2] at this;simp only [Option.getD_some,Hq] at this;have t':(ts.getD B.toList[i] (0,UI,0)).2.1.cps.toList<(ts.getD B.toList[j] (0,UI,0)).2.1.cps.toList:=by simpa using this
   exact List.le_of_lt t'
end
end L2
namespace L2
open PySem PySem.Spec PyProof.Rows
noncomputable def Cz (w:TM):Bool:=w.params.followText "set-order"
def Jq (w:TM)(e:Int×Value):Prop:=∃ z tk,e=(Vw w z,UQ z tk)
noncomputable def DF (e:Int×Value):Str:=match e.2 with
 | .str z _=>z
 | _=>UI
def C7 (w:TM)(h:Heap)(a:Addr)(zs:List Str):Prop:=∃ o es ep t,h.get? a=some o/\o.ExactSet/\o.data=.set es ep t/\zs=es.toList.map DF/\(∀ e∈es.toList,Jq w e)/\zs.Nodup/\zs.length<3000/\t.fits es.size=true/\t.led=!Cz w/\(zs≠[]->t.plain=false)
theorem C7.at {w:TM}{h h':Heap}{a:Addr}{zs:List Str}(x:C7 w h a zs)(k:∀ o,h.get? a=some o->h'.get? a=some o):C7 w h' a zs:=by obtain ⟨o,es,B,t,e,r⟩:=Dp x;exact ⟨o,es,B,t,k _ e,r⟩
theorem Adl {prog:TV}{w:TM}{l:List (Int×Value)}(h:∀ e∈l,Jq w e):ElemsOf (Br prog w) l:=λe m=>by
 obtain ⟨z,B,rfl⟩:=h e m;exact ⟨⟨UL z,F1 prog w z B,rfl⟩,rfl⟩
theorem Pu {w:TM}{e:Int×Value}{z:Str}(h:Jq w e):DO (UL z) e.2=true↔DF e=z:=by
 obtain ⟨y,B,rfl⟩:=h;show XM z (.str y B)=true↔y=z;constructor
 .intro q;obtain ⟨t,e⟩:=ZU q;injection e
 .rintro rfl;exact NQ y B
theorem Adm (t:VR)(n:Nat):(t.orStandIn n).led=t.led:=by unfold ur uu;split<;>rfl
theorem Adn {t:VR}{n:Nat}(h:t.plain=false):(t.orStandIn n).plain=false:=by unfold ur uu;split<;>first | exact h | rfl
theorem Ado (t:VR)(es:Array (Int×Value))(h:Int)(x:Value):(Xd t es h x).2.1.led=t.led:=by
 unfold Xd;split
 .exact Adm _ _
 .rfl
theorem Adp {t:VR}{es:Array (Int×Value)}{h:Int}{x:Value}(B:t.plain=false):(Xd t es h x).2.1.plain=false:=by
 unfold Xd;split
 .exact Adn B
 .rfl
theorem Pw {t t':VR}{hs:Array Int}{n:Nat}{o:Array Nat}(e:t.relaid hs n=some (t',o)):t'.led=t.led/\t'.plain=t.plain:=by
 unfold SetTable.relaid SetTable.laid at e;cases q:SetTable.layClean (SetTable.sizeAbove n - 1) hs with
 | none=>rw [q] at e;cases e
 | some x=>rw [q] at e;cases e;exact ⟨rfl,rfl⟩
theorem Adq (t:VR)(es:Array (Int×Value))(n:Nat):(Ws t es n).2.1.led=t.led:=by
 unfold Ws;split
 .rename_i t' o e
  dsimp only;split
  .exact (Pw e).1
  .rfl
 .rfl
theorem Ads {t:VR}{es:Array (Int×Value)}{n:Nat}(B:t.plain=false):(Ws t es n).2.1.plain=false:=by
 unfold Ws;split
 .rename_i t' o e
  dsimp only;split
  .exact (Pw e).2.trans B
  .rfl
 .rfl
section
variable {prog:TV}{w:TM}{A:Ub}{E:Value->TF->Prop}{s:TF}
theorem Px {a:Addr}{o:Obj}{es es':Array (Int×Value)}{ep:Nat}{t t':VR}{h:Heap}(B:h.get? a=some o)(hd:o.data=.set es ep t):(h.update a (Ym es' t')).get? a=some { o with data:=.set es' (ep+1) t' }:=by have e:=Y3 (Ym es' t') B (by rw [putSet_of es' t' hd];rfl);rwa [putSet_of es' t' hd] at e
theorem add_str {a:Addr}{zs:List Str}{z:Str}{tk:Tok}{Q:Bool->TF->Prop}(hS:C7 w s.heap a zs)(room:zs.length+1<3000)(q:∀ h' aq b,UN a s.heap h'->C7 w h' a aq->(if z∈zs then aq=zs else aq.Perm (zs++[z]))->Q b { s with heap:=h' }):TL (TQ prog w) A (setAddHashed a (.str z tk) (Vw w z)) Q E s:=by
 obtain ⟨o,es,ep,t,ho,hex,hd,rfl,jx,nd,aJ,hf,led,pl⟩:=Ir (id hS);rw [TU,Ve] at aJ room;have sb:scanBound=4096:=rfl;have oZ:=Adl (prog:=prog) jx;unfold setAddHashed Zu;refine VF (TR (wpAny_setState_of ho hd hf ?_));dsimp only;rw [byScan_of (knd:=Br prog w) (x:=UQ z tk) rfl (by omega) oZ];simp only [↓reduceIte];unfold setAddByScan;refine TR (TR (Xe (TR (wpAny_setScan_of (knd:=Br prog w) (k:=UL z) (F1 prog w z tk) ho hd hf oZ ?_))));cases o4:List.findIdx? (λe=>(Br prog w).is (UL z) e.2) es.toList with
 | some j =>
  obtain ⟨hj,O,_⟩:=List.findIdx?_eq_some_iff_getElem.mp o4;have mem:z∈es.toList.map DF:=Ua.mpr ⟨_,V5 hj,(Pu (jx _ (V5 hj))).mp O⟩;dsimp only;exact T6 (T6 (q s.heap _ _ (Heap.SameBut.refl a s.heap) hS (by rw [if_pos mem])))
 | none =>
  have o6:z ∉ es.toList.map DF:=λm=>by
   obtain ⟨e,me,rfl⟩:=Ao (Ua.mp m);have:=List.findIdx?_eq_none_iff.mp o4 e me;rw [show (Br prog w).is (UL (DF e)) e.2=true from (Pu (jx e me)).mpr rfl] at this;cases this
  have V:=layNew_perm t es (Vw w z) (.str z tk);have jy:=layNew_fits t es (Vw w z) (.str z tk);have l1:=Ado t es (Vw w z) (.str z tk);have p1:t.plain=false->(Xd t es (Vw w z) (.str z tk)).2.1.plain=false:=Adp;dsimp only;have ek:NP w (UL z)=Vw w z:=rfl;have ek2:(Br prog w).hash (UL z)=Vw w z:=rfl;try rw [ek2]
  generalize Xd t es (Vw w z) (.str z tk)=L at V jy l1 p1 ⊢;obtain ⟨B,t1,wd,aaB⟩:=L;dsimp only at V jy l1 p1 ⊢;rw [Array.toList_push] at V;have aaC:∀ e∈B.toList,Jq w e:=λe m=>by
   rcases U1.mp (V.mem_iff.mp m) with y | y
   .exact jx e y
   .rw [UB.mp y];exact ⟨z,tk,rfl⟩
  have pz:(B.toList.map DF).Perm (es.toList.map DF++[z]):=by have:=V.map DF;rwa [Um] at this
  have sz1:B.size=es.size+1:=by rw [<- Ve,V.length_eq,UK,Ve];rfl
  have iq:(B.toList.map DF).Nodup:=pz.nodup_iff.mpr (Wt.mpr ⟨nd,Uv.mpr ⟨by simp,Wu⟩,λx hx y hy e=>by rw [UB.mp hy] at e;exact o6 (e▸hx)⟩);have Y:∀(h':Heap)(o':Obj)(I:Array (Int×Value))(ir:Nat)(D:VR),UN a s.heap h'->h'.get? a=some o'->o'.ExactSet->o'.data=.set I ir D->I.toList.Perm B.toList->D.fits I.size=true->D.led=t.led->D.plain=false->∀ b,Q b { s with heap:=h' }:=λh' o' I ir D sm e1 e2 e3 J f2 l2 p2 b=>by
   have o7:=J.map DF;refine q h' (I.toList.map DF) b sm ⟨o',I,ir,D,e1,e2,e3,rfl,λe m=>aaC e (J.mem_iff.mp m),o7.nodup_iff.mpr iq,?_,f2,l2.trans led,λ_=>p2⟩ (by rw [if_neg o6];exact o7.trans pz);rw [TU,J.length_eq,Ve,sz1];omega
  have quiet:∀(b:Bool){s₁:TF}{Q':Unit->TF->Prop},Q' () s₁->TL (TQ prog w) A (match b with | true=>rule "set.scan.the-table-gave-way" | false=>pure ()) Q' E s₁:=λb s₁ Q' h=>by
   cases b
   .exact T6 h
   .exact Xe h
  refine TR (quiet aaB ?_);have key:∀ D:VR,D.fits B.size=true->D.led=t.led->D.plain=false->∀(K:Option Bool->Sem Bool),(∀ h' b,(∀ b,Q b { s with heap:=h' })->TL (TQ prog w) A (K (some b)) Q E { s with heap:=h' }) ->
    TL (TQ prog w) A (do
     storeSet a B D
     if (!wd && D.tooFull)=true then do
       (match (Ws D B (Wv B.size)).2.2 with | true=>rule "set.scan.the-table-gave-way" | false=>pure ())
       storeSet a (Ws D B (Wv B.size)).1 (Ws D B (Wv B.size)).2.1
       pure (some true)
      else pure (some true)) (λr s'=>TL (TQ prog w) A (K r) Q E s') E s:=by
   intro D f2 l2 p2 K hK;refine TR (uv ho hd ?_ (by rw [TY];omega));have g1:=Px (es':=B) (t':=D) ho hd;have s1:=Yn s.heap a (Ym B D);split
   .have J:=relayAll_perm D B (Wv B.size);have f3:=relayAll_fits D B (Wv B.size);have l3:=Adq D B (Wv B.size);have p3:=Ads (es:=B) (n:=Wv B.size) p2;generalize Ws D B (Wv B.size)=R at J f3 l3 p3 ⊢;obtain ⟨I,t3,g2⟩:=R;dsimp only at J f3 l3 p3 ⊢;have sz2:I.size=B.size:=by rw [<- Ve,J.length_eq,Ve]
    refine TR (quiet g2 (TR (uv (s:={ s with heap:=s.heap.update a (Ym B D) }) g1 rfl ?_ (by rw [TY];omega))));have g3:=Px (es':=I) (t':=t3) g1 rfl;exact T6 (hK _ true (Y _ _ I _ t3 (s1.trans (Yn _ a _)) g3 hex rfl J f3 (l3.trans l2) p3))
   .exact T6 (hK _ true (Y _ _ B _ D s1 g1 hex rfl (List.Perm.refl _) f2 l2 p2))
  by_cases O:t1.plain=true
  .rw [if_pos O];refine TR ?_;rw [hashByValue_scannable 8 (x:=UQ z tk) rfl];refine T6 ?_;exact key { t1 with plain:=false } (SetTable.fits_plain_off jy) l1 rfl (λr=>match r with | some H=>pure H | none=>Zu a (.str z tk) (Vw w z) 99999) λh' b hq=>T6 (hq b)
  .have O:t1.plain=false:=by simpa using O
   rw [if_neg (by rw [O];decide)];refine TR (T6 ?_);exact key t1 jy l1 O (λr=>match r with | some H=>pure H | none=>Zu a (.str z tk) (Vw w z) 99999) λh' b hq=>T6 (hq b)
end
section
variable {prog:TV}{w:TM}{A:Ub}{I:Addr}{fp wr:List Addr}{G:Array Xl->Array Xl->Prop}{n:Nat}{P:Nat->Value->Prop}{St:Nat->TF->Prop}
theorem Adt {R:WK->TF->Prop}(W:WalksS prog w A.in1 I fp wr G n P St)(S:Addr)(hS:S ∉ fp)(val:Nat->Str)(hv:∀ i v,P i v->∃ t,v=UQ (val i) t)(aJ:n+1<3000) :
  ∀(k i:Nat)(s:TF)(zs:List Str),n - i=k->i<=n->St i s->C7 w s.heap S zs->(∀ z,z∈zs↔∃ j,j<i/\val j=z)->zs.length<=i ->
   (∀ B H,Moved (S :: wr) G s B->C7 w B.heap S H->(∀ z,z∈H↔∃ j,j<n/\val j=z)->R (.ok (.ret .none)) B)->U8 (TQ prog w) A (.builtin "set.update.loop" ⟨[.ref S,.ref I],[]⟩) R s:=by
 have Y:S ∉ wr:=λh=>hS (W.sub _ h);have sub:∀ b∈wr,b∈S :: wr:=λb h=>Uu _ h;intro k;induction k with
 | zero =>
  intro i s zs hk hi st x mem _ q;have e:i=n:=by omega
  subst e;refine XA uw ?_;rw [Zv Zw _];show TL _ A.in1 (Vy (.ref I) >>= _) _ _ s;refine TR (W.done s _ _ st λB m=>?_);exact T6 (q B zs (m.mono sub) (x.at λo e=>m.heap S o Y e) mem)
 | succ k ih =>
  intro i s zs hk hi st x mem len q;refine XA uw ?_;rw [Zv Zw _];show TL _ A.in1 (Vy (.ref I) >>= _) _ _ s;refine TR (W.item i s _ _ (by omega) st λv B hP bg m=>?_);obtain ⟨t,rfl⟩:=hv i v hP;have x':=x.at λo e=>m.heap S o Y e;show TL _ A.in1 (Vj [UQ (val i) t] (setAdd S (.str (val i) t)) >>= _) _ _ B;refine TR (VF ?_);unfold setAdd;refine VF (TR ((Br prog w).pyHash (k:=UL (val i)) (F1 _ _ _ _) ?_));refine add_str (s:={ B with toks:=B.toks+1 }) x' (by omega) λh' H b sb x2 D=>?_;have L:∀ z,z∈H↔∃ j,j<i+1/\val j=z:=λz=>by
   have e:z∈H↔z∈zs\/z=val i:=by
    by_cases y:val i∈zs
    .rw [if_pos y] at D;rw [D];exact ⟨.inl,λh=>h.elim id λe=>e▸y⟩
    .rw [if_neg y] at D;rw [D.mem_iff,U1,UB]
   rw [e,mem];constructor
   .rintro (⟨j,h1,J⟩ | h)
    .exact ⟨j,by omega,J⟩
    .exact ⟨i,by omega,h.symm⟩
   .rintro ⟨j,h1,J⟩;by_cases h:j<i
    .exact .inl ⟨j,h,J⟩
    .have:j=i:=by omega
     subst this;exact .inr J.symm
  have iu:H.length<=i+1:=by
   by_cases y:val i∈zs
   .rw [if_pos y] at D;rw [D];omega
   .rw [if_neg y] at D;rw [D.length_eq,UK,U6];omega
  refine T6 ⟨plainId_quiet Zw _,ih (i+1) _ H (by omega) (by omega) (W.frame _ B _ _ bg (U9 _) λb hb o e=>?_) x2 L iu λaO O m2 x3 V=>?_⟩
  .exact (sb.2 b λh=>hS (h▸hb)).trans e
  .refine q aO O (Moved.trans W.gtrans ((m.mono sub).then_heap (U9 _) λb o hb e=>?_) m2) x3 V;exact (sb.2 b λh=>hb (h▸UC)).trans e
end
section
variable {prog:TV}{w:TM}{A:Ub}{E:Value->TF->Prop}{s:TF}
theorem Adu (a:Value){Q₁:Value->TF->Prop}(h:Q₁ (.ref s.heap.objs.size) { s with heap:=s.heap.push { cls:=.type "set",dict:=none,data:=.set #[] 0 (.fresh 0 0 (!Cz w)) } }) :
  U8 (TQ prog w) A (.call (.builtin "set.__new__") ⟨[.type "set",a],[]⟩) (wants Q₁ E) s:=by
 refine Zx ?_;show TL _ A.in1 (do Zf "set.__new__" ⟨[.type "set",a],[]⟩;again (.builtin "set.__new__" ⟨[.type "set",a],[]⟩)) _ _ s;refine TR (wpAny_of_eq (F.newCall_set_1 a) (T6 ⟨plainId_quiet ux _,XA F.entry_set_new ?_⟩));rw [Zv ux _];unfold Builtin.«set.__new__» Builtin.Frozenset.newClass;have sub:=sub_set_self;obtain ⟨B,g,d,D,os⟩:=s;dsimp only;wp_walk
 refine Zy (T6 ?_);dsimp only;simp only [newObj];exact TR (wpAny_alloc (T6 (T6 h)))
theorem Py {h:Heap}{a:Addr}(e:h.get? a=some { cls:=.type "set",dict:=none,data:=.set #[] 0 (.fresh 0 0 (!Cz w)) }):C7 w h a [] :=
 ⟨_,#[],0,_,e,⟨rfl,rfl,rfl⟩,rfl,rfl,λe m=>by simp at m,Wu,by decide,rfl,rfl,λz=>(z rfl).elim⟩
theorem Adv {l:Addr}{items:Array Value}{zs:List Str}{Q:Value->TF->Prop}(hh:A.handled=none)(hl:s.heap.IsList l items)(Y:StrsAre items.toList zs)(aJ:items.size+1<3000)(q:∀ (h':Heap) (tk:Nat) (B:List Str),C7 w h' s.heap.objs.size B->(∀ z,z∈B↔z∈zs)->(∀ b o,b<s.heap.objs.size->s.heap.get? b=some o->h'.get? b=some o)->Q (.ref s.heap.objs.size) { s with heap:=h',toks:=tk }) :
  TL (TQ prog w) A (call (.type "set") [.ref l]) Q E s:=by
 obtain ⟨c,tl,adO⟩:=Ww.mro;have made:=Ww.made;have sub:=Ww.sub;refine YW (Zx ?_);show TL _ _ (callAny (.type "set") _) _ _ _;refine T6 ⟨tP _ (by decide +kernel),XA F.entry_type_call ?_⟩;rw [Around.under_plain (weight_type_call_type "set" [.ref l] []) rfl];have c1:=Ww.notType;have c2:=Ww.canCreate;have c3:=F.typeCall_set_1 (.ref l);repeat (any_goals (first | assumption | wp_step))
 refine W3 (Adu (.ref l) (E:=E) (Q₁:=λobj s₁=>obj=.ref s.heap.objs.size/\s₁={ s with heap:=s.heap.push { cls:=.type "set",dict:=none,data:=.set #[] 0 (.fresh 0 0 (!Cz w)) } }) ⟨rfl,rfl⟩) λr s₁ H=>?_;cases r with
 | error e=>exact H
 | ok fl =>
  cases fl with
  | ret obj =>
   obtain ⟨rfl,rfl⟩:=H;have atS:(s.heap.push { cls:=.type "set",dict:=none,data:=.set #[] 0 (.fresh 0 0 (!Cz w)) }).get? s.heap.objs.size=some { cls:=.type "set",dict:=none,data:=.set #[] 0 (.fresh 0 0 (!Cz w)) }:=U2 _ rfl;have ty:Shared.TypeIs { s with heap:=s.heap.push { cls:=.type "set",dict:=none,data:=.set #[] 0 (.fresh 0 0 (!Cz w)) } } (.ref s.heap.objs.size) "set":=⟨_,atS,rfl⟩;have i1:=Ww.init.lookup;have i2:=Ww.init.bind (.ref s.heap.objs.size);repeat (any_goals (first | assumption | wp_step))
   refine W3 (Ze (R:=wants (λr s₂=>r=.none/\∃ h' tk B,s₂={ s with heap:=h',toks:=tk }/\C7 w h' s.heap.objs.size B/\(∀ z,z∈B↔z∈zs) /\
     (∀ b o,b<s.heap.objs.size->s.heap.get? b=some o->h'.get? b=some o)) E) Ww.init.plain F.entry_set_init (check_set_init_1 ty ?_)) λr₂ s₂ I=>?_
   .obtain ⟨⟨adP,J,adQ,L⟩,e1,e2,nl,e3⟩:=AF hl;simp only at e2 e3;subst e2 e3;have cD:(s.heap.push { cls:=.type "set",dict:=none,data:=.set #[] 0 (.fresh 0 0 (!Cz w)) }).get? l=some { cls:=.type "list",dict:=J,data:=.seq items nl,slots:=L }:=Ul _ e1;have s1:=F.sub_list_set;have s2:=F.sub_list_frozenset;have s3:(Xi "list" == Xi "dict")=false:=by decide
    have l1:(s.heap.push { cls:=.type "set",dict:=none,data:=.set #[] 0 (.fresh 0 0 (!Cz w)) }).IsList l items:=⟨_,cD,rfl,nl,rfl⟩;unfold Builtin.«set.__init__» noKeywords Builtin.Frozenset.updateFrom;generalize O:Xo=PI;wp_walk
    subst O;refine YM l1 (TR (wpAny_runValue ?_));have lt:l<s.heap.objs.size:=Uc e1;have ns:l≠(s.heap.push { cls:=.type "set",dict:=none,data:=.set #[] 0 (.fresh 0 0 (!Cz w)) }).objs.size:=by rw [VG];exact Uq (Yl lt)
    have nf:s.heap.objs.size ∉ [(s.heap.push { cls:=.type "set",dict:=none,data:=.set #[] 0 (.fresh 0 0 (!Cz w)) }).objs.size,l]:=by rw [VG];simp only [T8,UT,or_false,not_or];exact ⟨Uq (Xq _),Wd lt⟩
    have ze:zs.length=items.size:=by have:=(Jo Y).length;rw [TU] at this;simpa using this
    have val:∀(i:Nat)(v:Value),items[i]?=some v->∃ t,v=UQ (zs.getD i UI) t:=λi v hv=>by
     have gp:items.toList[i]?=some v:=by rw [Y8];exact hv
     have il:i<zs.length:=by rw [ze];exact (Array.getElem?_eq_some_iff.mp hv).1
     obtain ⟨u,g1,g2⟩:=(Jo Y).get (i:=i) (x:=.str zs[i]) (by rw [T7,Ug il];rfl);rw [gp] at g1;cases g1;obtain ⟨t,rfl⟩:=g2;exact ⟨t,by rw [UO,Ug il];rfl⟩
    have nh:A.in1.in1.in1.handled=none:=by simp [hh]
    refine Adt ((Walks.list nh _ l ns items).toS) s.heap.objs.size nf (λi=>zs.getD i UI) val aJ (items.size - 0) 0 _ [] (by omega) (UH _) ⟨⟨_,U2 _ rfl,rfl,rfl⟩,l1.push _⟩ (Py (Ul _ atS)) (λz=>⟨λh=>absurd h UT,λzz=>Ct zz λj h _=>absurd h (Zz _)⟩) (T3 _) ?_;intro s' B m x mem;obtain ⟨h',g',d',bK,kq⟩:=s';have eg:g'=s.gens:=m.gens;have ed:d'=s.drawn:=m.drawn;have eo:kq=s.os:=m.os;subst eg ed eo;show TL _ _ _ _ _ _;refine T6 ?_;show TL _ _ (ret Vc) _ _ _;refine T6 ⟨rfl,h',bK,B,rfl,x,λz=>?_,λb o hb e=>?_⟩
    .rw [mem];constructor
     .rintro ⟨j,h1,rfl⟩;have D:j<zs.length:=by omega
      rw [UO,Ug D];exact V5 D
     .intro h;obtain ⟨j,D,rfl⟩:=Vd h;exact ⟨j,by omega,by rw [UO,Ug D];rfl⟩
    .have b2:b≠(s.heap.push { cls:=.type "set",dict:=none,data:=.set #[] 0 (.fresh 0 0 (!Cz w)) }).objs.size:=by rw [VG];exact Uq (Yl hb)
     exact m.heap b o (by simp only [T8,UT,or_false,not_or];exact ⟨Uq hb,b2⟩) (Ul _ (Ul _ e))
   .cases r₂ with
    | error e=>exact I
    | ok V =>
     cases V with
     | ret r =>
      obtain ⟨rfl,h',tk,B,rfl,x,mem,hk⟩:=I;repeat (any_goals (first | assumption | wp_step))
      exact q _ _ _ x mem hk
     | _=>exact I.elim
  | _=>exact H.elim
end
noncomputable def B6 (w:TM)(a:Addr)(zs:List Str):HO:=.ext λh=>∃ aq,C7 w h a aq/\∀ z,z∈aq↔z∈zs
theorem LD {P:TV}{w:TM}{H:Hp}{h:Heap}{a:Addr}{zs B:List Str}(x:C7 w h a B)(m:∀ z,z∈B↔z∈zs):Bg P w H h a (B6 w a zs):=by refine ⟨⟨B,x,m⟩,?_,λJ L ⟨y,D,I⟩ k=>⟨y,D.at k,I⟩⟩;obtain ⟨o,_,_,_,e,_⟩:=Dp x;exact ⟨o,e⟩
theorem LF:∀{a b:List Str},a.Nodup->(∀ z∈a,z∈b)->a.length<=b.length
 | [],b,_,_=>UH _
 | x :: a,b,nd,h=>by
  have B:=Uv.mp nd;have hx:=h x UC;have ih:=LF (b:=b.erase x) B.2 λz D=>(ZA (λe:z=x=>B.1 (e▸D))).mpr (h z (Uu _ D));rw [ZC hx] at ih;have:0<b.length:=uy hx;rw [Vf];omega
theorem Adw {a b:List Str}(I:a.Nodup)(m:∀ z,z∈a↔z∈b):a.length=b.length↔b.Nodup:=by
 constructor
 .intro e;refine Yj λh=>?_;have B:∀ b:List Str,¬ b.Nodup->∃ c:List Str,c.length<b.length/\∀ z,z∈c↔z∈b:=λb=>by
   induction b with
   | nil=>exact λh=>(h Wu).elim
   | cons x b ih =>
    intro h;by_cases hx:x∈b
    .exact ⟨b,by simp,λz=>⟨Uu _,λD=>(T8.mp D).elim (λe=>e▸hx) id⟩⟩
    .obtain ⟨c,J,H⟩:=ih λq=>h (Uv.mpr ⟨hx,q⟩);refine ⟨x :: c,by simpa using J,λz=>?_⟩;rw [T8,T8,H]
  obtain ⟨c,J,H⟩:=Ao (B b h);have:=LF I λz D=>(H z).mpr ((m z).mp D);omega
 .intro hb;exact ((List.perm_ext_iff_of_nodup I hb).mpr m).length_eq
section
variable {X:Cx}
theorem Adx {w:TM}(hw:X.w=w)(hc:X.calm=true):BB X (.type "set") (λxs H Q=>∃(p:Addr)(zs:List Str),xs=[.ref p]/\A7 X.K H p (zs.map V.str)/\zs.length<2000/\∀ l,H l=none->Q (.ref l) (upd H l (B6 w l zs))):=by
 subst hw;intro pins s σ H xs L Q I r h;replace h:=Bk h;obtain ⟨p,zs,rfl,hq,O,q⟩:=h
 obtain ⟨u,rfl,D⟩:=Ao (CK r);cases D;obtain ⟨its,B,pl,Y⟩:=AF (I.list hq);have e:=B.length;rw [TU] at e;refine Adv (items:=its.toArray) (zs:=zs) (I.ok.hd hc) pl.isList (by simpa using Lv B) (by rw [Uw];omega) λh' J aq x m k=>?_;exact ⟨.ref s.heap.objs.size,_,I.laid (t':=J) (λb o e=>k b o (Uc e) e) (T3 _) (LD x m),rfl,q _ I.fresh⟩
theorem Pz {w:TM}(hw:X.w=w):BB X (.builtin "len") (λxs H Q=>∃(p:Addr)(zs:List Str),xs=[.ref p]/\H p=some (B6 w p zs)/\∀ n:Nat,(n=zs.length↔zs.Nodup)->Q (.int n) H):=by
 subst hw;intro pins s σ H xs us Q I r h;replace h:=Bk h;obtain ⟨p,zs,rfl,B,q⟩:=h
 obtain ⟨u,rfl,D⟩:=Ao (CK r);cases D;obtain ⟨⟨J,⟨o,es,ep,t,L,O,V,Y,e5,nd,aJ,hf,_⟩,m⟩,_⟩:=(show Bg X.prog X.w H s.heap p (B6 X.w p zs) from I.af p _ B);have sz:J.length=es.size:=by rw [Y,TU,Ve]
 refine call_len_set L O V hf (by omega) ⟨.int es.size,H,I.tok _,⟨_,rfl⟩,q _ ?_⟩;rw [<- sz];exact Adw nd m
end
section
variable {prog:TV}{w:TM}{A:Ub}{R:WK->TF->Prop}{E:Value->TF->Prop}{s:TF}
theorem Ady {Q:Value->TF->Prop}(h:Q (.ref s.heap.objs.size) { s with heap:=s.heap.push { cls:=.type "set",dict:=none,data:=.set #[] 0 (.fresh 0 0 (!Cz w)) } }):TL (TQ prog w) A (newSet (.type "set")) Q E s:=by unfold newSet setsByText;refine TR (TR (Zy (T6 ?_)));dsimp only;simp only [newObj];exact TR (wpAny_alloc (T6 h))
theorem Adz (B I iter:TN)(D:List TN)(sc:Scope)(pos:Pos)(it H:Value)(env:Env):Ye (.SetComp B [⟨I,iter,D,0⟩] sc pos) 0 it H env=(do
  Vq iter.pos
  match <- Vy it with
  | none=>pure (.done .next)
  | some v =>
   WH I it v
   VE I env v
   let ok <- Hk D env
   if ok then (do let v <- TZ B env;Vq B.pos;let _ <- call (.builtin "set.add") [H,v])
   again (.compLoop (.SetComp B [⟨I,iter,D,0⟩] sc pos) 0 it H env)):=by rfl
theorem AdA {B O iter:TN}{D:List TN}{sc:Scope}{pos:Pos}{it H:Value}{env:Env}(I:Nat->TF->Prop)(turn:∀ n s,I n s->TL (TQ prog w) A (Vy it) (λr V=>match r with
   | none=>R (.ok .next) V
   | some v=>TL (TQ prog w) A (WH O it v) (λ_ s₂=>TL (TQ prog w) A (VE O env v) (λ_ s₃=>TL (TQ prog w) A (Hk D env) (λok Y =>
     if ok=true then TL (TQ prog w) A (TZ B env) (λx s₅=>TL (TQ prog w) A (call (.builtin "set.add") [H,x]) (λ_ s₆=>∃ m,m<n/\I m s₆) (λ_ _=>False) s₅) (λ_ _=>False) Y
     else ∃ m,m<n/\I m Y) (λ_ _=>False) s₃) (λ_ _=>False) s₂) (λ_ _=>False) V) (λ_ _=>False) s)(n:Nat)(h:I n s):U8 (TQ prog w) A (.compLoop (.SetComp B [⟨O,iter,D,0⟩] sc pos) 0 it H env) R s:=by
 refine Zi rfl I (λn s hI=>?_) n h;show TL _ A ((Ye (.SetComp B [⟨O,iter,D,0⟩] sc pos) 0 it H env).onRaise _) _ _ s;refine Zj ?_;rw [Adz];refine TR (VY (TR (Cs (turn n s hI) λr V J=>?_)));match r,J with
 | none,J=>exact T6 J
 | some v,J =>
  refine TR (Cs J λ_ s₂ h₂=>TR (Cs h₂ λ_ s₃ h₃=>TR (Cs h₃ λok Y L=>?_)));match ok,L with
  | false,L=>exact T6 ⟨rfl,L⟩
  | true,L=>exact TR (TR (Cs L λx s₅ h₅=>TR (VY (TR (Cs h₅ λ_ s₆ h₆=>T6 (T6 ⟨rfl,h₆⟩))))))
theorem AdB {B J iter:TN}{D:List TN}{sc:Scope}{pos:Pos}{it H:Value}{env:Env}(V:U8 (TQ prog w) A (.compLoop (.SetComp B [⟨J,iter,D,0⟩] sc pos) 0 it H env) R s)(h:TL (TQ prog w) A (Xo it) (λL I=>U8 (TQ prog w) A (.compLoop (.SetComp B [⟨J,iter,D,0⟩] sc pos) 0 L H env) R I) (notedBy (TQ prog w) A env λx I=>R (.error x) I) s) :
  U8 (TQ prog w) A (.compStart (.SetComp B [⟨J,iter,D,0⟩] sc pos) 0 it H env) R s:=by
 refine Zx ?_;show TL _ _ ((compStart (.SetComp B [⟨J,iter,D,0⟩] sc pos) 0 it H env).onRaise (λx=>do noteFrame x env;Vq theWindowsPlace)) _ _ s;refine wpAny_notedAt ?_;unfold compStart;show TL _ _ (ask >>= _) _ _ s;refine TR (Zy (wpAny_ite ?_));split
 .first | exact TR (T6 (T6 ⟨rfl,V⟩)) | exact T6 ⟨rfl,V⟩
 .first | exact TR (Xe (TR (VY (TR (Vx h (λL I O=>T6 ⟨rfl,O⟩) λ_ _ x=>x))))) | exact Xe (TR (VY (TR (Vx h (λL I O=>T6 ⟨rfl,O⟩) λ_ _ x=>x))))
theorem AdC {a:Addr}{zs:List Str}{z:Str}{tk:Tok}{Q:Value->TF->Prop}(ty:s.TypeIs (.ref a) "set")(hS:C7 w s.heap a zs)(room:zs.length+1<3000)(q:∀ h' B D,UN a s.heap h'->C7 w h' a B->(if z∈zs then B=zs else B.Perm (zs++[z]))->Q .none { s with heap:=h',toks:=D }):TL (TQ prog w) A (call (.builtin "set.add") [.ref a,.str z tk]) Q E s:=by
 refine Xc F.slot_set_add ty F.entry_set_add ?_ (F.args_set_add_2 _ _);unfold Builtin.«set.add» Builtin.Frozenset.oneOther;simp only [List.isEmpty_nil,bind_assoc];unfold Builtin.Frozenset.addrOf setAdd;refine TR (T6 ?_);try dsimp only
 refine TR (T6 ?_);try dsimp only
 refine TR (VF (TR ((Br prog w).pyHash (k:=UL z) (F1 _ _ _ _) ?_)));refine add_str (s:={ s with toks:=s.toks+1 }) hS room λh' B b H x I=>?_;show TL _ _ (ret Vc) _ _ _;exact T6 ⟨_,rfl,q h' B _ H x I⟩
end
section
variable {X:Cx}{N':List Str}{sc:Scope}{ay:List (Option Nat)}{cl:List (Str×Addr)}{C:Addr}{fp:List Addr}{pins:List (Addr×Obj)}{s₂:TF}{H₂:Hp}{σ:St}
theorem AdD {s:TF}{H:Hp}{D:Addr}{zs:List Str}{z:Str}{tk:Tok}{Q:Value->TF->Prop}{E:Value->TF->Prop}(I:Ae X pins σ H s)(O:H D=some (B6 X.w D zs))(aJ:zs.length<2000)(q:∀ h' J,Ae X pins σ (upd H D (B6 X.w D (zs++[z]))) { s with heap:=h',toks:=J }->Q .none { s with heap:=h',toks:=J }):TL (TQ X.prog X.w) X.A (call (.builtin "set.add") [.ref D,.str z tk]) Q E s:=by
 obtain ⟨⟨V,x,m⟩,_⟩:=(show Bg X.prog X.w H s.heap D (B6 X.w D zs) from I.af D _ O);obtain ⟨o,es,ep,t,Y,e2,r⟩:=Dp (id x);have ty:s.TypeIs (.ref D) "set":=⟨o,Y,e2.1⟩;have le:V.length<=zs.length:=by obtain ⟨_,_,_,_,_,_,_,_,_,nd,_⟩:=Ir (id x);exact LF nd λz B=>(m z).mp B
 refine AdC ty x (by omega) λh' bF J sb x2 B=>?_;have m2:∀ y,y∈bF↔y∈zs++[z]:=λy=>by
  rw [U1,UB,<- m];by_cases L:z∈V
  .rw [if_pos L] at B;rw [B];exact ⟨.inl,λh=>h.elim id λe=>e▸L⟩
  .rw [if_neg L] at B;rw [B.mem_iff,U1,UB]
 refine q h' J (I.write (t':=J) (x:=D) (e:=D) (by rw [O];trivial) (.inl rfl) (λb u hb e=>(sb.2 b hb).trans e) ?_ (LD x2 m2));obtain ⟨o2,_,_,_,g,_⟩:=Dp x2;exact ⟨o2,g⟩
theorem AdE {D:Addr}{h₁:Heap}{tk:Nat}{m:Str->Option Value}(S:Bh sc X.env.scope N' X.N ay)(I:Ae X pins σ H₂ s₂)(L:∀ x c,cl.lookup x=some c->X.env.cells.lookup x=some c)(bt:∀ y∈sc.names,y.2=.free->∃ c,cl.lookup y.1=some c)(b8:∀ b∈fp,CS X pins H₂ b)(bu:∀ b∈fp,∃ o,s₂.heap.get? b=some o)(hD:D=s₂.heap.objs.size)(hC:C=s₂.heap.objs.size+1)(hk:∀ b o,(s₂.heap.push { cls:=.type "set",dict:=none,data:=.set #[] 0 (.fresh 0 0 (!Cz X.w)) }).get? b=some o->h₁.get? b=some o)(bD:h₁.Ns C m) :
  Ae (AU X N' sc cl C fp pins s₂ H₂) [] (Eg ay σ) (upd H₂ D (B6 X.w D [])) { s₂ with heap:=h₁,toks:=tk }:=by
 subst hD;have Y:s₂.heap.objs.size<=C:=by rw [hC];exact U9 _
 have ok:=Eh S I L bt Y b8 bu;have I3:Ae X pins σ (upd H₂ s₂.heap.objs.size (B6 X.w s₂.heap.objs.size [])) { s₂ with heap:=s₂.heap.push { cls:=.type "set",dict:=none,data:=.set #[] 0 (.fresh 0 0 (!Cz X.w)) },toks:=tk }:=I.laid (t':=tk) (λb o q=>Ul _ q) (T3 _) (LD (Py (U2 _ rfl)) λz=>Iff.rfl);have I4:Ae X pins σ (upd H₂ s₂.heap.objs.size (B6 X.w s₂.heap.objs.size [])) { s₂ with heap:=h₁,toks:=tk }:=I3.kept (t':=tk) hk;have B:∀ b o,s₂.heap.get? b=some o->h₁.get? b=some o:=λb o e=>hk b o (Ul _ e);have h8:∀ b o,s₂.heap.get? b=some o->b≠s₂.heap.objs.size:=λb o e=>Uq (Uc e);have eO:∀ x c,cl.lookup x=some c->∃ v o,s₂.heap.get? c=some o/\o.data=.cell v:=λx c e=>by
  obtain ⟨v,o,H,hd⟩:=Bp (I.cell x c (L x c e));exact ⟨v,o,H,hd⟩
 refine ⟨ok,rfl,I.bare,Un.laid B (T3 _) I.fresh,⟨m,bD,λi x v e1 e2 e3=>?_⟩,λx c e=>?_,?_,λx c e=>?_,λp hp=>?_,I4.af,?_⟩
 .have J:(ay[i]?).map (λo=>o.bind λj=>(σ[j]?).join)=some (some v):=by
   have:=e2;unfold Eg at this;rwa [T7] at this
  cases q:ay[i]? with
  | none=>rw [q] at J;cases J
  | some oj =>
   rw [q,U7] at J;cases oj with
   | none=>cases J
   | some j =>
    have O:(σ[j]?).join=some v:=by simpa using J
    have e5:σ[j]?=some (some v):=by
     cases z:σ[j]? with
     | none=>rw [z] at O;cases O
     | some w=>rw [z] at O;rw [<- O];rfl
    obtain ⟨x',n1,n2,n3,V⟩:=AF (S.out i j q);have cD:N'[i]?=some x:=e1;rw [n1] at cD;cases cD;obtain ⟨m2,fz,hl⟩:=Ao I.loc;have hv:GK X.env.scope x:=V.elim (λz=>.inr (.inl z)) λz=>.inr (.inr z);obtain ⟨u,r,l⟩:=Ao (hl j x v n2 e5 hv);refine ⟨u,r,.inr ⟨Jb n3,?_⟩⟩;rcases l with ⟨k,_⟩ | ⟨_,c,ec,z⟩
    .have k':X.env.scope.names.lookup x=some .local:=k;rcases V with z | z<;>rw [k'] at z<;>cases z
    .obtain ⟨c',eP⟩:=bt _ (VP n3) rfl;have:=L x c' eP;rw [ec] at this;cases this;obtain ⟨o,H,hd⟩:=Ao z;exact ⟨c,eP,o,B c o H,hd⟩
 .obtain ⟨v,o,H,hd⟩:=Bp (eO x c e);exact ⟨v,o,B c o H,hd⟩
 .show upd H₂ s₂.heap.objs.size (B6 X.w s₂.heap.objs.size []) C=none;rw [Ap (by rw [hC];exact XE _)];exact I.af.fresh Y
 .obtain ⟨v,o,H,hd⟩:=Bp (eO x c e);show upd H₂ s₂.heap.objs.size (B6 X.w s₂.heap.objs.size []) c=none;rw [Ap (h8 c o H)];exact I.cu x c (L x c e)
 .have bJ:p∈X.pn++pins:=by simpa [AU] using hp
  obtain ⟨e,n,ne,nf,d⟩:=AW (I.pin p bJ);obtain ⟨_,V,_⟩:=AW (I4.pin p bJ);exact ⟨B _ _ e,V,Uq (Ux (Uc e) Y),λz=>(T8.mp (I.cS _ z)).elim ne nf,d⟩
 .show (ay.map _).length=N'.length;rw [TU];exact S.len
def PB (w:TM)(ay:List (Option Nat))(wi:TI)(g:TG)(tt:TT)(te:TE):TE:=λσ H Q=>wi σ H λJ H1=>∀ D,H1 D=none->∃ W:Nat->Nat->St->Hp->Prop,(∃ m,W 0 m (Eg ay σ) (upd H1 D (B6 w D [])))/\∀ i m σ' H',W i m σ' H' ->
 (J.stop i H'/\Q (.ref D) H')\/(J.go i H'/\∃ N:St->Hp->Prop,(∀ σ2 H2,N σ2 H2->∃ m',m'<m/\W (i+1) m' σ2 H2)/\∀ x H2,J.bU i H' x H2->g x σ' H2 λσ3 H3=>tt σ3 H3 λb H4 =>
  if b=true then te σ3 H4 λv H5=>∃ zs z,v=.str z/\H5 D=some (B6 w D zs)/\zs.length<2000/\N σ3 (upd H5 D (B6 w D (zs++[z]))) else N σ3 H4)
theorem AdF {elt tg iter:TN}{O:List TN}{sc:Scope}{ay:List (Option Nat)}{N':List Str}{pos:Pos}{wi:TI}{g:TG}{tt:TT}{te:TE}{s:TF}{H:Hp}{use:Option (Value->Sem Unit)}{Qv:Value->TF->Prop}{Q:VK}(hc:X.calm=true)(S:Bh sc X.env.scope N' X.N ay)(hi:PI X tg iter wi)(hg:∀ cl C fp pins s₂ H₂,PG (AU X N' sc cl C fp pins s₂ H₂) tg g)(ht:∀ cl C fp pins s₂ H₂,Ei (AU X N' sc cl C fp pins s₂ H₂) O tt)(he:∀ cl C fp pins s₂ H₂,PE (AU X N' sc cl C fp pins s₂ H₂) elt te)(hs:∀ x,VZ iter X.env x=pure x)(I:Ae X pins σ H s)(h:PB X.w ay wi g tt te σ H Q)(post:∀ D C B s' m,(∀ h',UN C s'.heap h'->Ae X pins σ B { s' with heap:=h' })->Ae X pins σ B s'->s'.heap.Ns C m->(∀ x c,X.env.cells.lookup x=some c->c≠C)->X.env.locals≠C->B C=none ->
   (∀ σ' V h',Ae X pins σ' B V->UN C V.heap h'->Ae X pins σ' B { V with heap:=h' })->Q (.ref D) B->W9 (TQ X.prog X.w) X.A X.xe use Qv (.ref D) C (.ok .next) s') :
  TL (TQ X.prog X.w) X.A (Yg (.SetComp elt [⟨tg,iter,O,0⟩] sc pos) sc X.env (Zk [⟨tg,iter,O,0⟩] pos) (newSet (.type "set")) false (TZ iter X.env) use) Qv X.xe s:=by
 obtain ⟨cl,ic,aX,bt⟩:=K5 (env:=X.env) (sc:=sc) λy hy hf=>I.ok.has y.1 (S.frees y hy hf);refine Zl rfl hs ic S.kind S.one (Am (hi pins s σ H _ I h) λxv s₁ h₁=>Am h₁ λg5 s₂ h₂=>?_);obtain ⟨it,fp,tn,J,H₂,e,L,T,eQ,f₂,rd⟩:=Fl h₂;subst e;refine Ady (Zm S.jw (by intro y hy;simp at hy) (λh₁ bD cW=>?_) S.kind);dsimp only at bD cW ⊢;have bu:∀ b∈fp,∃ o,s₂.heap.get? b=some o:=λb hb=>let ⟨o,e,_⟩:=T.obj _ _ eQ b hb;⟨o,e⟩;have cw:(s₂.heap.push { cls:=.type "set",dict:=none,data:=.set #[] 0 (.fresh 0 0 (!Cz X.w)) }).objs.size=s₂.heap.objs.size+1:=VG ..;have hk:∀ b o,(s₂.heap.push { cls:=.type "set",dict:=none,data:=.set #[] 0 (.fresh 0 0 (!Cz X.w)) }).get? b=some o->h₁.get? b=some o:=λb o e=>cW.extBut b o (Uq (Uc e)) (Ul _ e);have IB:=AdE (tk:=s₂.toks+([]:List (Str×Value)).length) S L aX bt f₂ bu rfl cw hk bD;generalize (s₂.heap.push { cls:=.type "set",dict:=none,data:=.set #[] 0 (.fresh 0 0 (!Cz X.w)) }).objs.size=C at cw bD cW IB ⊢;generalize hD:s₂.heap.objs.size=D at IB cw ⊢;have aR:s₂.heap.objs.size<=C:=by rw [hD,cw];exact U9 _
 obtain ⟨W,⟨m0,w0⟩,turn⟩:=Ao (rd D (by rw [<- hD];exact L.fresh));have cX:∀{B:Hp},(∀ b∈fp,B b=none)->∀ b∈fp,CS (AU X N' sc cl C fp pins s₂ H₂) [] B b:=λhn b hb=>by
  obtain ⟨z1,z2⟩:=(Eh S L aX bt aR f₂ bu).gh b hb;exact ⟨hn b hb,z1,(Eh S L aX bt aR f₂ bu).eJ b hb,.inl hb,z2,λp hp=>(f₂ b hb).2.2.2.2.2 p (by simpa [AU] using hp)⟩
 have ie:∀ b∈fp,(upd H₂ D (B6 X.w D [])) b=none:=λb hb=>by
  obtain ⟨o,ho⟩:=bu b hb;rw [Ap (by rw [<- hD];exact Uq (Uc ho))];exact (f₂ b hb).1
 have bw:tn 0 h₁:=T.keep _ _ _ eQ λb hb o e=>hk b o (Ul _ e);have loop:U8 (TQ X.prog X.w) X.A (.compLoop (.SetComp elt [⟨tg,iter,O,0⟩] sc pos) 0 (.ref it) (.ref D) (Yf sc cl C X.env)) (W9 (TQ X.prog X.w) X.A X.xe use Qv (.ref D) C) { s₂ with heap:=h₁,toks:=s₂.toks+([]:List (Str×Value)).length }:=by
  refine AdA (λn s'=>∃ i σ' B,Ae (AU X N' sc cl C fp pins s₂ H₂) [] σ' B s'/\tn i s'.heap/\(∀ b∈fp,B b=none)/\W i n σ' B) ?_ m0 ⟨0,_,_,IB,bw,ie,w0⟩;rintro n s3 ⟨i,σ3,H3,I3,cU,cV,w3⟩;rcases turn i n σ3 H3 w3 with ⟨stop,qn⟩ | ⟨go,N,hN,Vk⟩
  .refine Am (T.done (AU X N' sc cl C fp pins s₂ H₂) rfl rfl rfl hc i [] s3 σ3 H3 _ I3 (cX cV) cU stop) λr s4 ⟨hr,I4⟩=>?_;subst hr;have JX:=K6 L f₂ I4;obtain ⟨m,hn,_⟩:=Ao I4.loc;have cn:∀ x c,X.env.cells.lookup x=some c->c≠C:=λx c e z=>by
    obtain ⟨v,q⟩:=L.cell x c e;exact absurd (Ux q.lt (by rw [z];exact aR)) (Vi _)
   have gone:∀ σ' V h',Ae X pins σ' H3 V->UN C V.heap h'->Ae X pins σ' H3 { V with heap:=h' }:=λσ' V h' K3 ig =>
    K3.turned (t':=V.toks) (it:=C) (λb o hb e=>(ig.2 b hb).trans e) I4.free (Wd (Ux L.lt aR)) (.inr (UM L.sz aR)) cn λp hp z=>by
     exact absurd (Ux (Uc (L.pin p hp).1) (by rw [z];exact aR)) (Vi _)
   exact post D C H3 s4 m (λh' hs'=>gone σ s4 h' JX hs') JX hn cn (Uq (Ux L.lt aR)) I4.free gone qn
  .refine Am (T.item (AU X N' sc cl C fp pins s₂ H₂) rfl rfl rfl hc i [] s3 σ3 H3 _ I3 (cX cV) cU go) λr s4 Y=>Ct Y λu hr h4=>?_;subst hr;refine Am h4 λ_ s5 Y=>AH Y λx H5 I5 r5 ⟨y5,bZ,fu⟩=>?_;have fv:=I5.pinned (cX fu) (T.obj _ _ bZ);refine Am (hg cl C fp pins s₂ H₂ _ s5 σ3 H5 x u _ fv r5 (Vk x H5 y5)) λ_ s6 Y=>GG Y λσ6 H6 I6 q6=>?_;refine Am (ht cl C fp pins s₂ H₂ _ s6 σ6 H6 _ I6 q6) λok s7 Y=>Ct Y λH7 I7 q7=>?_;have again:∀{H8:Hp}{s8:TF},Ae (AU X N' sc cl C fp pins s₂ H₂) ([]++Fo fp s5.heap) σ6 H8 s8->N σ6 H8->∃ m,m<n/\∃ i σ' B,Ae (AU X N' sc cl C fp pins s₂ H₂) [] σ' B s8/\tn i s8.heap/\(∀ b∈fp,B b=none)/\W i m σ' B:=λ{H8 s8} I8 n8=>by
    obtain ⟨m',hm,w8⟩:=Ao (hN σ6 H8 n8);refine ⟨m',hm,i+1,σ6,H8,I8.gn,T.keep _ _ _ bZ λb hb o e=>(I8.pin (b,o) (UD _ (UD _ (EC hb e)))).1,λb hb=>?_,w8⟩;obtain ⟨o,e,d⟩:=Ao (T.obj _ _ bZ b hb);exact (I8.pin (b,o) (UD _ (UD _ (EC hb e)))).2.1
   cases ok with
   | false=>exact again I7 q7
   | true =>
    refine Am (he cl C fp pins s₂ H₂ _ s7 σ6 H7 _ I7 q7) λy s8 Y=>AH Y λv H8 I8 r8 q8=>?_;replace q8:=Bk q8;obtain ⟨zs,z,rfl,hy,aJ,n8⟩:=q8
    obtain ⟨tk,rfl⟩:=r8;exact AdD (X:=AU X N' sc cl C fp pins s₂ H₂) I8 hy aJ λh9 tk9 I9=>again I9 n8
 exact AdB loop (T.self _ 0 _ _ _ bw loop)
theorem AdG {B O iter:TN}{L:List TN}{sc:Scope}{ay:List (Option Nat)}{N':List Str}{pos:Pos}{Y:TI}{g:TG}{tt:TT}{te:TE}{w:TM}(hw:X.w=w)(hc:X.calm=true)(S:Bh sc X.env.scope N' X.N ay)(hi:PI X O iter Y)(hg:∀ cl C fp pins s₂ H₂,PG (AU X N' sc cl C fp pins s₂ H₂) O g)(ht:∀ cl C fp pins s₂ H₂,Ei (AU X N' sc cl C fp pins s₂ H₂) L tt)(he:∀ cl C fp pins s₂ H₂,PE (AU X N' sc cl C fp pins s₂ H₂) B te)(hs:∀ x,VZ iter X.env x=pure x:=by intro _;rfl):PE X (.SetComp B [⟨O,iter,L,0⟩] sc pos) (PB w ay Y g tt te):=by subst hw;intro pins s σ H Q I h;rw [arm_eval_SetComp];refine AdF (use:=none) (Q:=Q) hc S hi hg ht he hs I h λD C H' s' m g1 J hn cn ln fr g2 q=>?_;exact ⟨m,hn,λh' V=>⟨.ref D,H',g1 h' V,rfl,q⟩⟩
end
section
variable {prog:TV}{w:TM}{A:Ub}{E:Value->TF->Prop}{s:TF}
structure Sti (h:Heap)(I a:Addr)(o:Obj)(first:Value)(i n ep:Nat):Prop where
 it:h.get? I=some { cls:=.type "set_iterator",data:=.fields #[first,.int i 0,.ref a,.int n 0,.int ep 0] }
 st:h.get? a=some o
end
section
variable {prog:TV}{w:TM}{A:Ub}{E:Value->TF->Prop}{s:TF}
end
section
variable {prog:TV}{w:TM}{A:Ub}{E:Value->TF->Prop}{s:TF}
end
section
variable {prog:TV}{w:TM}{A:Ub}{E:Value->TF->Prop}{s:TF}
end
section
variable {X:Cx}
end
section
variable {K:TH}{D:Addr}{z:Str}{g:TG}{tt:TT}{te:TE}{σ0:St}{H:Hp}{Q:Hp->Prop}
theorem AdH (Pv:Nat->St->Hp->Prop)(V:Pv 0 σ0 (upd H D (.lst [])))(hs:∀ i c σ B,z.cps.toList[i]?=some c->Pv i σ B->g (.str ⟨#[c]⟩) σ B (Jf D tt te (Pv (i+1))))(hd:∀ σ B,Pv z.cps.toList.length σ B->Q B) :
  ∃ W:Nat->Nat->St->Hp->Prop,(∃ m,W 0 m σ0 (upd H D (.lst [])))/\∀ i m σ' B,W i m σ' B ->
   ((F8 z).stop i B/\Q B)\/((F8 z).go i B/\∃ N:St->Hp->Prop,(∀ σ2 I,N σ2 I->∃ m',m'<m/\W (i+1) m' σ2 I)/\∀ x I,(F8 z).bU i B x I->g x σ' I λσ3 Y=>tt σ3 Y λb J =>
    if b=true then te σ3 J λv L=>∃ ys,L D=some (.lst ys)/\ys.length<sizeLine/\N σ3 (upd L D (.lst (ys++[v]))) else N σ3 J):=by
 have hl:z.cps.toList.length=z.cps.size:=by simp
 rw [hl] at hd;refine ⟨λi m σ H=>m=z.cps.size - i/\i<=z.cps.size/\Pv i σ H,⟨_,rfl,UH _,V⟩,?_⟩;rintro i m σ H1 ⟨rfl,hi,p⟩;by_cases O:i<z.cps.size
 .refine .inr ⟨O,Pv (i+1),λσ' B p'=>⟨z.cps.size - (i+1),by omega,rfl,O,p'⟩,λx B y=>?_⟩;obtain ⟨e,c,hc,e2⟩:=y;subst e e2;exact hs i c σ _ hc p
 .have e:i=z.cps.size:=by omega
  subst e;exact .inl ⟨T3 _,hd σ H1 p⟩
theorem AdI {w:TM}{a:Addr}{xs:List V}(Pv:Nat->St->Hp->Prop)(h0:Pv 0 σ0 (upd H D (B6 w D [])))(hl:∀ i σ H,i<=xs.length->Pv i σ H->A7 K H a xs)(hs:∀ i x σ B,xs[i]?=some x->Pv i σ B->g x σ B λσ3 O=>tt σ3 O λb I=>if b=true then te σ3 I λv J=>∃ zs z,v=.str z/\J D=some (B6 w D zs)/\zs.length<2000/\Pv (i+1) σ3 (upd J D (B6 w D (zs++[z]))) else Pv (i+1) σ3 I)(hd:∀ σ B,Pv xs.length σ B->Q B) :
  ∃ W:Nat->Nat->St->Hp->Prop,(∃ m,W 0 m σ0 (upd H D (B6 w D [])))/\∀ i m σ' B,W i m σ' B ->
   ((DA K a).stop i B/\Q B)\/((DA K a).go i B/\∃ N:St->Hp->Prop,(∀ σ2 L,N σ2 L->∃ m',m'<m/\W (i+1) m' σ2 L)/\∀ x L,(DA K a).bU i B x L->g x σ' L λσ3 O=>tt σ3 O λb I =>
    if b=true then te σ3 I λv J=>∃ zs z,v=.str z/\J D=some (B6 w D zs)/\zs.length<2000/\N σ3 (upd J D (B6 w D (zs++[z]))) else N σ3 I):=by
 refine ⟨λi m σ H=>m=xs.length - i/\i<=xs.length/\Pv i σ H,⟨xs.length,by simp,UH _,h0⟩,?_⟩;rintro i m σ Y ⟨rfl,hi,p⟩;have q:=hl i σ Y hi p;by_cases au:i<xs.length
 .refine .inr ⟨⟨xs,xs[i],q,by simp [au]⟩,Pv (i+1),λσ' B p'=>⟨xs.length - (i+1),by omega,rfl,au,p'⟩,λx B y=>?_⟩;obtain ⟨rfl,hy⟩:=y;exact hs i x σ _ (hy xs q) p
 .have e:i=xs.length:=by omega
  subst e;exact .inl ⟨⟨xs,q,T3 _⟩,hd σ Y p⟩
end
section
variable {X:Cx}{CX:B4}{k:Nat}{f C:Addr}{fd:T5}{ps:List Str}{sp:Sp}{x:Str}{p pos:Pos}{e:TN}{es:List TN}{t:TA}{W:St->XK}
theorem AdJ {D a b:TN}{B:TA}(g:Gm X.env.scope "range")(H:X.mg "range"=none)(ha:PA X [a,b] B)(hs:T2 [a,b] X.env=[(false,TZ a X.env),(false,TZ b X.env)]:=by rfl)(I:T2 [b] X.env=[(false,TZ b X.env)]:=by rfl):PI X D (.Call (.Name "range" p) [a,b] [] pos) (N4 B):=AaN g.gl H ha hs I
theorem Gf {i:Int}(g:Gm X.env.scope x)(B:∃ t,X.mg x=some (U3 i t)):PE X (.Name x pos) (tC (.int i)):=by obtain ⟨t,h⟩:=B;exact Fz g h ⟨t,rfl⟩
theorem Hr {z:Str}(g:Gm X.env.scope x)(B:∃ t,X.mg x=some (UQ z t)):PE X (.Name x pos) (tC (.str z)):=by obtain ⟨t,h⟩:=B;exact Fz g h ⟨t,rfl⟩
end
section
variable {X:Cx}
end
section
variable {prog:TV}{w:TM}{A:Ub}{R:WK->TF->Prop}{E:Value->TF->Prop}{s:TF}
theorem AdK {O V L iter:TN}{B:List TN}{sc:Scope}{pos:Pos}{it:Value}{D:Addr}{env:Env}(I:Nat->TF->Prop)(turn:∀ n s,I n s->TL (TQ prog w) A (Vy it) (λr Y=>match r with
   | none=>R (.ok .next) Y
   | some v=>TL (TQ prog w) A (WH L it v) (λ_ s₂=>TL (TQ prog w) A (VE L env v) (λ_ s₃=>TL (TQ prog w) A (Hk B env) (λok s₄ =>
     if ok=true then TL (TQ prog w) A (TZ O env) (λx s₅=>TL (TQ prog w) A (TZ V env) (λy s₆=>TL (TQ prog w) A (dictSet D x y) (λ_ s₇=>∃ m,m<n/\I m s₇) (λ_ _=>False) s₆) (λ_ _=>False) s₅) (λ_ _=>False) s₄
     else ∃ m,m<n/\I m s₄) (λ_ _=>False) s₃) (λ_ _=>False) s₂) (λ_ _=>False) Y) (λ_ _=>False) s)(n:Nat)(h:I n s):U8 (TQ prog w) A (.compLoop (.DictComp O V [⟨L,iter,B,0⟩] sc pos) 0 it (.ref D) env) R s:=by
 refine Zi rfl I (λn s hI=>?_) n h;show TL _ A ((Ye (.DictComp O V [⟨L,iter,B,0⟩] sc pos) 0 it (.ref D) env).onRaise _) _ _ s;refine Zj ?_;rw [compTurn_dict];refine TR (VY (TR (Cs (turn n s hI) λr Y H=>?_)));match r,H with
 | none,H=>exact T6 H
 | some v,H =>
  refine TR (Cs H λ_ s₂ h₂=>TR (Cs h₂ λ_ s₃ h₃=>TR (Cs h₃ λok s₄ J=>?_)));match ok,J with
  | false,J=>exact T6 ⟨rfl,J⟩
  | true,J=>exact TR (TR (Cs J λx s₅ h₅=>TR (VF (Cs h₅ λy s₆ h₆=>TR (VY (VF (Cs h₆ λ_ s₇ h₇=>T6 ⟨rfl,h₇⟩)))))))
end
section
variable {X:Cx}{N':List Str}{sc:Scope}{ay:List (Option Nat)}{cl:List (Str×Addr)}{C:Addr}{fp:List Addr}{pins:List (Addr×Obj)}{s₂:TF}{H₂:Hp}{σ:St}
theorem AdL {s:TF}{H:Hp}{D:Addr}{kvs:List (Av×V)}{k:Av}{v:V}{x y:Value}{Q:Unit->TF->Prop}{E:Value->TF->Prop}(I:Ae X pins σ H s)(e:H D=some (.dK kvs))(aJ:kvs.length<sizeLine)(rk:AG (kV k) x)(L:AG v y)(q:∀ B,Ae X pins σ (upd H D (.dK (BD kvs k v))) B->Q () B):TL (TQ X.prog X.w) X.A (dictSet D x y) Q E s:=by
 obtain ⟨z,hd,vs,rel,O⟩:=AW (Jl I.af e);have Y:vs.length<=sizeLine:=by rw [<- rel.length];exact z
 have hl:(BD kvs k v).length<=sizeLine:=by have:=Jj kvs k v;omega
 refine wpAny_dictSet_pairs (hsz:=Y) (Gd rk) O λh' J hs=>q _ ?_;have he:∃ q,h'.get? D=some q:=let ⟨q,_,_,hq,_⟩:=J;⟨q,hq⟩;exact Jm I (by rw [e];exact Vl) hs he (Lm hl hd (rel.put k L) J)
theorem AdM {D:Addr}{h₁:Heap}{tk:Nat}{m:Str->Option Value}(S:Bh sc X.env.scope N' X.N ay)(I:Ae X pins σ H₂ s₂)(L:∀ x c,cl.lookup x=some c->X.env.cells.lookup x=some c)(bt:∀ y∈sc.names,y.2=.free->∃ c,cl.lookup y.1=some c)(b8:∀ b∈fp,CS X pins H₂ b)(bu:∀ b∈fp,∃ o,s₂.heap.get? b=some o)(hD:D=s₂.heap.objs.size)(hC:C=s₂.heap.objs.size+1)(hk:∀ b o,(s₂.heap.push { cls:=.type "dict",dict:=none,data:=.dict #[] }).get? b=some o->h₁.get? b=some o)(bD:h₁.Ns C m) :
  Ae (AU X N' sc cl C fp pins s₂ H₂) [] (Eg ay σ) (upd H₂ D (.dK [])) { s₂ with heap:=h₁,toks:=tk }:=by
 subst hD;have Y:s₂.heap.objs.size<=C:=by rw [hC];exact U9 _
 have ok:=Eh S I L bt Y b8 bu;have I3:Ae X pins σ (upd H₂ s₂.heap.objs.size (.dK [])) { s₂ with heap:=s₂.heap.push { cls:=.type "dict",dict:=none,data:=.dict #[] },toks:=tk }:=I.laid (t':=tk) (λb o q=>Ul _ q) (T3 _) (Lr s₂.heap I.big);have I4:Ae X pins σ (upd H₂ s₂.heap.objs.size (.dK [])) { s₂ with heap:=h₁,toks:=tk }:=I3.kept (t':=tk) hk;have B:∀ b o,s₂.heap.get? b=some o->h₁.get? b=some o:=λb o e=>hk b o (Ul _ e);have h8:∀ b o,s₂.heap.get? b=some o->b≠s₂.heap.objs.size:=λb o e=>Uq (Uc e);have eO:∀ x c,cl.lookup x=some c->∃ v o,s₂.heap.get? c=some o/\o.data=.cell v:=λx c e=>by
  obtain ⟨v,o,H,hd⟩:=Bp (I.cell x c (L x c e));exact ⟨v,o,H,hd⟩
 refine ⟨ok,rfl,I.bare,Un.laid B (T3 _) I.fresh,⟨m,bD,λi x v e1 e2 e3=>?_⟩,λx c e=>?_,?_,λx c e=>?_,λp hp=>?_,I4.af,?_⟩
 .have J:(ay[i]?).map (λo=>o.bind λj=>(σ[j]?).join)=some (some v):=by
   have:=e2;unfold Eg at this;rwa [T7] at this
  cases q:ay[i]? with
  | none=>rw [q] at J;cases J
  | some oj =>
   rw [q,U7] at J;cases oj with
   | none=>cases J
   | some j =>
    have O:(σ[j]?).join=some v:=by simpa using J
    have e5:σ[j]?=some (some v):=by
     cases z:σ[j]? with
     | none=>rw [z] at O;cases O
     | some w=>rw [z] at O;rw [<- O];rfl
    obtain ⟨x',n1,n2,n3,V⟩:=AF (S.out i j q);have cD:N'[i]?=some x:=e1;rw [n1] at cD;cases cD;obtain ⟨m2,fz,hl⟩:=Ao I.loc;have hv:GK X.env.scope x:=V.elim (λz=>.inr (.inl z)) λz=>.inr (.inr z);obtain ⟨u,r,l⟩:=Ao (hl j x v n2 e5 hv);refine ⟨u,r,.inr ⟨Jb n3,?_⟩⟩;rcases l with ⟨k,_⟩ | ⟨_,c,ec,z⟩
    .have k':X.env.scope.names.lookup x=some .local:=k;rcases V with z | z<;>rw [k'] at z<;>cases z
    .obtain ⟨c',eP⟩:=bt _ (VP n3) rfl;have:=L x c' eP;rw [ec] at this;cases this;obtain ⟨o,H,hd⟩:=Ao z;exact ⟨c,eP,o,B c o H,hd⟩
 .obtain ⟨v,o,H,hd⟩:=Bp (eO x c e);exact ⟨v,o,B c o H,hd⟩
 .show upd H₂ s₂.heap.objs.size (.dK []) C=none;rw [Ap (by rw [hC];exact XE _)];exact I.af.fresh Y
 .obtain ⟨v,o,H,hd⟩:=Bp (eO x c e);show upd H₂ s₂.heap.objs.size (.dK []) c=none;rw [Ap (h8 c o H)];exact I.cu x c (L x c e)
 .have bJ:p∈X.pn++pins:=by simpa [AU] using hp
  obtain ⟨e,n,ne,nf,d⟩:=AW (I.pin p bJ);obtain ⟨_,V,_⟩:=AW (I4.pin p bJ);exact ⟨B _ _ e,V,Uq (Ux (Uc e) Y),λz=>(T8.mp (I.cS _ z)).elim ne nf,d⟩
 .show (ay.map _).length=N'.length;rw [TU];exact S.len
def PC (ay:List (Option Nat))(wi:TI)(g:TG)(tt:TT)(tk tv:TE):TE:=λσ H Q=>wi σ H λJ H1=>∀ D,H1 D=none->∃ W:Nat->Nat->St->Hp->Prop,(∃ m,W 0 m (Eg ay σ) (upd H1 D (.dK [])))/\∀ i m σ' H',W i m σ' H' ->
 (J.stop i H'/\Q (.ref D) H')\/(J.go i H'/\∃ N:St->Hp->Prop,(∀ σ2 H2,N σ2 H2->∃ m',m'<m/\W (i+1) m' σ2 H2)/\∀ x H2,J.bU i H' x H2->g x σ' H2 λσ3 H3=>tt σ3 H3 λb H4 =>
  if b=true then tk σ3 H4 λk H5=>tv σ3 H5 λv H6=>∃ kvs kk,k=kV kk/\H6 D=some (.dK kvs)/\kvs.length<sizeLine/\N σ3 (upd H6 D (.dK (BD kvs kk v))) else N σ3 H4)
theorem AdN {kx vx tg iter:TN}{V:List TN}{sc:Scope}{ay:List (Option Nat)}{N':List Str}{pos:Pos}{wi:TI}{g:TG}{tt:TT}{te tv:TE}{s:TF}{H:Hp}{use:Option (Value->Sem Unit)}{Qv:Value->TF->Prop}{Q:VK}(hc:X.calm=true)(S:Bh sc X.env.scope N' X.N ay)(hi:PI X tg iter wi)(hg:∀ cl C fp pins s₂ H₂,PG (AU X N' sc cl C fp pins s₂ H₂) tg g)(ht:∀ cl C fp pins s₂ H₂,Ei (AU X N' sc cl C fp pins s₂ H₂) V tt)(he:∀ cl C fp pins s₂ H₂,PE (AU X N' sc cl C fp pins s₂ H₂) kx te)(hv:∀ cl C fp pins s₂ H₂,PE (AU X N' sc cl C fp pins s₂ H₂) vx tv)(hs:∀ x,VZ iter X.env x=pure x)(I:Ae X pins σ H s)(h:PC ay wi g tt te tv σ H Q)(post:∀ D C B s' m,(∀ h',UN C s'.heap h'->Ae X pins σ B { s' with heap:=h' })->Ae X pins σ B s'->s'.heap.Ns C m->(∀ x c,X.env.cells.lookup x=some c->c≠C)->X.env.locals≠C->B C=none ->
   (∀ σ' Y h',Ae X pins σ' B Y->UN C Y.heap h'->Ae X pins σ' B { Y with heap:=h' })->Q (.ref D) B->W9 (TQ X.prog X.w) X.A X.xe use Qv (.ref D) C (.ok .next) s') :
  TL (TQ X.prog X.w) X.A (Yg (.DictComp kx vx [⟨tg,iter,V,0⟩] sc pos) sc X.env (Zk [⟨tg,iter,V,0⟩] pos) newDict false (TZ iter X.env) use) Qv X.xe s:=by
 obtain ⟨cl,ic,aX,bt⟩:=K5 (env:=X.env) (sc:=sc) λy hy hf=>I.ok.has y.1 (S.frees y hy hf);refine Zl rfl hs ic S.kind S.one (Am (hi pins s σ H _ I h) λxv s₁ h₁=>Am h₁ λg5 s₂ h₂=>?_);obtain ⟨it,fp,tn,J,H₂,e,O,T,eQ,f₂,rd⟩:=Fl h₂;subst e;refine Yh (Zm S.jw (by intro y hy;simp at hy) (λh₁ bD cW=>?_) S.kind);dsimp only at bD cW ⊢;have bu:∀ b∈fp,∃ o,s₂.heap.get? b=some o:=λb hb=>let ⟨o,e,_⟩:=T.obj _ _ eQ b hb;⟨o,e⟩;have cw:(s₂.heap.push { cls:=.type "dict",dict:=none,data:=.dict #[] }).objs.size=s₂.heap.objs.size+1:=VG ..;have hk:∀ b o,(s₂.heap.push { cls:=.type "dict",dict:=none,data:=.dict #[] }).get? b=some o->h₁.get? b=some o:=λb o e=>cW.extBut b o (Uq (Uc e)) (Ul _ e);have IB:=AdM (tk:=s₂.toks+([]:List (Str×Value)).length) S O aX bt f₂ bu rfl cw hk bD;generalize (s₂.heap.push { cls:=.type "dict",dict:=none,data:=.dict #[] }).objs.size=C at cw bD cW IB ⊢;generalize hD:s₂.heap.objs.size=D at IB cw ⊢;have aR:s₂.heap.objs.size<=C:=by rw [hD,cw];exact U9 _
 obtain ⟨W,⟨m0,w0⟩,turn⟩:=Ao (rd D (by rw [<- hD];exact O.fresh));have cX:∀{B:Hp},(∀ b∈fp,B b=none)->∀ b∈fp,CS (AU X N' sc cl C fp pins s₂ H₂) [] B b:=λhn b hb=>by
  obtain ⟨z1,z2⟩:=(Eh S O aX bt aR f₂ bu).gh b hb;exact ⟨hn b hb,z1,(Eh S O aX bt aR f₂ bu).eJ b hb,.inl hb,z2,λp hp=>(f₂ b hb).2.2.2.2.2 p (by simpa [AU] using hp)⟩
 have ie:∀ b∈fp,(upd H₂ D (.dK [])) b=none:=λb hb=>by
  obtain ⟨o,ho⟩:=bu b hb;rw [Ap (by rw [<- hD];exact Uq (Uc ho))];exact (f₂ b hb).1
 have bw:tn 0 h₁:=T.keep _ _ _ eQ λb hb o e=>hk b o (Ul _ e);have loop:U8 (TQ X.prog X.w) X.A (.compLoop (.DictComp kx vx [⟨tg,iter,V,0⟩] sc pos) 0 (.ref it) (.ref D) (Yf sc cl C X.env)) (W9 (TQ X.prog X.w) X.A X.xe use Qv (.ref D) C) { s₂ with heap:=h₁,toks:=s₂.toks+([]:List (Str×Value)).length }:=by
  refine AdK (λn s'=>∃ i σ' B,Ae (AU X N' sc cl C fp pins s₂ H₂) [] σ' B s'/\tn i s'.heap/\(∀ b∈fp,B b=none)/\W i n σ' B) ?_ m0 ⟨0,_,_,IB,bw,ie,w0⟩;rintro n s3 ⟨i,σ3,H3,I3,cU,cV,w3⟩;rcases turn i n σ3 H3 w3 with ⟨stop,qn⟩ | ⟨go,N,hN,Vk⟩
  .refine Am (T.done (AU X N' sc cl C fp pins s₂ H₂) rfl rfl rfl hc i [] s3 σ3 H3 _ I3 (cX cV) cU stop) λr s4 ⟨hr,I4⟩=>?_;subst hr;have JX:=K6 O f₂ I4;obtain ⟨m,hn,_⟩:=Ao I4.loc;have cn:∀ x c,X.env.cells.lookup x=some c->c≠C:=λx c e z=>by
    obtain ⟨v,q⟩:=O.cell x c e;exact absurd (Ux q.lt (by rw [z];exact aR)) (Vi _)
   have gone:∀ σ' Y h',Ae X pins σ' H3 Y->UN C Y.heap h'->Ae X pins σ' H3 { Y with heap:=h' }:=λσ' Y h' K3 ig =>
    K3.turned (t':=Y.toks) (it:=C) (λb o hb e=>(ig.2 b hb).trans e) I4.free (Wd (Ux O.lt aR)) (.inr (UM O.sz aR)) cn λp hp z=>by
     exact absurd (Ux (Uc (O.pin p hp).1) (by rw [z];exact aR)) (Vi _)
   exact post D C H3 s4 m (λh' hs'=>gone σ s4 h' JX hs') JX hn cn (Uq (Ux O.lt aR)) I4.free gone qn
  .refine Am (T.item (AU X N' sc cl C fp pins s₂ H₂) rfl rfl rfl hc i [] s3 σ3 H3 _ I3 (cX cV) cU go) λr s4 L=>Ct L λu hr h4=>?_;subst hr;refine Am h4 λ_ s5 L=>AH L λx H5 I5 r5 ⟨y5,bZ,fu⟩=>?_;have fv:=I5.pinned (cX fu) (T.obj _ _ bZ);refine Am (hg cl C fp pins s₂ H₂ _ s5 σ3 H5 x u _ fv r5 (Vk x H5 y5)) λ_ s6 L=>GG L λσ6 H6 I6 q6=>?_;refine Am (ht cl C fp pins s₂ H₂ _ s6 σ6 H6 _ I6 q6) λok s7 L=>Ct L λH7 I7 q7=>?_;have again:∀{H8:Hp}{s8:TF},Ae (AU X N' sc cl C fp pins s₂ H₂) ([]++Fo fp s5.heap) σ6 H8 s8->N σ6 H8->∃ m,m<n/\∃ i σ' B,Ae (AU X N' sc cl C fp pins s₂ H₂) [] σ' B s8/\tn i s8.heap/\(∀ b∈fp,B b=none)/\W i m σ' B:=λ{H8 s8} I8 n8=>by
    obtain ⟨m',hm,w8⟩:=Ao (hN σ6 H8 n8);refine ⟨m',hm,i+1,σ6,H8,I8.gn,T.keep _ _ _ bZ λb hb o e=>(I8.pin (b,o) (UD _ (UD _ (EC hb e)))).1,λb hb=>?_,w8⟩;obtain ⟨o,e,d⟩:=Ao (T.obj _ _ bZ b hb);exact (I8.pin (b,o) (UD _ (UD _ (EC hb e)))).2.1
   cases ok with
   | false=>exact again I7 q7
   | true =>
    refine Am (he cl C fp pins s₂ H₂ _ s7 σ6 H7 _ I7 q7) λy s8 L=>AH L λv H8 I8 r8 q8=>?_;refine Am (hv cl C fp pins s₂ H₂ _ s8 σ6 H8 _ I8 q8) λy' s9 L=>AH L λv' H9 I9 r9 q9=>?_;replace q9:=Bk q9;obtain ⟨kvs,kk,rfl,hy,aJ,n9⟩:=q9
    exact AdL (X:=AU X N' sc cl C fp pins s₂ H₂) I9 hy aJ r8 r9 λs10 I10=>again I10 n9
 exact codeAny_compStart_dict loop (T.self _ 0 _ _ _ bw loop)
theorem PD {V Y L iter:TN}{B:List TN}{sc:Scope}{ay:List (Option Nat)}{N':List Str}{pos:Pos}{wi:TI}{g:TG}{tt:TT}{te tv:TE}(hc:X.calm=true)(S:Bh sc X.env.scope N' X.N ay)(hi:PI X L iter wi)(hg:∀ cl C fp pins s₂ H₂,PG (AU X N' sc cl C fp pins s₂ H₂) L g)(ht:∀ cl C fp pins s₂ H₂,Ei (AU X N' sc cl C fp pins s₂ H₂) B tt)(he:∀ cl C fp pins s₂ H₂,PE (AU X N' sc cl C fp pins s₂ H₂) V te)(hv:∀ cl C fp pins s₂ H₂,PE (AU X N' sc cl C fp pins s₂ H₂) Y tv)(hs:∀ x,VZ iter X.env x=pure x:=by intro _;rfl):PE X (.DictComp V Y [⟨L,iter,B,0⟩] sc pos) (PC ay wi g tt te tv):=by intro pins s σ H Q I h;rw [arm_eval_DictComp];refine AdN (use:=none) (Q:=Q) hc S hi hg ht he hv hs I h λD C H' s' m g1 J hn cn ln fr g2 q=>?_;exact ⟨m,hn,λh' O=>⟨.ref D,H',g1 h' O,rfl,q⟩⟩
end
structure LG (P:TV)(w:TM)(K:TH)(a:Addr)(kvs:List (Av×V)):Prop where
 lo:(a == Vh)=false
 sz:kvs.length<=sizeLine
 o8:∃ o vs ep,K.lookup a=some o/\KV kvs vs/\∀ h:Heap,h.get? a=some o->h.DictAt (Br P w) a vs ep
def Gg (P:TV)(w:TM)(K:TH)(H:Hp)(a:Addr)(kvs:List (Av×V)):Prop:=Rd H a (.dK kvs)\/LG P w K a kvs
theorem Gg.of {P:TV}{w:TM}{K:TH}{H:Hp}{a:Addr}{kvs:List (Av×V)}(h:H a=some (.dK kvs)):Gg P w K H a kvs:=.inl (.inl h)
theorem PF {P:TV}{w:TM}{k:Av}{u:Value}(h:(Br P w).is k u=true):AG (kV k) u:=by
 rw [Aag] at h;cases k with
 | inl i =>
  show ∃ t,u=U3 i t;cases u<;>simp [DO,YD] at h;rename_i j t
  exact ⟨t,by rw [h]⟩
 | inr x =>
  show ∃ t,u=UQ x t;cases u<;>simp [DO,XM] at h;rename_i j t
  exact ⟨t,by rw [h]⟩
section
variable {X:Cx}{pins:List (Addr×Obj)}{σ:St}{H:Hp}{s:TF}{a:Addr}{kvs:List (Av×V)}{P:TV}{w:TM}{K:TH}
theorem LH (I:Ae X pins σ H s)(e:Gg X.prog X.w X.K H a kvs):kvs.length<=sizeLine/\(a == Vh)=false/\∃ vs,KV kvs vs/\s.heap.DictOf (Br X.prog X.w) a vs:=by
 rcases e with e | e
 .exact Pd I.af e
 .obtain ⟨o,vs,B,l,r,d⟩:=Dh e.o8;exact ⟨e.sz,e.lo,vs,r,(d _ (I.bk _ _ (I.mod.eI _ _ l))).dictOf⟩
def AdO (P:TV)(w:TM)(K:TH)(neg:Bool):R2:=λx y H Q=>∃ a kvs k,y=.ref a/\x=kV k/\Gg P w K H a kvs/\Q (.bl (if neg then !(Bj kvs k).isSome else (Bj kvs k).isSome)) H
theorem Hs (B:X.prog=P:=by rfl)(hw:X.w=w:=by rfl)(D:X.K=K:=by rfl):A8 X (UJ .NotIn) (AdO P w K true):=by
 subst B hw D;intro pins s σ H x y v u Q I J L h;replace h:=Dh h;obtain ⟨a,kvs,k,rfl,rfl,e,q⟩:=h
 cases (show u=Uz a from L);obtain ⟨z,hd,vs,rel,O⟩:=AW (LH I e);refine wpAny_notIn_of (Gd J) hd O.mapOf ?_;rw [<- (rel.val k).oV];exact ⟨.bl (!(Bj kvs k).isSome),H,I.tok _,rfl,q⟩
def PH (P:TV)(w:TM)(K:TH)(td ty:TE):TE:=λσ H Q=>td σ H λx H1=>ty σ H1 λy H2=>∃ a kvs k v,x=.ref a/\y=kV k/\Gg P w K H2 a kvs/\Bj kvs k=some v/\Q v H2
theorem AdP {o i:TN}{pos:Pos}{D ty:TE}(O:PE X o D)(Y:PE X i ty)(hs:Lp i)(hP:X.prog=P:=by rfl)(hw:X.w=w:=by rfl)(hK:X.K=K:=by rfl):PE X (.Subscript o i pos) (PH P w K D ty):=by subst hP hw hK;intro pins s σ H Q I h;refine AcZ PySem.F.slot_dict_getitem.lookup hs (Am (O pins s σ H _ I h) λu s1 B=>AH B λx H1 I1 rx q1=>Am (Y pins s1 σ H1 _ I1 q1) λiv s2 B=>AH B λy H2 J ry ⟨a,kvs,k,v,ex,ey,g,l,q2⟩=>?_);subst ex ey;obtain rfl:u=Uz a:=rx;obtain ⟨z,hd,vs,rel,L⟩:=AW (LH J g);obtain ⟨w',hw,bV⟩:=Ao (CP.some_of (v:=v) (o:=WW vs k) (by rw [<- l];exact rel.val k));exact ⟨L.typeIs,wpAny_getItem_of (Gd ry) L.mapOf hw ⟨v,H2,J.tok _,bV,q2⟩⟩
theorem BU (P:TV)(w:TM)(K:TH){X:Cx}{o i:TN}{pos:Pos}{B ty:TE}(D:PE X o B)(I:PE X i ty)(hs:Lp i:=by exact λ_ _=>rfl)(J:X.prog=P:=by rfl)(hw:X.w=w:=by rfl)(L:X.K=K:=by rfl):PE X (.Subscript o i pos) (PH P w K B ty):=AdP D I hs J hw L
end
section
variable {K:TH}{D:Addr}{kvs:List (Av×V)}{g:TG}{tt:TT}{tk tv:TE}{σ0:St}{H:Hp}{Q:Hp->Prop}{a:Addr}{xs:List V}
abbrev PK (D:Addr)(tt:TT)(tk tv:TE)(N:St->Hp->Prop):St->Hp->Prop:=λσ3 H3=>tt σ3 H3 λb H4 =>
 if b=true then tk σ3 H4 λk H5=>tv σ3 H5 λv H6=>∃ kvs kk,k=kV kk/\H6 D=some (.dK kvs)/\kvs.length<sizeLine/\N σ3 (upd H6 D (.dK (BD kvs kk v))) else N σ3 H4
end
end L2
set_option maxHeartbeats 4000000
namespace L2
open PySem PySem.Spec PyProof.Rows Builtin Builtin.Str
section
variable {X:Cx}
end
end L2
namespace L2
open PySem PySem.Spec PyProof.Rows
section
variable {K:TH}{a D:Addr}{xs:List V}{g:TG}{tt:TT}{te:TE}{σ0:St}{H:Hp}{Q:Hp->Prop}
end
section
variable {prog:TV}{w:TM}{A:Ub}{E:Value->TF->Prop}{s:TF}
theorem AdQ {j t:Addr}{i:Nat}{its:Array Value}{x:Value}{Q:Value->TF->Prop}(H:s.heap.IsTupleIter j t i)(I:s.heap.IsTuple t its)(hx:its[i]?=some x)(q:∀ g,g.IsTupleIter j t (i+1)->UN j s.heap g->Q x { s with heap:=g }):TL (TQ prog w) A (Yo (.ref j)) Q E s:=by obtain ⟨o,D,J,B⟩:=AF (id H);obtain ⟨u,f1,_,n,L⟩:=AF I;unfold Yo;refine TR (Yp (name:=TK "__next__") H.typeIs Yq (Xc Yq H.typeIs uz ?_ (uA _)));show TL _ _ (Wx (.ref j) 0 >>= _) _ _ s;refine TR (VS D B (x:=.ref t) rfl ?_);show TL _ _ (if (Uz t == Vc)=true then _ else _) _ _ s;rw [if_neg (show ¬ ((Uz t == Vc)=true) from UG)];show TL _ _ (Wx (.ref j) 1 >>= _) _ _ s;refine TR (VS D B (x:=.int i 0) rfl ?_);show TL _ _ (seqItems? (.ref t) >>= _) _ _ s;refine TR (uB f1 L ?_);simp only [Vo,hx];refine TR (uC D B (by simp) (T6 ⟨x,rfl,T6 (q _ ⟨_,Y3 _ D (Obj.isFreed_of_fields (uD B _)),(Obj.cls_mapFields ..).trans J,?_⟩ (Yn ..))⟩));rw [uD B];simp [WI]
theorem AdR {j t:Addr}{i:Nat}{its:Array Value}{Q:Value->TF->Prop}(I:A.handled=none)(B:s.heap.IsTupleIter j t i)(J:s.heap.IsTuple t its)(hx:its[i]?=none)(q:∀ g e,Heap.ExtBut j s.heap g->(∃ o,g.get? e=some o/\o.cls=.type "StopIteration")->E (.ref e) { s with heap:=g }):TL (TQ prog w) A (Yo (.ref j)) Q E s:=by
 obtain ⟨o,D,O,H⟩:=AF (id B);obtain ⟨u,f1,_,n,L⟩:=AF J;unfold Yo;refine TR (Yp (name:=TK "__next__") B.typeIs Yq (Xc Yq B.typeIs uz ?_ (uA _)));show TL _ _ (Wx (.ref j) 0 >>= _) _ _ s;refine TR (VS D H (x:=.ref t) rfl ?_);show TL _ _ (if (Uz t == Vc)=true then _ else _) _ _ s;rw [if_neg (show ¬ ((Uz t == Vc)=true) from UG)];show TL _ _ (Wx (.ref j) 1 >>= _) _ _ s;refine TR (VS D H (x:=.int i 0) rfl ?_);show TL _ _ (seqItems? (.ref t) >>= _) _ _ s;refine TR (uB f1 L ?_);simp only [Vo,hx];refine TR (Xe (TR (uC D H (by simp) ?_)));show TL _ _ (newExc (.type "StopIteration") [] >>= _) _ _ _;refine TR ?_;simp only [newExc,newTuple];refine TR (Yh ?_ (by size_fits));refine TR (m:=uE _ _) (wpAny_of_eq (a:=Vc) (by first | rfl | (simp only [uE];rfl)) ?_);refine Yh ?_ (by size_fits);simp only [raiseNew];refine TR (wpAny_handled ?_);first | rw [show A.in1.handled=none from I] | rw [I]
 refine TR (T6 (wpAny_throw ?_));exact q _ _ (((Yn ..).extBut.push _).push _) ⟨_,U2 _ rfl,rfl⟩
theorem AdS {e j t:Addr}{i:Nat}{its:Array Value}{x B:Value}{Q:Value->TF->Prop}(he:VA s.heap e j i B)(hj:s.heap.IsTupleIter j t i)(ht:s.heap.IsTuple t its)(hx:its[i]?=some x)(ne:e≠j)(q:∀ g,Yr g e j ((i:Int)+1) x s.heap.objs.size->g.IsTupleIter j t (i+1)->g.get? s.heap.objs.size=some { cls:=.type "tuple",data:=.seq #[.int i s.toks,x] }->g.objs.size=s.heap.objs.size+1 ->
   (∀ b o,b≠e->b≠j->s.heap.get? b=some o->g.get? b=some o)->Q (.ref s.heap.objs.size) { s with heap:=g,toks:=s.toks+1 }) :
  TL (TQ prog w) A (Builtin.«enumerate.__next__» ⟨[.ref e],[]⟩) (λfin s'=>∃ v,fin=.done (.ret v)/\Q v s') E s:=by
 obtain ⟨H,I,J,D,os⟩:=s;show TL _ _ (Wx (.ref e) 2 >>= _) _ _ _;refine TR (VS he rfl (x:=.ref j) rfl (TR (AdQ hj ht hx λL j1 Y=>?_)));replace Y:UN j H L:=Y
 have E1:VA L e j i B:=(Y.2 e ne).trans he;show TL _ _ (Wx (.ref e) 3 >>= _) _ _ ⟨L,I,J,D,os⟩;refine TR (VS E1 rfl (x:=WI i) rfl ?_);show TL _ _ (Wx (.ref e) 4 >>= _) _ _ ⟨L,I,J,D,os⟩;refine TR (VS E1 rfl (x:=.none) rfl ?_);show TL _ _ (mkInt i >>= _) _ _ ⟨L,I,J,D,os⟩;refine TR (wpAny_mkInt ?_);show TL _ _ (setField (.ref e) 3 (WI ((i:Int)+1)) >>= _) _ _ ⟨L,I,J,D+1,os⟩;refine TR (XH E1 (by simp) λa2 E2 s2=>?_);replace s2:UN e L a2:=s2
 replace E2:VA a2 e j ((i:Int)+1) B:=E2
 show TL _ _ (setField (.ref e) 4 .none >>= _) _ _ ⟨a2,I,J,D+1,os⟩;refine TR (XH E2 (by simp) λO E3 s3=>?_);replace s3:UN e a2 O:=s3
 replace E3:VA O e j ((i:Int)+1) B:=E3
 show TL _ _ (newTuple [.int i D,x] >>= _) _ _ ⟨O,I,J,D+1,os⟩;refine TR (um ?_);have E4:VA (O.push { cls:=.type "tuple",data:=.seq #[.int i D,x] }) e j ((i:Int)+1) B:=Ul _ E3;generalize e4:O.push { cls:=.type "tuple",data:=.seq #[.int i D,x] }=a4 at E4;have z3:O.objs.size=H.objs.size:=by rw [s3.1,s2.1,Y.1]
 have le:e<H.objs.size:=Uc he;have T4:a4.get? H.objs.size=some { cls:=.type "tuple",data:=.seq #[.int i D,x] }:=by rw [<- e4,<- z3];exact U2 _ rfl
 have z4:a4.objs.size=H.objs.size+1:=by rw [<- e4,VG,z3]
 have k4:∀ b o,b≠e->b≠j->H.get? b=some o->a4.get? b=some o:=λb o V n2 hb=>by
  rw [<- e4];exact Ul _ (s3.extBut b o V (s2.extBut b o V (Y.extBut b o n2 hb)))
 have j4:a4.IsTupleIter j t (i+1):=by rw [<- e4];obtain ⟨o,ho,r⟩:=Ao ((j1.extBut s2.extBut (Uj ne)).extBut s3.extBut (Uj ne));exact ⟨o,Ul _ ho,r⟩
 show TL _ _ (uF (.ref e) >>= _) _ _ ⟨a4,I,J,D+1,os⟩;rw [z3];clear e4 E3 s3 E2 s2 E1 Y j1 z3 O a2 L
 refine TR ?_;unfold uF;refine TR (VS E4 rfl (x:=.none) rfl (T6 ?_));simp only [if_true];refine TR (Xe (TR (VS E4 rfl (x:=B) rfl (TR (XH E4 (by simp) λa5 E5 s5=>?_)))));replace s5:UN e a4 a5:=s5
 replace E5:VA a5 e j ((i:Int)+1) x:=E5
 show TL _ _ (uG (.ref e) (.ref H.objs.size) >>= _) _ _ ⟨a5,I,J,D+1,os⟩;refine TR ?_;unfold uG;refine TR (XH E5 (by simp) λa6 E6 s6=>?_);replace s6:UN e a5 a6:=s6
 replace E6:Yr a6 e j ((i:Int)+1) x H.objs.size:=E6
 refine XH E6 (by simp) λa7 E7 s7=>?_;replace s7:UN e a6 a7:=s7
 replace E7:Yr a7 e j ((i:Int)+1) x H.objs.size:=E7
 refine TR (wpAny_letGo (T6 ⟨_,rfl,q a7 E7 ?_ ?_ ?_ ?_⟩))
 .exact ((j4.extBut s5.extBut (Uj ne)).extBut s6.extBut (Uj ne)).extBut s7.extBut (Uj ne)
 .exact s7.extBut _ _ (Wd le) (s6.extBut _ _ (Wd le) (s5.extBut _ _ (Wd le) T4))
 .rw [s7.1,s6.1,s5.1,z4]
 .exact λb o V n2 hb=>s7.extBut b o V (s6.extBut b o V (s5.extBut b o V (k4 b o V n2 hb)))
theorem AdT {e j t:Addr}{i:Nat}{its:Array Value}{x B:Value}{Q:Option Value->TF->Prop}(D:VA s.heap e j i B)(H:s.heap.IsTupleIter j t i)(I:s.heap.IsTuple t its)(hx:its[i]?=some x)(ne:e≠j)(q:∀ g,Yr g e j ((i:Int)+1) x s.heap.objs.size->g.IsTupleIter j t (i+1)->g.get? s.heap.objs.size=some { cls:=.type "tuple",data:=.seq #[.int i s.toks,x] }->g.objs.size=s.heap.objs.size+1 ->
   (∀ b o,b≠e->b≠j->s.heap.get? b=some o->g.get? b=some o)->Q (some (.ref s.heap.objs.size)) { s with heap:=g,toks:=s.toks+1 }):TL (TQ prog w) A (Vy (.ref e)) Q E s:=by
 have ty:s.TypeIs (.ref e) "enumerate":=⟨_,D,rfl⟩;unfold Vy;exact TR (wpAny_attempt (Yp (name:=TK "__next__") ty Ys (Xc Ys ty uH (AdS D H I hx ne λg a b c d k=>T6 (q g a b c d k)) (uI _))))
theorem AdU {e j t:Addr}{i:Nat}{its:Array Value}{B:Value}{Q:Option Value->TF->Prop}(H:A.handled=none)(D:VA s.heap e j i B)(I:s.heap.IsTupleIter j t i)(J:s.heap.IsTuple t its)(hx:its[i]?=none)(q:∀ g,Heap.ExtBut j s.heap g->Q none { s with heap:=g }):TL (TQ prog w) A (Vy (.ref e)) Q E s:=by have ty:s.TypeIs (.ref e) "enumerate":=⟨_,D,rfl⟩;unfold Vy;refine TR (wpAny_attempt (Yp (name:=TK "__next__") ty Ys (Xc Ys ty uH ?_ (uI _))));show TL _ _ (Wx (.ref e) 2 >>= _) _ _ _;refine TR (VS D rfl (x:=.ref j) rfl (TR (AdR H I J hx λg y L O=>Ct O λo V hc=>?_)));exact TR (wpAny_isInstance (T:="StopIteration") (b:=true) ⟨o,V,hc⟩ isSubtype_stop (T6 (q _ L)))
end
theorem AdV (t:Addr)(its:Array Value)(o:Obj)(hc:o.cls=.type "tuple")(n:Nat)(hd:o.data=.seq its n) :
  Meets (Builtin.«enumerate.__new__» ⟨[.type "enumerate",.ref t],[]⟩) (λ_ R s=>s.heap.get? t=some o /\
   R (.ok (.ret (.ref (s.heap.push { cls:=.type "tuple_iterator",data:=.fields #[.ref t,.int 0 0] }).objs.size)))
    { s with heap:=(s.heap.push { cls:=.type "tuple_iterator",data:=.fields #[.ref t,.int 0 0] }).push { cls:=.type "enumerate",data:=.fields #[.none,.bool false,.ref s.heap.objs.size,WI 0,.none,.none] } }) :=
 .of_wp λprog w A R s h=>by
  obtain ⟨c,Y,H,sl⟩:=o;replace hc:c=.type "tuple":=hc
  replace hd:H=.seq its n:=hd
  subst hc hd;obtain ⟨I,J,L,O,os⟩:=s;obtain ⟨B,h⟩:=h;have V:=sub_enumerate;have D:Heap.IsTuple (Shared.heap ⟨I,J,L,O,os⟩) t its:=⟨_,B,rfl,n,rfl⟩;wp_walk using ZD B
  refine wpAny_stack_any λst=>T6 ?_;split
  .rename_i c _ _ _ _ _
   cases (c == Xi "enumerate")<;>(wp_walk using ZD B,YN D;exact ⟨_,rfl,h⟩)
  .wp_walk using ZD B,YN D
   exact ⟨_,rfl,h⟩
section
variable {prog:TV}{w:TM}{A:Ub}{E:Value->TF->Prop}{s:TF}
theorem AdW {t:Addr}{its:Array Value}{Q:Value->TF->Prop}(H:s.heap.IsTuple t its)(h:∀ g,VA g (s.heap.objs.size+1) s.heap.objs.size 0 .none->g.IsTupleIter s.heap.objs.size t 0->g.objs.size=s.heap.objs.size+2->(∀ b o,s.heap.get? b=some o->g.get? b=some o)->Q (.ref (s.heap.objs.size+1)) { s with heap:=g }) :
  TL (TQ prog w) A (call (.type "enumerate") [.ref t]) Q E s:=by
 obtain ⟨o,I,hc,n,hd⟩:=AF H;refine callType_new F.called_enumerate (by decide) (F.typeCall_enumerate_1 _) (F.newCall_enumerate_1 _) (λobj=>F.args_object_init_2 obj _) F.entry_enumerate_new (AdV t its o hc n hd) ⟨I,?_⟩;have B:(s.heap.push { cls:=.type "tuple_iterator",data:=.fields #[.ref t,.int 0 0] }).objs.size=s.heap.objs.size+1:=VG ..;show _/\_;rw [B];have D:VA ((s.heap.push { cls:=.type "tuple_iterator",data:=.fields #[.ref t,.int 0 0] }).push { cls:=.type "enumerate",data:=.fields #[.none,.bool false,.ref s.heap.objs.size,WI 0,.none,.none] }) (s.heap.objs.size+1) s.heap.objs.size 0 .none:=by have:=U2 (s.heap.push { cls:=.type "tuple_iterator",data:=.fields #[.ref t,.int 0 0] }) (o:={ cls:=.type "enumerate",data:=.fields #[.none,.bool false,.ref s.heap.objs.size,WI 0,.none,.none] }) rfl;rw [B] at this;exact this
 exact ⟨⟨_,D,rfl⟩,h _ D ⟨_,Ul _ (U2 _ rfl),rfl,rfl⟩ (by rw [VG,B]) λb o x=>Ul _ (Ul _ x)⟩
end
section
variable {X:Cx}{pins:List (Addr×Obj)}{σ:St}{H:Hp}{s:TF}{h':Heap}
noncomputable def Ht (K:TH)(a:Addr):It :=
 ⟨λi H=>∃ xs x,Bl K H a xs/\xs[i]?=some x,λi H x H'=>∃ t y,x=.ref t/\H t=none/\H'=upd H t (.tup [.int i,y])/\∀ xs,Bl K H a xs->xs[i]?=some y,λi H=>∃ xs,Bl K H a xs/\xs.length<=i⟩
theorem AdX {P:TV}{w:TM}{K:TH}{L:List TN}{kk:Nat}{pos:Pos}(a e it:Addr)(ik:e≠it):EB P w K (.Tuple L kk pos) (Ht K a) [e,it] e (λi h=>(∃ B,VA h e it i B)/\h.IsTupleIter it a i) where
 mem:=by simp
 obj:=λi h st b hb=>by
  obtain ⟨⟨B,D⟩,⟨o,V,c,d⟩⟩:=st;rcases T8.mp hb with z | z
  .subst z;exact ⟨_,D,λv z=>by cases z⟩
  .have z:b=it:=by simpa using z
   subst z;exact ⟨o,V,λv z=>by rw [d] at z;cases z⟩
 keep:=λi h h' st k=>by
  obtain ⟨⟨B,D⟩,hi⟩:=st;exact ⟨⟨B,k e (by simp) _ D⟩,hi.at λo q=>k it (by simp) o q⟩
 item:=by
  intro X Y hw hK hc i pins s σ H E I O st hg;subst Y hw hK;obtain ⟨xs,x,hq,hx⟩:=Bp hg;obtain ⟨its,rv,p,hz⟩:=AF (I.tuple hq);obtain ⟨u,hu,ru⟩:=Ao (rv.get hx);obtain ⟨⟨B,D⟩,J⟩:=st;refine AdT D J p (x:=u) (by simpa using hu) ik λh' V kD hT hsz hk=>⟨_,rfl,?_⟩;have I1:Ae X pins σ (upd H s.heap.objs.size (.tup [.int i,x])) { s with heap:=h',toks:=s.toks+1 } :=
   I.oU (ch:=[e,it]) (us:=[.int i s.toks,u]) O (λb o hb q=>hk b o (λz=>hb (by simp [z])) (λz=>hb (by simp [z])) q) (T3 _)
    (λb hb=>by
     rcases T8.mp hb with z | z
     .subst z;exact ⟨_,D⟩
     .have z:b=it:=by simpa using z
      subst z;obtain ⟨o,q,_⟩:=Ao J;exact ⟨o,q⟩) hT (.cons ⟨_,rfl⟩ (.cons ru .nil)) Aw
  have fr:∀ b∈[e,it],(upd H s.heap.objs.size (.tup [.int i,x])) b=none:=λb hb=>by
   have au:b<s.heap.objs.size:=by
    rcases T8.mp hb with z | z
    .subst z;exact Uc D
    .have z:b=it:=by simpa using z
     subst z;obtain ⟨o,q,_⟩:=Ao J;exact Uc q
   rw [Ap (Uq au)];exact (O b hb).1
  refine tY V λh2 kE bC=>?_;obtain ⟨f0,f1,f2,f3,f4,f5⟩:=AW (O e (by simp));have I2:Ae X pins σ (upd H s.heap.objs.size (.tup [.int i,x])) { s with heap:=h2,toks:=s.toks+1 }:=I1.turned (t':=s.toks+1) (λb o hb q=>(bC.2 b hb).trans q) (fr e (by simp)) f1 f3 f4 f5;refine ⟨.ref s.heap.objs.size,_,I2,rfl,⟨_,x,rfl,I.fresh,rfl,λys hy=>by rw [I.oH hy hq];exact hx⟩,⟨⟨u,kE⟩,?_⟩,fr⟩;exact kD.at λo q=>(bC.2 it ik.symm).trans q
 done:=by intro X Y hw hK hc i pins s σ H E I O st hg;subst Y hw hK;obtain ⟨xs,hq,hx⟩:=Ao hg;obtain ⟨its,rv,p,hz⟩:=AF (I.tuple hq);obtain ⟨⟨B,D⟩,J⟩:=st;obtain ⟨f0,f1,f2,f3,f4,f5⟩:=AW (O it (by simp));have hl:=rv.length;exact AdU (I.ok.hd hc) D J p (by simp;omega) λh' eb=>⟨rfl,I.turned (t':=s.toks) (λb o hb q=>eb b o hb q) f0 f1 f3 f4 f5⟩
 self:=λ_ _ _ _ _ st h=>by
  obtain ⟨⟨B,D⟩,_⟩:=st;exact Yi D h
def AdY (K:TH)(ta:TA):TI:=λσ H R=>ta σ H λvs H1=>∃ a xs,vs=[.ref a]/\Bl K H1 a xs/\R (Ht K a) H1
theorem AdZ {x:TN}{O:TA}{p pos tp:Pos}{J:List TN}{kk:Nat}(g:Gm X.env.scope "enumerate")(hm:X.mg "enumerate"=none)(ha:PA X [x] O)(hs:T2 [x] X.env=[(false,TZ x X.env)]:=by rfl) :
  PI X (.Tuple J kk tp) (.Call (.Name "enumerate" p) [x] [] pos) (AdY X.K O):=by
 intro pins s σ H R I h;refine Call_ (Fm I g.gl hm O2 (Xp (Am (ha pos pins s σ H _ I h) λus B zz=>AH zz λvs V D r1 q1=>?_) hs rfl));obtain ⟨a,xs,e,hq,q⟩:=Bk q1;subst e;cases r1 with
 | cons r rr =>
  cases rr;cases r;obtain ⟨its,rv,pl,hz⟩:=AF (D.tuple hq);refine AdW pl λh' Y L hsz hk=>?_;refine Yi Y ?_;have kF:V (B.heap.objs.size+1)=none:=D.af.fresh (U9 _);refine ⟨B.heap.objs.size+1,[B.heap.objs.size+1,B.heap.objs.size],_,_,V,rfl,D.kept (t':=B.toks) hk,AdX a _ _ (XE _),⟨⟨_,Y⟩,L⟩,λb hb=>?_,q⟩;rcases T8.mp hb with z | z
  .subst z;exact D.dI (U9 _) kF
  .have z:b=B.heap.objs.size:=by simpa using z
   subst z;exact D.dI (T3 _) D.fresh
end
section
variable {K:TH}{a D:Addr}{xs:List V}{g:TG}{tt:TT}{tk tv:TE}{σ0:St}{H:Hp}{Q:Hp->Prop}
theorem Ad0 (Pv:Nat->St->Hp->Prop)(h0:Pv 0 σ0 (upd H D (.dK [])))(hl:∀ i σ H,i<=xs.length->Pv i σ H->Bl K H a xs)(hs:∀ i x t σ B,xs[i]?=some x->Pv i σ B->B t=none->g (.ref t) σ (upd B t (.tup [.int i,x])) (PK D tt tk tv (Pv (i+1))))(hd:∀ σ B,Pv xs.length σ B->Q B) :
  ∃ W:Nat->Nat->St->Hp->Prop,(∃ m,W 0 m σ0 (upd H D (.dK [])))/\∀ i m σ' B,W i m σ' B ->
   ((Ht K a).stop i B/\Q B)\/((Ht K a).go i B/\∃ N:St->Hp->Prop,(∀ σ2 I,N σ2 I->∃ m',m'<m/\W (i+1) m' σ2 I)/\∀ x I,(Ht K a).bU i B x I->g x σ' I λσ3 H3=>tt σ3 H3 λb L =>
    if b=true then tk σ3 L λk H5=>tv σ3 H5 λv O=>∃ kvs Y,k=kV Y/\O D=some (.dK kvs)/\kvs.length<sizeLine/\N σ3 (upd O D (.dK (BD kvs Y v))) else N σ3 L):=by
 refine ⟨λi m σ H=>m=xs.length - i/\i<=xs.length/\Pv i σ H,⟨xs.length,by simp,UH _,h0⟩,?_⟩;rintro i m σ J ⟨rfl,hi,p⟩;have q:=hl i σ J hi p;by_cases au:i<xs.length
 .refine .inr ⟨⟨xs,xs[i],q,by simp [au]⟩,Pv (i+1),λσ' B p'=>⟨xs.length - (i+1),by omega,rfl,au,p'⟩,λx B y=>?_⟩;replace y:=Bk y;obtain ⟨t,y,rfl,ht,rfl,hy⟩:=y
  exact hs i y t σ J (hy xs q) p ht
 .have e:i=xs.length:=by omega
  subst e;exact .inl ⟨⟨xs,q,T3 _⟩,hd σ J p⟩
theorem Ad1 (Pv:Nat->St->Hp->Prop)(h0:Pv 0 σ0 (upd H D (.dK [])))(hl:∀ i σ H,i<=xs.length->Pv i σ H->Bl K H a xs)(hs:∀ i x σ B,xs[i]?=some x->Pv i σ B->g x σ B (PK D tt tk tv (Pv (i+1))))(hd:∀ σ B,Pv xs.length σ B->Q B) :
  ∃ W:Nat->Nat->St->Hp->Prop,(∃ m,W 0 m σ0 (upd H D (.dK [])))/\∀ i m σ' B,W i m σ' B ->
   ((GU K a).stop i B/\Q B)\/((GU K a).go i B/\∃ N:St->Hp->Prop,(∀ σ2 I,N σ2 I->∃ m',m'<m/\W (i+1) m' σ2 I)/\∀ x I,(GU K a).bU i B x I->g x σ' I λσ3 H3=>tt σ3 H3 λb J =>
    if b=true then tk σ3 J λk H5=>tv σ3 H5 λv L=>∃ kvs O,k=kV O/\L D=some (.dK kvs)/\kvs.length<sizeLine/\N σ3 (upd L D (.dK (BD kvs O v))) else N σ3 J):=by
 refine ⟨λi m σ H=>m=xs.length - i/\i<=xs.length/\Pv i σ H,⟨xs.length,by simp,UH _,h0⟩,?_⟩;rintro i m σ Y ⟨rfl,hi,p⟩;have q:=hl i σ Y hi p;by_cases au:i<xs.length
 .refine .inr ⟨⟨xs,xs[i],q,by simp [au]⟩,Pv (i+1),λσ' B p'=>⟨xs.length - (i+1),by omega,rfl,au,p'⟩,λx B y=>?_⟩;obtain ⟨rfl,hy⟩:=y;exact hs i x σ _ (hy xs q) p
 .have e:i=xs.length:=by omega
  subst e;exact .inl ⟨⟨xs,q,T3 _⟩,hd σ Y p⟩
end
def PL (cs:List Addr)(m:Str)(sp:Sp)(E:XK)(ta:TE)(t:TA):TE:=λσ H Q=>ta σ H λx H1=>∃ a C dx fs,x=.ref a/\C∈cs/\H1 a=some (.ins C dx fs)/\fs.lookup m=none/\t σ H1 λvs H2=>sp (x :: vs) H2 Q E
section
variable {X:Cx}{CX:B4}{k:Nat}{cs:List Addr}{ps:List Str}{sp:Sp}{E:XK}{m:Str}{pos apos:Pos}{e o:TN}{es:List TN}{ta:TE}{t:TA}
theorem LJ {pl:Sem Bool}(D:∀ C∈cs,AO X.prog X.w X.K X.mg X.base CX k C m ps sp)(c:∀ C∈cs,Cm X.K C)(he:PE X o ta)(hr:Bq k X.A)(hx:CB CX X E)(ha:PA X (e :: es) t)(aU:T2 (e :: es) X.env=(false,TZ e X.env) :: T2 es X.env:=by rfl)(aV:(UA pos (T2 es X.env)).any (·.1)=false:=by rfl)(ht:TZ (.Call (.Attribute o m apos) (e :: es) [] pos) X.env=(TZ o X.env >>= λJ=>Vq apos.atName >>= λ_=>Vj [J] (V1 J m pl) >>= λL=>WN pos L.1 L.2 (UA pos (T2 (e :: es) X.env)) (VM pos (VN [] X.env))):=by rfl) :
  PE X (.Call (.Attribute o m apos) (e :: es) [] pos) (PL cs m sp E ta t):=by
 intro pins s σ H Q I h;refine Xu (pl:=pl) (Am (he pins s σ H _ I h) λu s1 B=>AH B λx H1 O rx ⟨a,C,dx,fs,ex,mc,ea,l,q⟩=>?_) ht;subst ex;cases rx;obtain ⟨f,fd,V,hb,F⟩:=Bk (D C mc);refine IL O ea (c C mc) V l (Xt (first:=[.ref a]) (h₀:=X.base) I.ok.mod.eI V.kp (Am (ha pos pins s1 σ H1 _ O q) λY s2 B=>AH B λvs H2 I2 r q2=>⟨I2.aN,?_⟩) aU aV);exact F4 (us:=.ref a :: Y) (vs:=.ref a :: vs) (dvs:=[]) F hr hb .nil hx I2 (.cons rfl r) (by simpa using q2)
theorem LK {pl:Sem Bool}(D:∀ C∈cs,AO X.prog X.w X.K X.mg X.base CX k C m ps sp)(c:∀ C∈cs,Cm X.K C)(V:PE X o ta)(Y:Bq k X.A)(hx:CB CX X E)(ht:TZ (.Call (.Attribute o m apos) [] [] pos) X.env=(TZ o X.env >>= λJ=>Vq apos.atName >>= λ_=>Vj [J] (V1 J m pl) >>= λL=>WN pos L.1 L.2 (UA pos (T2 [] X.env)) (VM pos (VN [] X.env))):=by rfl) :
  PE X (.Call (.Attribute o m apos) [] [] pos) (PL cs m sp E ta BJ):=by
 intro pins s σ H Q I h;refine Xu (pl:=pl) (Am (V pins s σ H _ I h) λu s1 zz=>AH zz λx H1 B rx ⟨a,C,dx,fs,ex,mc,ea,l,q⟩=>?_) ht;subst ex;cases rx;obtain ⟨f,fd,O,hb,F⟩:=Bk (D C mc);exact IL B ea (c C mc) O l (Z8 (first:=[.ref a]) B.aN O.kp (F4 (us:=[.ref a]) (vs:=[.ref a]) (dvs:=[]) F Y hb .nil hx B (.cons rfl .nil) q))
end
def Jr (P:Xw):List Xz->List (Str×V)->Prop
 | [],[]=>True
 | e :: r,p :: kvs=>(∃ t,e.key=.str p.1 t)/\e.hash=PyData.keyHash P p.1/\AG p.2 e.val/\Jr P r kvs
 | _,_=>False
theorem PM {P:TV}{w:TM}:∀{es:List Xz}{kvs:List (Str×V)},Jr w.params es kvs->∃ vs:List (Av×Value),KV (kvs.map λp=>(UL p.1,p.2)) vs/\Pairs (Br P w) es vs/\∀ e∈es,∃ k,(Br P w).is k e.key=true/\e.hash=(Br P w).hash k
 | [],[],_=>⟨[],.nil,.nil,λe m=>absurd m (by simp)⟩
 | [],_ :: _,h=>h.elim
 | _ :: _,[],h=>h.elim
 | e :: es,p :: kvs,h=>by
  obtain ⟨⟨t,D⟩,H,I,J⟩:=AW h;obtain ⟨vs,r,q,m⟩:=AF (PM (P:=P) J);have B:(Br P w).is (.inr p.1) e.key=true:=by rw [D];exact F1 P w p.1 t
  refine ⟨(.inr p.1,e.val) :: vs,.cons ⟨rfl,I⟩ r,.cons B rfl q,λx hx=>?_⟩;rcases T8.mp hx with z | z
  .exact ⟨.inr p.1,by rw [z];exact B,by rw [z];exact H⟩
  .exact m x z
theorem Ad2 {P:TV}{w:TM}{K:TH}{a:Addr}{es:Array Xz}{n:Nat}{kvs:List (Str×V)}(lo:(a == Vh)=false)(l:K.lookup a=some ⟨.type "dict",none,.dict es n,#[]⟩)(h:Jr w.params es.toList kvs)(B:(kvs.map (·.1)).Nodup)(sz:kvs.length<=1000) :
  LG P w K a (kvs.map λp=>(UL p.1,p.2)):=by
 obtain ⟨vs,r,q,m⟩:=AF (PM (P:=P) h);refine ⟨lo,by rw [TU,TY];omega,_,vs,n,l,r,λI D=>⟨_,es,D,⟨rfl,rfl,rfl⟩,rfl,λe H=>m e (Z3.mpr H),q,?_⟩⟩;rw [<- r.keys,Uo];have:(kvs.map ((·.1)∘λp:Str×V=>((UL p.1:Av),p.2)))=(kvs.map (·.1)).map (UL:Str->Av):=by rw [Uo];rfl
 rw [this];exact XG.mpr (B.imp λh z=>h (V9 z))
theorem PN:∀{xs:List V}{us:List Value},us.length=xs.length->(∀(j:Nat)(v:Value)(x:V),us[j]?=some v->xs[j]?=some x->AG x v)->As xs us
 | [],[],_,_=>.nil
 | [],_ :: _,h,_=>by simp at h
 | _ :: _,[],h,_=>by simp at h
 | x :: xs,u :: us,h,f=>.cons (f 0 u x rfl rfl) (PN (by simpa using h) λj v y hv hy=>f (j+1) v y (by simpa using hv) (by simpa using hy))
section
variable {X:Cx}
theorem Ad3 (hc:X.calm=true):BB X (.type "list") (λxs H Q=>∃ p kvs,xs=[.ref p]/\Gg X.prog X.w X.K H p kvs/\∀ l,H l=none->Q (.ref l) (upd H l (.lst (kvs.map λkv=>kV kv.1)))):=by
 intro pins s σ H xs us Q I r h;replace h:=Bk h;obtain ⟨p,kvs,rfl,L,q⟩:=h
 obtain ⟨u,rfl,O⟩:=Ao (CK r);cases O;obtain ⟨V,lo,vs,rel,Y⟩:=AW (LH I L);obtain ⟨o,es,B,r⟩:=Y;have da:s.heap.DictAt (Br X.prog X.w) p vs B:=⟨o,es,r⟩;have hl:=rel.length;refine PySem.W.kdl_call (PySem.W.kdl_dict (kvs:=vs) (ep:=B) lo) (I.ok.hd hc) da (by omega) λh' tk D c hk hs ha=>?_;refine ⟨.ref s.heap.objs.size,_,I.laid (t':=tk) hk (T3 _) (show Bg X.prog X.w _ h' _ (.lst (kvs.map λkv=>kV kv.1)) from ⟨?_,D.toList,c,?_,by simpa using hs⟩),rfl,q _ I.fresh⟩
 .rw [TU];exact V
 .obtain ⟨a1,a2⟩:=ha;refine PN (by rw [Ve,TU,a1,hl]) λj v x hv hx=>?_;obtain ⟨k,y,e,hk⟩:=Bp (a2 j v (by simpa using hv));rw [T7] at hx;obtain ⟨kv,e2,rfl⟩:=Ao (UU.mp hx);have ke:=rel.keys;have J:(kvs.map (·.1))[j]?=(vs.map (·.1))[j]?:=by rw [ke]
  rw [T7,T7,e,e2] at J;have e4:kv.1=k:=Uk J;show AG (kV kv.1) v;rw [e4];exact PF hk
end
section
variable {X:Cx}
def PQ (K:TH)(ta tb:TE):TE:=λσ H Q=>ta σ H λx H1=>∃ c,KQ K x H1 c/\if c=true then Q x H1 else tb σ H1 Q
theorem Ad4 {a b:TN}{rest:List TN}{pos:Pos}{J L:TE}(ha:PE X a J)(hb:PE X (.BoolOp .Or (b :: rest) pos) L):PE X (.BoolOp .Or (a :: b :: rest) pos) (PQ X.K J L):=by
 intro pins s σ H Q I h;refine BoolOp_or (Am (ha pins s σ H _ I h) λv s1 zz=>AH zz λx O I1 V B=>?_);replace B:=Ao B;obtain ⟨c,hc,B⟩:=B
 refine Am (Oh pins s1 σ O x v (λk D=>k=c/\D=O) I1 V ⟨c,hc,rfl,rfl⟩) λk s2 e=>?_;replace e:=AF e;obtain ⟨D,Y,rfl,rfl⟩:=e
 cases k with
 | false=>exact hb pins s2 σ D Q Y B
 | true=>exact ⟨x,D,Y,V,B⟩
end
theorem Ad5 {X:Cx}:KS X .Add (λx y H Q=>∃ i j,x=.str i/\y=.str j/\i.length+j.length<=sizeLine/\Q (.str (i++j)) H):=by rintro pins s σ H x y u v Q I D J ⟨i,j,rfl,rfl,L,q⟩;obtain ⟨t,rfl⟩:=(show ∃ t,u=UQ i t from D);obtain ⟨B,rfl⟩:=(show ∃ B,v=UQ j B from J);exact PyProof.Rows.iadd_str (λB O=>⟨.str (i++j),H,I.tok _,⟨_,rfl⟩,q⟩) L
section
variable {X:Cx}{pins:List (Addr×Obj)}{σ:St}{H H':Hp}{s:TF}{a:Addr}{u:HO}{o:Obj}{kvs:List (Av×V)}
theorem Ae.o9 (I:Ae X pins σ H s)(n:∀ b,H b=none->H' b=none)(t:∀ b xs,X.H₀ b=some (.tup xs)->H' b=some (.tup xs))(f:∀ b o u,X.H₀ b=some (.aL o u)->H' b=some (.aL o u))(B:∀ b ps,X.H₀ b=some (.dE ps)->∃ more,H' b=some (.dE (ps++more)))(D:AM X.prog X.w H' s.heap):Ae X pins σ H' s :=
 ⟨I.ok,I.os,I.bare,⟨I.base.keep,I.base.slot,λb o e z hx=>n b (I.base.free b o e z hx),I.base.there,t,f,B⟩,I.loc,I.cell,n _ I.free,λx c e=>n _ (I.cu x c e),λp J=>let ⟨L,O,Y⟩:=I.pin p J;⟨L,n _ O,Y⟩,D,I.len⟩
theorem PR {P:TV}{w:TM}{h:Heap}{v:HO}(ok:AM P w H h)(e:H a=some u)(no:∀ y,u≠.own y)(B:∀ xs,u≠.tup xs)(q:∀ H',(∀ b,H b=some (.own a)->H' b=some (.own a))->(∀ b xs,H b=some (.tup xs)->H' b=some (.tup xs))->Bg P w H' h a v):AM P w (upd H a v) h:=by
 have own:∀ y b,H b=some (.own y)->upd H a v b=some (.own y):=λy b z=>by
  rw [Ap (λc=>by rw [c,e] at z;exact no y (Uk z))];exact z
 have tup:∀ b xs,H b=some (.tup xs)->upd H a v b=some (.tup xs):=λb xs z=>by
  rw [Ap (λc=>by rw [c,e] at z;exact B xs (Uk z))];exact z
 intro b D hb;by_cases c:b=a
 .subst c;rw [Ai] at hb;cases hb;exact q _ (own b) tup
 .rw [Ap c] at hb;exact (ok b D hb).de (λ_ _ _ z=>z) (own b) tup
theorem Ae.aL (I:Ae X pins σ H s)(e:H a=some (.dK kvs))(D:s.heap.get? a=some o):Ae X pins σ (upd H a (.aL o (.dK kvs))) s:=by
 have ne:∀{b:Addr}{B:HO},H b=some B->B≠.dK kvs->upd H a (.aL o (.dK kvs)) b=some B:=λ{b B} z n=>by
  rw [Ap (λc=>by rw [c,e] at z;exact n (Uk z).symm)];exact z
 refine I.o9 (λb z=>?_) (λb J z=>ne (I.base.av b J z) (λc=>nomatch c)) (λb o u z=>ne (I.base.cC b o u z) (λc=>nomatch c)) (λb L z=>?_) (PR I.af e (λ_ c=>nomatch c) (λ_ c=>nomatch c) λH' O Y=>⟨D,(I.af a _ e).de (λ_ _ _ z=>z) O Y⟩)
 .rw [Ap (λc=>by rw [c,e] at z;cases z)];exact z
 .obtain ⟨m,h⟩:=I.base.cR b L z;exact ⟨m,ne h (λc=>nomatch c)⟩
theorem Ae.aaI (I:Ae X pins σ H s)(e:H a=some (.aL o (.dK kvs)))(D:∀ o' u',X.H₀ a≠some (.aL o' u')):Ae X pins σ (upd H a (.dK kvs)) s:=by
 have ne:∀{b:Addr}{B:HO},H b=some B->B≠.aL o (.dK kvs)->upd H a (.dK kvs) b=some B:=λ{b B} z n=>by
  rw [Ap (λc=>by rw [c,e] at z;exact n (Uk z).symm)];exact z
 refine I.o9 (λb z=>?_) (λb J z=>ne (I.base.av b J z) (λc=>nomatch c)) (λb o' u' z=>?_) (λb L z=>?_) (PR I.af e (λ_ c=>nomatch c) (λ_ c=>nomatch c) λH' O Y=>?_)
 .rw [Ap (λc=>by rw [c,e] at z;cases z)];exact z
 .have y:=I.base.cC b o' u' z;have nb:b≠a:=λc=>D o' u' (by rw [<- c];exact z);rw [Ap nb];exact y
 .obtain ⟨m,h⟩:=I.base.cR b L z;exact ⟨m,ne h (λc=>nomatch c)⟩
 .exact (show Bg X.prog X.w H s.heap a (.dK kvs) from (I.af a _ e).2).de (λ_ _ _ z=>z) O Y
def Gh (o:Obj)(a:Addr)(kvs:List (Av×V)):It:=⟨λi H=>i<kvs.length/\H a=some (.aL o (.dK kvs)),λi H x H'=>H'=H/\∃ p,kvs[i]?=some p/\x=kV p.1,λi H=>kvs.length<=i/\H a=some (.aL o (.dK kvs))⟩
theorem Ad6 {P:TV}{w:TM}{K:TH}{tg:TN}{it:Addr}{vs:List (Av×Value)}{ep:Nat}(r:KV kvs vs)(d:∀ h:Heap,h.get? a=some o->h.DictAt (Br P w) a vs ep) :
  EB P w K tg (Gh o a kvs) [it] it (λi h=>h.IsKeyIter it a i vs.length ep):=by
 have hl:=r.length;refine ⟨by simp,?_,?_,?_,?_,?_⟩
 .intro i h st b hb;obtain rfl:b=it:=by simpa using hb
  obtain ⟨B,e,c,z⟩:=st;exact ⟨B,e,λv y=>by rw [z] at y;cases y⟩
 .exact λi h D st k=>st.at λB e=>k it (by simp) B e
 .intro X L hw O hc i pins s σ H E I J st Y;subst L hw O;obtain ⟨f0,f1,f2,f3,f4,f5⟩:=AW (J it (by simp));obtain ⟨hi,ha⟩:=Y;have dd:=d _ (I.af a _ ha).1;have cY:i<vs.length:=by rw [<- hl];exact hi
  have hx:vs[i]?=some vs[i]:=Ug cY;have hk:kvs[i]?=some kvs[i]:=Ug hi;have ke:kvs[i].1=vs[i].1:=by
   have e1:(kvs.map (·.1))[i]?=(vs.map (·.1))[i]?:=by rw [r.keys]
   rw [T7,T7,hx,hk] at e1;exact Uk e1
  refine wpAny_pyNext_dict_item (k:=vs[i].1) (v:=vs[i].2) st dd hx λkey D ko bg sb=>?_;have I1:=I.turned (t':=s.toks) (h':=D) (λb B hb e=>(sb.2 b hb).trans e) f0 f1 f3 f4 f5;obtain ⟨B,e,c,z⟩:=id bg;exact ⟨_,rfl,GS (s:={ s with heap:=D }) e c z (by decide) ⟨kV vs[i].1,H,I1,PF ko,⟨rfl,kvs[i],hk,by rw [ke]⟩,bg,λb hb=>(J b hb).1⟩⟩
 .intro X L hw O hc i pins s σ H E I J st Y;subst L hw O;obtain ⟨f0,f1,f2,f3,f4,f5⟩:=AW (J it (by simp));obtain ⟨hi,ha⟩:=Y;exact wpAny_pyNext_dict_end (I.ok.hd hc) st (d _ (I.af a _ ha).1) (Yt (by omega)) λD eb=>⟨rfl,I.turned (t':=s.toks) (λb B hb e=>eb b B hb e) f0 f1 f3 f4 f5⟩
 .exact λ_ _ _ _ _ st h=>wpAny_pyIter_keyiter st h
def PU (X:Cx)(tl:TE):TI:=λσ H R=>tl σ H λx H1=>∃ a kvs,x=.ref a/\H1 a=some (.dK kvs)/\∀ o,(∀ o' u',X.H₀ a≠some (.aL o' u'))->R (Gh o a kvs) (upd H1 a (.aL o (.dK kvs)))
theorem Ad7 {tg l:TN}{tl:TE}(hl:PE X l tl):PI X tg l (PU X tl):=by
 intro pins s σ H R I h;refine Am (hl pins s σ H _ I h) λv B zz=>AH zz λx H1 D r1 q1=>?_;obtain ⟨a,kvs,rfl,e,q⟩:=q1;cases (show v=Uz a from r1);have nf:∀ L O,X.H₀ a≠some (.aL L O):=λL O z=>by rw [D.base.cC a L O z] at e;cases e
 obtain ⟨_,lo,vs,r,J,es,ep,Y,rest⟩:=Jl D.af e;have d:∀ h:Heap,h.get? a=some J->h.DictAt (Br X.prog X.w) a vs ep:=λh z=>⟨J,es,z,rest⟩;refine wpAny_pyIter_dict lo (d _ Y) ?_;have I2:Ae X pins σ H1 { B with heap:=B.heap.push { cls:=.type "dict_keyiterator",data:=.fields #[.ref a,.int 0 0,.int vs.length 0,.int ep 0] } }:=D.kept (t':=B.toks) λb J q=>Ul _ q;have I3:=I2.aL e (Ul _ Y);have na:B.heap.objs.size≠a:=λz=>by
  have:=Uc Y;rw [<- z] at this;exact Vi _ this
 exact ⟨_,[B.heap.objs.size],_,Gh J a kvs,_,rfl,I3,Ad6 r d,⟨_,U2 _ rfl,rfl,rfl⟩,λb hb=>by
  obtain rfl:b=B.heap.objs.size:=by simpa using hb
  exact D.dI (T3 _) (by rw [Ap na];exact D.af.fresh (T3 _)),q J nf⟩
def PV (X:Cx)(D:Di):Di:={ D with nx:=λσ H=>∃ a kvs o,H a=some (.aL o (.dK kvs))/\(∀ o' u',X.H₀ a≠some (.aL o' u'))/\D.nx σ (upd H a (.dK kvs)) }
def Ad8 (X:Cx)(tl:TE)(g:TG)(tb:TS):TS:=λD σ H=>N5 (PU X tl) g tb (PV X D) σ H
theorem Ad9 {B iter:TN}{body:List Stmt}{tl:TE}{g:TG}{J:TS}{pos:Pos}(L:YL (TQ X.prog X.w) X.A X.env X.xe)(hc:X.calm=true)(O:PE X iter tl)(Y:PG X B g)(hb:CQ X body J)(hs:∀ x,VZ iter X.env x=pure x:=by intro _;rfl):PS X (.For B iter body [] pos) (Ad8 X tl g J):=by
 intro pins s σ H D I h;refine Am (Dt L hc (Ad7 O) Y hb hs pins s σ H (PV X D) I h) λf s' q=>?_;cases f with
 | next =>
  obtain ⟨σ',H',I',a,kvs,o,e,nf,q⟩:=q;exact ⟨σ',_,I'.aaI e nf,q⟩
 | brk=>exact q
 | cont=>exact q
 | ret u=>exact q
theorem Aea {o:Obj}{g:TG}{I:TS}{D:Di}(Pv:Nat->St->Hp->Prop)(O:Pv 0 σ H)(J:∀ i σ H,Pv i σ H->H a=some (.aL o (.dK kvs)))(hs:∀ i p σ H,kvs[i]?=some p->Pv i σ H->g (kV p.1) σ H λσ2 B=>I { D with nx:=Pv (i+1),ct:=Pv (i+1),bk:=D.nx } σ2 B)(hd:∀ σ H,Pv kvs.length σ H->D.nx σ H) :
  ∃ W:Nat->Nat->St->Hp->Prop,(∃ m,W 0 m σ H)/\∀ i m σ H,W i m σ H ->
   ((Gh o a kvs).stop i H/\D.nx σ H)\/((Gh o a kvs).go i H/\∃ N:St->Hp->Prop,(∀ σ' H',N σ' H'->∃ m',m'<m/\W (i+1) m' σ' H')/\∀ x H',(Gh o a kvs).bU i H x H'->g x σ H' λσ2 B=>I { D with nx:=N,ct:=N,bk:=D.nx } σ2 B):=by
 refine ⟨λi m σ H=>m=kvs.length - i/\i<=kvs.length/\Pv i σ H,⟨_,rfl,UH _,O⟩,?_⟩;rintro i m σ H ⟨rfl,hi,p⟩;by_cases L:i<kvs.length
 .refine .inr ⟨⟨L,J i σ H p⟩,Pv (i+1),λσ' H' Y=>⟨kvs.length - (i+1),by omega,rfl,L,Y⟩,λx H' y=>?_⟩;obtain ⟨e,c,hc,e2⟩:=y;subst e e2;exact hs i c σ _ hc p
 .obtain rfl:i=kvs.length:=by omega
  exact .inl ⟨⟨T3 _,J _ σ H p⟩,hd σ H p⟩
end
section
variable {X:Cx}
theorem Aeb (K:TH)(H:X.K=K){a b:TN}{rest:List TN}{pos:Pos}{B D:TE}(ha:PE X a B)(hb:PE X (.BoolOp .Or (b :: rest) pos) D):PE X (.BoolOp .Or (a :: b :: rest) pos) (PQ K B D):=by subst H;exact Ad4 ha hb
end
end L2
set_option maxHeartbeats 4000000
namespace Lw
open PySem L2
local macro_rules | `(tactic| walk_at"")=>`(tactic| repeat (first
 | with_reducible refine Ab3 λ_ _=>?_
 | with_reducible refine Lk.asg (by assumption) ?_
 | refine Lk.use (by assumption) ?_
 | refine w1 rfl ?_
 | refine w2 rfl rfl ?_
 | refine w3 rfl ?_
 | refine T9 (w2 rfl rfl ?_)
 | refine T9 ⟨rfl,?_⟩
 | refine ⟨rfl,?_⟩
 | refine T9 ⟨_,_,_,_,rfl,rfl,.of (by assumption),rfl,?_⟩
 | (refine ZE (show GV _ _ from ?_) ?_;(first | exact T1 ⟨by omega,by omega⟩ | exact T9 ⟨by omega,by omega⟩))
 | (refine ZE (show N7 _ _ from ?_) ?_;exact ⟨by omega,by omega⟩)
 | (refine ZE (show (0:Int)<_ from ?_) ?_;first | decide | omega)))
local macro_rules | `(tactic| walk_at "m")=>`(tactic| exact ⟨rfl,rfl,rfl,by decide +kernel,rfl,by decide +kernel,by decide +kernel⟩)
local macro_rules | `(tactic| walk_at "k")=>`(tactic| exact ⟨by decide +kernel,by decide +kernel,by decide +kernel⟩)
def top (i:Nat):Stmt:=PySem.Challenge.pw_stephall_k38_whole_forty_groups_of_ten.main.body.getD i (.Pass ⟨0,0,0,0⟩)
structure Ak where
 (aaJ eR cb eT fE iw Plan aM fF aK Line ae fH fI:Addr)
noncomputable def Ak.bx (a:Ak):List Addr:=[a.aM,a.aK]
structure Txt (K:TH)(mg:Str->Option Value)(a:Ak):Prop where
 n_len:mg "len"=none
 pe:mg "isinstance"=none
 pf:mg "bool"=none
 gv:mg "int"=none
 cy:mg "range"=none
noncomputable def DG (ns:List Int)(k:Int):Int :=
 if k<ns.length then ns.getD k.toNat 0 else if ns.length=0 then 7919 * k+101 else ns.getD (k % ns.length).toNat 0 % 1000003+7919 * k
def PX (K:TH):Sp:=λvs H Q _=>∃(p:Addr)(ns:List Int)(k:Int),vs=[.ref p,.int k]/\A7 K H p (ns.map V.int)/\0<=k/\k<1000/\ns.length<=63/\Q (.int (DG ns k)) H
section
variable {P:TV}{w:TM}{K:TH}{mg:Str->Option Value}{base:Heap}{a:Ak}{f:Addr}{fd:T5}
theorem PY:AR ["script","k"] ["script","k"] (Ab (top 40)):=.of
theorem Hu:Nm (Ab (top 40)) "script":=.of
theorem Hv:Nm (Ab (top 40)) "k":=.of
theorem LL:Gm (Ab (top 40)) "len":=.of
theorem Aec (F:AL K "_law_cell" "_law_cell" (top 40) f fd)(T:Txt K mg a):AE P w K mg base AA 1 f fd ["script","k"] (PX K):=by
 refine F.ok PY λV A outer s H vs Q E I h=>?_
 .obtain ⟨p,B,k,rfl,hS,J,hk,Y,q⟩:=h;have hu:=I.units;have nd:=PY.nd;refine ⟨_,(@Aj _ _ _ _ _ (AZ (A0 Oe (Aa 1 Hv) (BR Cw LL T.n_len Cn (Ac (Aa 0 Hu) Af)) (A6 _)) (Al (AN (Bi Bx (Aa 0 Hu) (Aa 1 Hv) (λ_ _=>rfl)))) A5)
    (Aj (AZ (A0 (CC hu) (BR Cw LL T.n_len Cn (Ac (Aa 0 Hu) Af)) Aq (A6 _)) (Al (AN (AD Cr (AD Cc Aq (Aa 1 Hv)) Aq))) A5)
    (Al (AN (AD Cr (AD B3 (Bi Bx (Aa 0 Hu) (AD B3 (Aa 1 Hv) (BR Cw LL T.n_len Cn (Ac (Aa 0 Hu) Af))) (λ_ _=>rfl)) Aq) (AD Cc Aq (Aa 1 Hv))))))),?_⟩
  try dsimp only [aC,aD]
  walk_at"";refine T1 (BL _ _ rfl (.inl hS) ?_);walk_at"";rw [TU];refine IV (λh=>?_) (λh=>?_)
  .have h:=of_decide_eq_true h;walk_at"";refine T9 (BK hS (Gb J h) ?_);have e:DG B k=B.getD k.toNat 0:=by unfold DG;rw [if_pos h]
   rw [e] at q;exact q
  .have h:¬ k<B.length:=by simpa using h
   walk_at"";refine T1 (BL _ _ rfl (.inl hS) ?_);walk_at"";rw [TU];refine IV (λD=>?_) (λD=>?_)
   .have D:B.length=0:=by simpa using D
    walk_at"";have e:DG B k=7919 * k+101:=by unfold DG;rw [if_neg h,if_pos D]
    rw [e] at q;exact q
   .have D:¬ B.length=0:=by simpa using D
    walk_at"";refine T1 (BL _ _ rfl (.inl hS) ?_);rw [TU];have hp:0<(B.length:Int):=by omega
    walk_at"";have L:0<=k % (B.length:Int):=WX _ (by omega);have O:k % (B.length:Int)<B.length:=WY _ (by omega);refine T9 (BK hS (Gb L O) ?_);walk_at"";have e:DG B k=B.getD (k % B.length).toNat 0 % 1000003+7919 * k:=by unfold DG;rw [if_neg h,if_neg D]
    rw [e] at q;exact q
def PZ (K:TH):Sp:=λvs H Q _=>∃(p:Addr)(ns:List Int)(k many base:Int),vs=[.ref p,.int k,.int many,.int base]/\A7 K H p (ns.map V.int)/\0<=k/\k<1000/\ns.length<=63/\0<=many/\many<=100/\0<base/\base<1000000000 /\
 ∀(r:Addr)(row:List Int)(H':Hp),Ag H H'->H r=none->H' r=some (.lst (row.map V.int))->row.length=many.toNat->(∀ v∈row,0<=v/\v<base)->Q (.ref r) H'
theorem Aed {H:Hp}{r:Addr}{B:List Int}{v:Int}:upd H r (.lst (B.map V.int++[.int v])) r=some (.lst ((B++[v]).map V.int)):=by rw [Ai,Um];rfl
theorem Aee {B:List Int}{v b:Int}(h:∀ u∈B,0<=u/\u<b)(hv:0<=v/\v<b):∀ u∈B++[v],0<=u/\u<b:=by
 intro u hu;rcases U1.mp hu with z | z
 .exact h u z
 .rw [UB.mp z];exact hv
noncomputable def Hw:List Int:=[2147483647,2147483629,2147483587,2147483579,2147483563,2147483549,2147483543,2147483497]
theorem LM {i:Int}(D:0<=i)(H:i<8):∃ p:Int,BA (Hw.map V.int) i=some (.int p)/\0<p/\p<2147483648:=by
 refine ⟨_,Gb D H,?_⟩;have B:∀ m:Nat,m<8->0<Hw.getD m 0/\Hw.getD m 0<2147483648:=by decide
 exact B _ (by omega)
theorem P0:AR ["script","k","many","base","primes","cell","rest","row","j","mash"] ["script","k","many","base"] (Ab (top 41)):=.of
theorem Aef:Nm (Ab (top 41)) "script":=.of
theorem LN:Nm (Ab (top 41)) "k":=.of
theorem Aeg:Nm (Ab (top 41)) "many":=.of
theorem P6:Nm (Ab (top 41)) "base":=.of
theorem Js:Nm (Ab (top 41)) "primes":=.of
theorem Jt:Nm (Ab (top 41)) "cell":=.of
theorem Gi:Nm (Ab (top 41)) "rest":=.of
theorem LO:Nm (Ab (top 41)) "row":=.of
theorem ES:Nm (Ab (top 41)) "j":=.of
theorem DH:Nm (Ab (top 41)) "mash":=.of
theorem Aeh:Gm (Ab (top 41)) "range":=.of
theorem Aei:Gm (Ab (top 41)) "_law_cell":=.of
theorem Aej (F:AL K "_law_draws" "_law_draws" (top 41) f fd)(T:Txt K mg a)(kL:BX P w K mg base AA 1 "_law_cell" ["script","k"] (PX K)) :
  AE P w K mg base AA 2 f fd ["script","k","many","base"] (PZ K):=by
 refine F.ok P0 λak A outer s H vs Q E J h=>?_
 .obtain ⟨p,Y,k,L,bs,rfl,hS,k0,k1,hl,m0,m1,b0,b1,q⟩:=h;have hu:=J.units;have I:=P0.nd;refine ⟨_,(@Aj _ _ _ _ _ (Bb 4 I Js (BE (K2 rfl)))
    (Aj (Bb 5 I Jt (BS kL Aei J.d A1 (Ac (Aa 0 Aef) (Ac (Aa 1 LN) Af))))
    (Aj (Bb 6 I Gi Aq)
    (Aj (AZ (A0 AaW (Aa 5 Jt) (AD AaT Aq Aq) (A6 _)) (Al (Bb 6 I Gi (Aa 5 Jt))) A5)
    (Aj (Bb 7 I LO (Bn Af))
    (Aj (Dt VT rfl (FA Aeh T.cy (Ac (Aa 2 Aeg) Af)) (Bt 8 I ES) (Aj (Bb 9 I DH (AD Cc (AD B3 (Aa 5 Jt) (Bi Bx (Aa 4 Js) (AD B3 (Aa 8 ES) Aq) (λ_ _=>rfl))) (AD Cr Aq (AD Cc (AD Cc Aq (Aa 8 ES)) (Aa 8 ES)))))
     (Aj (Bb 9 I DH (AD Cr (AD Cr (Aa 9 DH) (AD Cc (AD Cc Aq (AD Cr (Aa 8 ES) Aq)) (AD Cr (Aa 8 ES) Aq))) (AD Cc Aq (Aa 1 LN))))
     (Aj (Bb 9 I DH (AD B3 (Aa 9 DH) (Bi Bx (Aa 4 Js) (AD B3 (AD Cr (AD Cc Aq (Aa 8 ES)) (Aa 1 LN)) Aq) (λ_ _=>rfl))))
     (Aj (Bb 9 I DH (AD B3 (AD Cc (AD Cc (Aa 9 DH) (Aa 9 DH)) (Aa 9 DH)) (Bi Bx (Aa 4 Js) (AD B3 (AD Cr (Aa 8 ES) Aq) Aq) (λ_ _=>rfl))))
     (Aj (AZ (A0 Of (Aa 6 Gi) Aq (A6 _)) (Al (Bb 9 I DH (Aa 6 Gi))) A5)
     (Aj (Bm (DB VJ V6 V7 DU (Aa 7 LO) (Ac (AD B3 (Aa 9 DH) (Aa 3 P6)) Af)))
     (Al (Bb 6 I Gi (AD EE (Aa 6 Gi) (Aa 3 P6)))))))))))
    (Al (AN (Aa 7 LO))))))))),?_⟩
  try dsimp only [aC,aD]
  refine ⟨by decide,λpr hpr=>?_⟩;have s1:Ag H (upd H pr (.tup (Hw.map V.int))):=(Ag.refl H).upd hpr;walk_at"";refine B5 p Y k rfl ⟨s1.seq hS,k0,k1,hl,?_⟩;walk_at"";refine ⟨⟨by decide,by decide,by decide⟩,?_⟩;walk_at"";refine IV (λ_=>?_) (λ_=>?_) <;>
  .walk_at"";refine ⟨by decide,λr J=>?_⟩;have kM:r≠pr:=λe=>by rw [e,Ai] at J;cases J
   have pj:H r=none:=by rw [Ap kM] at J;exact J
   walk_at"";refine ⟨by omega,by omega,KL (n:=L.toNat) (λi σ O=>∃(B:List Int)(z:Int)(x y:Option V),σ=[some (.ref p),some (.int k),some (.int L),some (.int bs),some (.ref pr),some (.int (DG Y k)),some (.int z),some (.ref r),x,y] /\
    Ag H O/\O pr=some (.tup (Hw.map V.int))/\O r=some (.lst (B.map V.int))/\B.length=i/\∀ v∈B,0<=v/\v<bs) ?_ ?_ ?_⟩
   .exact ⟨[],_,none,none,rfl,s1.upd J,(by rw [Ap kM.symm,Ai];rfl),Ai,rfl,λv hv=>absurd hv (by simp)⟩
   .intro i σ O hi zq;obtain ⟨B,z,x,y,rfl,sm,hP,hR,D,eU⟩:=zq;have cY:(i:Int)<100:=by omega
    simp only [Xf];walk_at"";obtain ⟨p1,e1,a1,b1'⟩:=LM (i:=(i:Int) % 8) (by omega) (by omega);refine T1 (T9 (BK (.of hP) e1 ?_));walk_at"";have c1:=WX (DG Y k) (show p1≠0 by omega);have c2:=WY (DG Y k) a1;generalize DG Y k % p1=m1 at c1 c2 ⊢;walk_at"";obtain ⟨p2,e2,a2,b2'⟩:=LM (i:=(3 * (i:Int)+k) % 8) (by omega) (by omega);refine T1 (T9 (BK (.of hP) e2 ?_));walk_at"";generalize pq:(m1 * (48271+2 * (i:Int) * (i:Int))+7919 * ((i:Int)+1) * ((i:Int)+1)+104729 * k) % p2=m2;have c3:0<=m2:=by rw [<- pq];exact WX _ (by omega)
    have c4:m2<p2:=by rw [<- pq];exact WY _ a2
    walk_at"";obtain ⟨p3,e3,a3,b3'⟩:=LM (i:=((i:Int)+5) % 8) (by omega) (by omega);refine T1 (T9 (BK (.of hP) e3 ?_));walk_at"";refine IV (λ_=>?_) (λ_=>?_) <;>
    .walk_at"";refine ⟨.inl ⟨rfl,_,.of hR⟩,?_⟩;walk_at"";refine Cv r _ _ rfl rfl hR ?_ ?_
     .rw [TU,D,TY];omega
     walk_at"";exact ⟨B++[_],_,_,_,rfl,sm.bI pj,(by rw [Ap kM.symm];exact hP),Aed,(by rw [UK,D];rfl),Aee eU ⟨WX _ (by omega),WY _ b0⟩⟩
   .intro σ O zq;obtain ⟨B,z,x,y,rfl,sm,hP,hR,D,eU⟩:=zq;walk_at"";exact q r B O sm pj hR D eU
theorem Aek (K:TH):Xs K (.type "int") (.type "bool")=some false:=by rfl
def C8 (z:Str):Prop:=∀ c∈z.cps.toList,c<128
def Ca (z:Str):Prop:=∀ c∈z.cps.toList,48<=c/\c<=57
theorem Ca.asc {z:Str}(h:Ca z):C8 z:=λc hc=>by have:=h c hc;omega
theorem Ael (x y:Str):(x++y).cps.toList=x.cps.toList++y.cps.toList:=by show (x.cps++y.cps).toList=_;simp
theorem Gj (x:Str):x.length=x.cps.toList.length:=by simp [WR]
theorem LP {x y:Str}(h:x.cps.toList=y.cps.toList):x=y:=by cases x with | mk a=>cases y with | mk b=>cases a;cases b;simp_all
def Gk:Sp:=λvs H Q _=>∃ n lo hi,vs=[.int n,.int lo,.int hi]/\Q (.bl (decide (lo<=n) && decide (n<=hi))) H
theorem P7:AR ["number","least","most"] ["number","least","most"] (Ab (top 10)):=.of
theorem P8:Nm (Ab (top 10)) "number":=.of
theorem Aem:Nm (Ab (top 10)) "least":=.of
theorem Aen:Nm (Ab (top 10)) "most":=.of
theorem Aeo:Gm (Ab (top 10)) "isinstance":=.of
theorem Aep:Gm (Ab (top 10)) "bool":=.of
theorem Aeq (F:AL K "within" "within" (top 10) f fd)(T:Txt K mg a):AE P w K mg base AA 1 f fd ["number","least","most"] Gk:=by
 refine F.ok P7 λI A outer s H vs Q E D h=>?_
 .obtain ⟨n,lo,J,rfl,q⟩:=h;have hu:=D.units;have L:=P7.nd;refine ⟨_,(@Al _ _ _ (AN (Aas (Aat (BR Acx Aeo T.pe AcA (Ac (Aa 0 P8) (Ac (AcE (v:=.ty "bool") Aep T.pf AcB rfl) Af)))) (NW (Aa0 IG IG (Aa 1 Aem) (Aa 0 P8) (Aa 2 Aen)))))),?_⟩;try dsimp only [aC,aD]
  walk_at"";refine T9 (Fu _ _ _ _ _ rfl ⟨.of (.int n),rfl,Aek K,?_⟩);walk_at"";by_cases B:lo<=n
  .refine DV (decide_eq_true B) ?_;walk_at"";rw [decide_eq_true B] at q;exact q
  .refine Dl (decide_eq_false B) ?_;rw [decide_eq_false B] at q;exact q
structure El (K:TH)(a:Ak)(C:Addr):Prop where
 mem:C∈a.bx
 cls:Cm K C
 h:BC K C "held_by"
 j:BC K C "jammed"
 t:BC K C "taken"
structure Fs (fs:List (Str×V))(ra rb rc:Addr):Prop where
 h:fs.lookup ("held_by":Str)=some (V.ref ra)
 j:fs.lookup ("jammed":Str)=some (V.ref rb)
 t:fs.lookup ("taken":Str)=some (V.ref rc)
 m:∀ x∈(["first_free","hold","free","stick","mend","check","holders","stuck","shares","take","paper"]:List Str),fs.lookup x=none
structure Co (K:TH)(a:Ak)(H:Hp)(p C:Addr)(ra rb rc:Addr)(hs:List V)(js:List Bool)(ts:List Int):Prop where
 ins:∃ dx fs,H p=some (.ins C dx fs)/\Fs fs ra rb rc
 c:El K a C
 ha:H ra=some (.lst hs)
 hb:H rb=some (.lst (js.map V.bl))
 hc:H rc=some (.lst (ts.map V.int))
 ab:ra≠rb
 ac:ra≠rc
 bc:rb≠rc
 lj:js.length=hs.length
 lt:ts.length=hs.length
 z:hs.length<=1000
theorem Co.same {K:TH}{a:Ak}{H B:Hp}{p C D I J:Addr}{hs:List V}{js:List Bool}{ts:List Int}(r:Co K a H p C D I J hs js ts)(s:Ag H B):Co K a B p C D I J hs js ts:=by obtain ⟨dx,fs,e,f⟩:=r.ins;exact ⟨⟨dx,fs,s _ _ e,f⟩,r.c,s _ _ r.ha,s _ _ r.hb,s _ _ r.hc,r.ab,r.ac,r.bc,r.lj,r.lt,r.z⟩
noncomputable def CD (k:Int)(hs:List V):Bool:=decide (0<=k) && decide (k<=(hs.length:Int) - 1)
theorem Hx {k:Int}{hs:List V}:CD k hs=true↔0<=k/\k<hs.length:=by unfold CD;rw [Vu,decide_eq_true_eq,decide_eq_true_eq];omega
theorem DZ {n:Nat}{k:Int}(B:0<=k)(h:k<n):DQ n k=some k.toNat:=by unfold DQ;rw [if_pos B,if_pos h]
def LQ (K:TH)(a:Ak):Sp:=λvs H Q _=>∃ p C ra rb rc hs js ts,vs=[.ref p]/\Co K a H p C ra rb rc hs js ts/\∀ l,H l=none->Q (.ref l) (upd H l (.lst hs))
def P9 (K:TH)(a:Ak):Sp:=λvs H Q _=>∃ p C ra rb rc hs js ts,vs=[.ref p]/\Co K a H p C ra rb rc hs js ts/\∀ l,H l=none->Q (.ref l) (upd H l (.lst (ts.map V.int)))
def Ju (K:TH)(a:Ak):Sp:=λvs H Q E=>∃ p k C ra rb rc hs js ts,vs=[.ref p,.int k]/\Co K a H p C ra rb rc hs js ts/\if CD k hs=true then Q .aa H else E (.ref a.cb) none H
def LR (K:TH)(a:Ak):Sp:=λvs H Q _=>∃ p k bj C ra rb rc hs js ts,vs=[.ref p,.int k,bj]/\Co K a H p C ra rb rc hs js ts/\0<=k/\k<hs.length /\
 Q .aa (upd (upd H ra (.lst (hs.set k.toNat bj))) rc (.lst ((ts.set k.toNat (ts.getD k.toNat 0+1)).map V.int)))
def Qa (K:TH)(a:Ak):Sp:=λvs H Q E=>∃ p k C ra rb rc hs js ts,vs=[.ref p,.int k]/\Co K a H p C ra rb rc hs js ts /\
 if CD k hs=true/\hs.getD k.toNat .aa≠.aa then Q .aa (upd H ra (.lst (hs.set k.toNat .aa))) else E (.ref a.cb) none H
def Jv (K:TH)(a:Ak)(b:Bool):Sp:=λvs H Q E=>∃ p k C ra rb rc hs js ts,vs=[.ref p,.int k]/\Co K a H p C ra rb rc hs js ts /\
 if CD k hs=true then Q .aa (upd H rb (.lst ((js.set k.toNat b).map V.bl))) else E (.ref a.cb) none H
structure TxtS (K:TH)(mg:Str->Option Value)(a:Ak):Prop extends Txt K mg a where
 fJ:mg "list"=none
 jz:mg "enumerate"=none
 dP:mg "tuple"=none
 gw:mg "NoSwitch"=some (.ref a.cb)
 jA:Vn K a.cb [.type "ValueError",.type "Exception",.type "BaseException",.type "object"] "ValueError.__new__"=true
theorem Aer:AR ["self"] ["self"] (Ab (Ad (top 16) 7)):=.of
theorem Aes:Nm (Ab (Ad (top 16) 7)) "self":=.of
theorem Aet:Gm (Ab (Ad (top 16) 7)) "list":=.of
theorem Aeu (F:AL K "holders" "Switches.holders" (Ad (top 16) 7) f fd)(T:TxtS K mg a):AE P w K mg base AA 1 f fd ["self"] (LQ K a):=by
 refine F.ok Aer λJ A outer s H vs Q E L h=>?_
 .obtain ⟨p,C,O,V,Y,hs,js,ts,rfl,R,q⟩:=h;obtain ⟨dx,fs,B,D⟩:=R.ins;refine ⟨_,(@Al _ _ _ (AN (Cy (Jc rfl) Aet T.fJ Hi (Ac (Ax (Aa 0 Aes) rfl) Af)))),?_⟩;try dsimp only [aC,aD]
  walk_at"";refine C5 B R.c.cls R.c.h D.h ?_;walk_at"";refine T9 (BL _ _ rfl (.inl (.of R.ha)) (λl I=>?_));exact q l I
theorem Aev:AR ["self"] ["self"] (Ab (Ad (top 16) 9)):=.of
theorem Aew:Nm (Ab (Ad (top 16) 9)) "self":=.of
theorem Aex:Gm (Ab (Ad (top 16) 9)) "list":=.of
theorem Aey (F:AL K "shares" "Switches.shares" (Ad (top 16) 9) f fd)(T:TxtS K mg a):AE P w K mg base AA 1 f fd ["self"] (P9 K a):=by
 refine F.ok Aev λJ A outer s H vs Q E L h=>?_
 .obtain ⟨p,C,O,V,Y,hs,js,ts,rfl,R,q⟩:=h;obtain ⟨dx,fs,B,D⟩:=R.ins;refine ⟨_,(@Al _ _ _ (AN (Cy (Jc rfl) Aex T.fJ Hi (Ac (Ax (Aa 0 Aew) rfl) Af)))),?_⟩;try dsimp only [aC,aD]
  walk_at"";refine C5 B R.c.cls R.c.t D.t ?_;walk_at"";refine T9 (BL _ _ rfl (.inl (.of R.hc)) (λl I=>?_));exact q l I
theorem Aez:AR ["self","k","who"] ["self","k","who"] (Ab (Ad (top 16) 2)):=.of
theorem Qb:Nm (Ab (Ad (top 16) 2)) "self":=.of
theorem Qc:Nm (Ab (Ad (top 16) 2)) "k":=.of
theorem AeA:Nm (Ab (Ad (top 16) 2)) "who":=.of
theorem AeB (F:AL K "hold" "Switches.hold" (Ad (top 16) 2) f fd)(T:TxtS K mg a):AE P w K mg base AA 1 f fd ["self","k","who"] (LR K a):=by
 refine F.ok Aez λak A outer s H vs Q E hr h=>?_
 .obtain ⟨p,k,I,C,J,rb,Y,hs,js,ts,rfl,R,B,h1,q⟩:=h;obtain ⟨dx,fs,D,L⟩:=R.ins;have au:=R.lt;refine ⟨_,(@Aj _ _ _ _ _ (EA (Aa 2 AeA) (Fn (Ax (Aa 0 Qb) rfl) (Aa 1 Qc) DS))
    (Al (KI (Ax (Aa 0 Qb) rfl) (Aa 1 Qc) Lj Aq KJ DS))),?_⟩
  try dsimp only [aC,aD]
  walk_at"";refine C5 D R.c.cls R.c.h L.h ?_;walk_at"";refine BK R.ha (DZ B h1) ?_;walk_at"";have eV:(upd H J (.lst (hs.set k.toNat I))) p=some (.ins C dx fs):=by rw [Ap (Iu D R.ha (by intro z;cases z))];exact D
  have O:(upd H J (.lst (hs.set k.toNat I))) Y=some (.lst (ts.map V.int)):=by rw [Ap (Uj R.ac)];exact R.hc
  refine C5 eV R.c.cls R.c.t L.t ?_;walk_at"";refine A9 _ _ _ _ rfl rfl B (.of O) (Gb B (by omega)) ?_;walk_at"";refine BK O (DZ B (by rw [TU];omega)) ?_;rw [Vb] at q;exact q
theorem Ba (x y:Str):(x++y).length=x.length+y.length:=by rw [Gj,Gj,Gj,Ael,UK]
theorem AeC:AR ["self","k"] ["self","k"] (Ab (Ad (top 16) 6)):=.of
theorem Qd:Nm (Ab (Ad (top 16) 6)) "self":=.of
theorem AeD:Nm (Ab (Ad (top 16) 6)) "k":=.of
theorem AeE:Gm (Ab (Ad (top 16) 6)) "within":=.of
theorem Qe:Gm (Ab (Ad (top 16) 6)) "len":=.of
theorem AeF:Gm (Ab (Ad (top 16) 6)) "NoSwitch":=.of
theorem AeG (F:AL K "check" "Switches.check" (Ad (top 16) 6) f fd)(T:TxtS K mg a)(L:BX P w K mg base AA 1 "within" ["number","least","most"] Gk):AE P w K mg base (AJ P w) 2 f fd ["self","k"] (Ju K a):=by
 refine F.bf AeC λY A outer s H vs Q E O h=>?_
 .obtain ⟨p,k,C,ra,rb,rc,hs,js,ts,rfl,R,q⟩:=h;obtain ⟨dx,fs,D,I⟩:=R.ins;have V:=R.z;refine ⟨_,(@Al _ _ _ (AZ (Dr (Dj (BS L AeE O.d A1 (Ac (Aa 1 AeD) (Ac Aq (Ac (AD F2 (BR Cw Qe T.n_len Cn (Ac (Ax (Aa 0 Qd) rfl) Af)) Aq) Af)))))) (Al (CN CM AeF rfl T.jA T.gw (Ac (Fy (Ck Az (Ck (Hn (BR Cw Qe T.n_len Cn (Ac (Ax (Aa 0 Qd) rfl) Af))) (Ck Az Fx)))) Af))) A5)),?_⟩;try dsimp only [aC,aD]
  walk_at"";refine C5 D R.c.cls R.c.h I.h ?_;walk_at"";refine T1 (BL _ _ rfl (.inl (.of R.ha)) ?_);walk_at"";refine B5 k 0 ((hs.length:Int) - 1) rfl ?_;walk_at"";by_cases hk:CD k hs=true
  .rw [if_pos hk] at q;have e:(decide (0<=k) && decide (k<=(hs.length:Int) - 1))=true:=hk;rw [e];refine BW ?_;exact q
  .rw [if_neg hk] at q;have e:(decide (0<=k) && decide (k<=(hs.length:Int) - 1))=false:=WU.mpr hk;rw [e];refine BQ ?_;walk_at"";have B:(UI++TK "there are ").length=10:=by decide +kernel
   have J:(TK " switches, numbered from 0").length=26:=by decide +kernel
   refine ⟨(by rw [B,TY];decide),?_⟩;walk_at"";refine C5 D R.c.cls R.c.h I.h ?_;walk_at"";refine T1 (BL _ _ rfl (.inl (.of R.ha)) ?_);refine T9 (Dm _ rfl ⟨by omega,by omega,λz V=>?_⟩);walk_at"";refine ⟨(by rw [Ba,B,TY];omega),?_⟩;walk_at"";refine ⟨(by rw [Ba,Ba,B,J,TY];omega),?_⟩;walk_at"";refine ⟨(by rw [Ba,Ba,B,J,TY];omega),?_⟩;exact ⟨Aw,q⟩
theorem AeH:AR ["self","k"] ["self","k"] (Ab (Ad (top 16) 4)):=.of
theorem Qf:Nm (Ab (Ad (top 16) 4)) "self":=.of
theorem Qg:Nm (Ab (Ad (top 16) 4)) "k":=.of
theorem AeI (F:AL K "stick" "Switches.stick" (Ad (top 16) 4) f fd)(T:TxtS K mg a)(I:∀ C∈a.bx,AO P w K mg base (AJ P w) 2 C "check" ["self","k"] (Ju K a)):AE P w K mg base (AJ P w) 3 f fd ["self","k"] (Jv K a true):=by
 refine F.bf AeH λak A outer s H vs Q E J h=>?_
 .obtain ⟨p,k,C,L,O,V,hs,js,ts,rfl,R,q⟩:=h;obtain ⟨dx,fs,B,D⟩:=R.ins;have Y:=I C R.c.mem;have cls:=R.c.cls;have hj:=R.lj;refine ⟨_,(@Aj _ _ _ _ _ (Bm (A2 Y cls (Aa 0 Qf) J.d By (Ac (Aa 1 Qg) Af)))
    (Al (EA Dq (Fn (Ax (Aa 0 Qf) rfl) (Aa 1 Qg) DS)))),?_⟩
  try dsimp only [aC,aD]
  walk_at"";refine Dv B (D.m _ (by decide)) ?_;walk_at"";refine EK p k C L O V hs js ts rfl ⟨R,?_⟩;by_cases hk:CD k hs=true
  .rw [if_pos hk] at q ⊢;obtain ⟨h0,h1⟩:=Hx.mp hk;walk_at"";refine C5 B R.c.cls R.c.j D.j ?_;walk_at"";refine BK R.hb (DZ h0 (by rw [TU];omega)) ?_;rw [Vb] at q;exact q
  .rw [if_neg hk] at q ⊢;exact q
theorem AeJ:AR ["self","k"] ["self","k"] (Ab (Ad (top 16) 5)):=.of
theorem Qh:Nm (Ab (Ad (top 16) 5)) "self":=.of
theorem Qi:Nm (Ab (Ad (top 16) 5)) "k":=.of
theorem AeK (F:AL K "mend" "Switches.mend" (Ad (top 16) 5) f fd)(T:TxtS K mg a)(I:∀ C∈a.bx,AO P w K mg base (AJ P w) 2 C "check" ["self","k"] (Ju K a)):AE P w K mg base (AJ P w) 3 f fd ["self","k"] (Jv K a false):=by
 refine F.bf AeJ λak A outer s H vs Q E J h=>?_
 .obtain ⟨p,k,C,L,O,V,hs,js,ts,rfl,R,q⟩:=h;obtain ⟨dx,fs,B,D⟩:=R.ins;have Y:=I C R.c.mem;have cls:=R.c.cls;have hj:=R.lj;refine ⟨_,(@Aj _ _ _ _ _ (Bm (A2 Y cls (Aa 0 Qh) J.d By (Ac (Aa 1 Qi) Af)))
    (Al (EA Dq (Fn (Ax (Aa 0 Qh) rfl) (Aa 1 Qi) DS)))),?_⟩
  try dsimp only [aC,aD]
  walk_at"";refine Dv B (D.m _ (by decide)) ?_;walk_at"";refine EK p k C L O V hs js ts rfl ⟨R,?_⟩;by_cases hk:CD k hs=true
  .rw [if_pos hk] at q ⊢;obtain ⟨h0,h1⟩:=Hx.mp hk;walk_at"";refine C5 B R.c.cls R.c.j D.j ?_;walk_at"";refine BK R.hb (DZ h0 (by rw [TU];omega)) ?_;rw [Vb] at q;exact q
  .rw [if_neg hk] at q ⊢;exact q
theorem AeL:AR ["self","k"] ["self","k"] (Ab (Ad (top 16) 3)):=.of
theorem LS:Nm (Ab (Ad (top 16) 3)) "self":=.of
theorem Jw:Nm (Ab (Ad (top 16) 3)) "k":=.of
theorem AeM:Gm (Ab (Ad (top 16) 3)) "NoSwitch":=.of
theorem AeN (F:AL K "free" "Switches.free" (Ad (top 16) 3) f fd)(T:TxtS K mg a)(O:∀ C∈a.bx,AO P w K mg base (AJ P w) 2 C "check" ["self","k"] (Ju K a)):AE P w K mg base (AJ P w) 3 f fd ["self","k"] (Qa K a):=by
 refine F.bf AeL λak A outer s H vs Q E V h=>?_
 .obtain ⟨p,k,C,Y,rb,rc,hs,js,ts,rfl,R,q⟩:=h;obtain ⟨dx,fs,D,I⟩:=R.ins;have ix:=O C R.c.mem;have cls:=R.c.cls;have hz:=R.z;refine ⟨_,(@Aj _ _ _ _ _ (Bm (A2 ix cls (Aa 0 LS) V.d By (Ac (Aa 1 Jw) Af)))
    (Aj (AZ (A0 EF (Bi Bx (Ax (Aa 0 LS) rfl) (Aa 1 Jw) (λ_ _=>rfl)) B8 (A6 _)) (Al (CN CM AeM rfl T.jA T.gw (Ac (Fy (Ck Az (Ck (Hn (Aa 1 Jw)) Fx))) Af))) A5)
    (Al (EA B8 (Fn (Ax (Aa 0 LS) rfl) (Aa 1 Jw) DS))))),?_⟩
  try dsimp only [aC,aD]
  walk_at"";refine Dv D (I.m _ (by decide)) ?_;walk_at"";refine EK p k C Y rb rc hs js ts rfl ⟨R,?_⟩;by_cases hk:CD k hs=true
  .rw [if_pos hk];obtain ⟨J,L⟩:=Hx.mp hk;walk_at"";refine C5 D R.c.cls R.c.h I.h ?_;walk_at"";obtain ⟨v,B,e2⟩:=Ga (xs:=hs) J L;have e3:hs.getD k.toNat .aa=v:=by rw [UO,e2];rfl
   rw [e3] at q;refine T9 (BK (.of R.ha) B ?_);walk_at"";by_cases hv:v=.aa
   .rw [if_neg (λz=>z.2 hv)] at q;refine DV (decide_eq_true hv) ?_;walk_at"";have B:(UI++TK "nobody holds switch ").length=20:=by decide +kernel
    refine ⟨(by rw [B,TY];decide),?_⟩;walk_at"";refine T9 (Dm _ rfl ⟨by omega,by omega,λz hz=>?_⟩);walk_at"";refine ⟨(by rw [Ba,B,TY];omega),?_⟩;refine ⟨(by rw [Ba,B,TY];omega),?_⟩;exact ⟨Aw,q⟩
   .rw [if_pos ⟨hk,hv⟩] at q;refine Dl (decide_eq_false hv) ?_;walk_at"";refine C5 D R.c.cls R.c.h I.h ?_;walk_at"";refine BK R.ha (DZ J L) ?_;exact q
  .rw [if_neg hk];rw [if_neg (λz=>hk z.1)] at q;exact q
def Cd (ws:List Addr)(H H':Hp):Prop:=∀ b o,b ∉ ws->H b=some o->H' b=some o
noncomputable def FC (ra rb rc:Addr):List (Str×V):=[("held_by",.ref ra),("jammed",.ref rb),("taken",.ref rc)]
def Jx (K:TH)(a:Ak):Sp:=λvs H Q _=>∃(p:Addr)(many:Int)(C dx:Addr),vs=[.ref p,.int many]/\H p=some (.ins C dx [])/\El K a C/\0<=many/\many<=1000 /\
 ∀ H' ra rb rc,Cd [p] H H'->H' p=some (.ins C dx (FC ra rb rc))->H ra=none->H rb=none->H rc=none->H' ra=some (.lst (TX many.toNat .aa))->H' rb=some (.lst ((TX many.toNat false).map V.bl))->H' rc=some (.lst ((TX many.toNat (0:Int)).map V.int)) ->
  ra≠rb->ra≠rc->rb≠rc->Q .aa H'
theorem Jy {α:Type}(x:α):∀ n:Nat,(TX n [x]).flatten=TX n x
 | 0=>rfl
 | n+1=>by rw [Wm,W4,Jy x n];rfl
noncomputable def Cp (hs:List V)(js:List Bool)(k:Int):Bool:=decide (hs.getD k.toNat .aa=.aa) && !(js.getD k.toNat false)
noncomputable def BF (hs:List V)(js:List Bool)(AQ:Int):Option Int:=(BM AQ hs.length++BM 0 AQ).find? (Cp hs js)
noncomputable def Qj:Option Int->V
 | some k=>.int k
 | none=>.aa
def LU (K:TH)(a:Ak):Sp:=λvs H Q _=>∃(p:Addr)(AQ:Int)(C ra rb rc:Addr)(hs:List V)(js:List Bool)(ts:List Int),vs=[.ref p,.int AQ]/\Co K a H p C ra rb rc hs js ts/\0<=AQ/\AQ<=hs.length/\∀ H',Ag H H'->Q (Qj (BF hs js AQ)) H'
theorem AeO:AR ["self","many"] ["self","many"] (Ab (Ad (top 16) 0)):=.of
theorem LV:Nm (Ab (Ad (top 16) 0)) "self":=.of
theorem LY:Nm (Ab (Ad (top 16) 0)) "many":=.of
theorem Qk (F:AL K "__init__" "Switches.__init__" (Ad (top 16) 0) f fd)(T:TxtS K mg a):AE P w K mg base AA 1 f fd ["self","many"] (Jx K a):=by
 refine F.ok AeO λak A outer s H vs Q E hr h=>?_
 .obtain ⟨p,B,C,dx,rfl,hp,c,h0,h1,q⟩:=h;refine ⟨_,(@Aj _ _ _ _ _ (Bs (Aa 0 LV) (AD Cc (Bn (Ac B8 Af)) (Aa 1 LY)) rfl)
    (Aj (Bs (Aa 0 LV) (AD Cc (Bn (Ac Dq Af)) (Aa 1 LY)) rfl)
    (Al (Bs (Aa 0 LV) (AD Cc (Bn (Ac Aq Af)) (Aa 1 LY)) rfl)))),?_⟩
  try dsimp only [aC,aD]
  walk_at"";refine ⟨Aw,λl1 kN=>?_⟩;walk_at"";refine T1 (T1 (B5 l1 B [.aa] rfl ⟨rfl,Ai,by omega,by omega,(by rw [U6,TY];omega),λD fK=>?_⟩));generalize kO:upd H l1 (.lst [.aa])=iy at fK ⊢;have iz:Ag H iy:=kO▸(Ag.refl H).upd kN;generalize iA:upd iy D (.lst (TX B.toNat [.aa]).flatten)=fL;have iB:Ag H fL:=iA▸iz.upd fK;have e1:fL D=some (.lst (TX B.toNat [.aa]).flatten):=iA▸Ai;have f1:H D=none:=iz.free fK;walk_at"";refine A9 p C dx [] rfl (iB _ _ hp) c.cls c.h (by show 0<1000;decide) ?_;generalize dq:upd fL p (.ins C dx (An "held_by" (.ref D) []))=L;have p1:L p=some (.ins C dx [("held_by",.ref D)]):=dq▸Ai;have x1:Cd [p] H L:=λb o hb e=>by rw [<- dq,Ap (by simpa using hb)];exact iB b o e
  have dR:D≠p:=λz=>by rw [z,hp] at f1;cases f1
  have c1:L D=some (.lst (TX B.toNat [.aa]).flatten):=by rw [<- dq,Ap dR];exact e1
  walk_at"";refine ⟨Aw,λl3 iC=>?_⟩;walk_at"";refine T1 (T1 (B5 l3 B [.bl false] rfl ⟨rfl,Ai,by omega,by omega,(by rw [U6,TY];omega),λI fM=>?_⟩));generalize kP:upd L l3 (.lst [.bl false])=cM at fM ⊢;have iD:Ag L cM:=kP▸(Ag.refl L).upd iC;generalize iE:upd cM I (.lst (TX B.toNat [.bl false]).flatten)=dS;have iF:Ag L dS:=iE▸iD.upd fM;have e2:dS I=some (.lst (TX B.toNat [.bl false]).flatten):=iE▸Ai;have f2:L I=none:=iD.free fM;walk_at"";refine A9 p C dx [("held_by",.ref D)] rfl (iF _ _ p1) c.cls c.j (by show 1<1000;decide) ?_;generalize dr:upd dS p (.ins C dx (An "jammed" (.ref I) [("held_by",.ref D)]))=O;have p2:O p=some (.ins C dx [("held_by",.ref D),("jammed",.ref I)]):=dr▸Ai;have x2:Cd [p] L O:=λb o hb e=>by rw [<- dr,Ap (by simpa using hb)];exact iF b o e
  have dU:I≠p:=λz=>by rw [z,p1] at f2;cases f2
  have c2:O I=some (.lst (TX B.toNat [.bl false]).flatten):=by rw [<- dr,Ap dU];exact e2
  walk_at"";refine ⟨Aw,λl5 nl5=>?_⟩;walk_at"";refine T1 (T1 (B5 l5 B [.int 0] rfl ⟨rfl,Ai,by omega,by omega,(by rw [U6,TY];omega),λJ kQ=>?_⟩));generalize hA3:upd O l5 (.lst [.int 0])=pw at kQ ⊢;have pB:Ag O pw:=hA3▸(Ag.refl O).upd nl5;generalize pH:upd pw J (.lst (TX B.toNat [.int 0]).flatten)=kR;have pI:Ag O kR:=pH▸pB.upd kQ;have e3:kR J=some (.lst (TX B.toNat [.int 0]).flatten):=pH▸Ai;have V:O J=none:=pB.free kQ;walk_at"";refine A9 p C dx [("held_by",.ref D),("jammed",.ref I)] rfl (pI _ _ p2) c.cls c.t (by show 2<1000;decide) ?_;generalize kT:upd kR p (.ins C dx (An "taken" (.ref J) [("held_by",.ref D),("jammed",.ref I)]))=Y;have p3:Y p=some (.ins C dx (FC D I J)):=kT▸Ai;have x3:Cd [p] O Y:=λb o hb e=>by rw [<- kT,Ap (by simpa using hb)];exact pI b o e
  have kU:J≠p:=λz=>by rw [z,p2] at V;cases V
  have c3:Y J=some (.lst (TX B.toNat [.int 0]).flatten):=by rw [<- kT,Ap kU];exact e3
  have one:∀{b:Addr},b≠p->b ∉ [p]:=λh z=>h (by simpa using z);have pJ:=x2 _ _ (one dR) c1;have pK:=x3 _ _ (one dR) pJ;have pL:=x3 _ _ (one dU) c2;have g4:H I=none:=by
   cases z:H I with
   | none=>rfl
   | some o=>have:=x1 _ _ (one dU) z;rw [this] at f2;cases f2
  have g6:H J=none:=by
   cases z:H J with
   | none=>rfl
   | some o=>have:=x2 _ _ (one kU) (x1 _ _ (one kU) z);rw [this] at V;cases V
  rw [Jy] at pK pL c3;refine q Y D I J (λb o hb e=>x3 _ _ hb (x2 _ _ hb (x1 _ _ hb e))) p3 f1 g4 g6 pK (by rw [XC];exact pL) (by rw [XC];exact c3) ?_ ?_ ?_
  .exact λz=>by rw [<- z,c1] at f2;cases f2
  .exact λz=>by rw [<- z,pJ] at V;cases V
  .exact λz=>by rw [<- z,c2] at V;cases V
theorem Ql:AR ["self","start","k"] ["self","start"] (Ab (Ad (top 16) 1)):=.of
theorem LZ:Nm (Ab (Ad (top 16) 1)) "self":=.of
theorem Qm:Nm (Ab (Ad (top 16) 1)) "start":=.of
theorem Jz:Nm (Ab (Ad (top 16) 1)) "k":=.of
theorem Qn:Gm (Ab (Ad (top 16) 1)) "list":=.of
theorem Qo:Gm (Ab (Ad (top 16) 1)) "range":=.of
theorem AeP:Gm (Ab (Ad (top 16) 1)) "len":=.of
theorem AeQ (F:AL K "first_free" "Switches.first_free" (Ad (top 16) 1) f fd)(T:TxtS K mg a):AE P w K mg base AA 1 f fd ["self","start"] (LU K a):=by
 refine F.ok Ql λak A outer s H vs Q E hr h=>?_
 .obtain ⟨p,AQ,C,ra,rb,rc,hs,js,ts,rfl,R,h0,h1,q⟩:=h;obtain ⟨dx,fs,hp,F3⟩:=R.ins;have nd:=Ql.nd;have hz:=R.z;refine ⟨_,(@Aj _ _ _ _ _ (Dt VT rfl (Ds (AD Cr (Cy (Jc rfl) Qn T.fJ Hi (Ac (Cy O5 Qo T.cy O6 (Ac (Aa 1 Qm) (Ac (BR Cw AeP T.n_len Cn (Ac (Ax (Aa 0 LZ) rfl) Af)) Af))) Af)) (Cy (Jc rfl) Qn T.fJ Hi (Ac (Cy O5 Qo T.cy O6 (Ac (Aa 1 Qm) Af)) Af)))) (Bt 2 nd Jz) (Al (AZ (PW.pt (NV (A0 EF (Bi Bx (Ax (Aa 0 LZ) rfl) (Aa 2 Jz) (λ_ _=>rfl)) B8 (A6 _)) (NU (Dr (Dj (Bi Bx (Ax (Aa 0 LZ) rfl) (Aa 2 Jz) (λ_ _=>rfl))))))) (Al (AN (Aa 2 Jz))) A5)))
    (Al (AN B8))),?_⟩
  try dsimp only [aC,aD]
  walk_at"";refine C5 hp R.c.cls R.c.h F3.h ?_;walk_at"";refine T1 (BL _ _ rfl (.inl (.of R.ha)) ?_);walk_at"";have O:Sm AQ:=⟨by omega,by omega⟩;have dW:Sm (hs.length:Int):=⟨by omega,by omega⟩;have sm0:Sm 0:=⟨by decide,by decide⟩;refine T1 (C6 AQ hs.length rfl O dW (λr1 n1=>?_));refine T1 (B5 r1 AQ hs.length rfl ⟨Ai,O,dW,(by rw [TY];omega),λl1 m1=>?_⟩);have s1:=(Ag.refl H).upd (o:=.cL AQ hs.length) n1;have s2:=s1.upd (o:=.lst ((BM AQ hs.length).map V.int)) m1;walk_at"";refine T9 (DW AQ rfl O (λr2 n2=>?_));have s3:=s2.upd (o:=.cL 0 AQ) n2;have k1:=((Ag.refl _).upd (o:=.cL 0 AQ) n2) l1 _ Ai;refine T1 (B5 r2 0 AQ rfl ⟨Ai,sm0,O,(by rw [TY];omega),λl2 m2=>?_⟩);have s4:=s3.upd (o:=.lst ((BM 0 AQ).map V.int)) m2;have k2:=((Ag.refl _).upd (o:=.lst ((BM 0 AQ).map V.int)) m2) l1 _ k1;refine T1 (T1 (A9 l1 l2 _ _ rfl rfl k2 Ai (by rw [TU,TU,K9,K9,TY];omega) (λl3 n3=>?_)));rw [<- Um];have s5:=s4.upd (o:=.lst ((BM AQ hs.length++BM 0 AQ).map V.int)) n3;generalize hU:upd _ l3 (.lst ((BM AQ hs.length++BM 0 AQ).map V.int))=Y at s5 ⊢;have e3:Y l3=some (.lst ((BM AQ hs.length++BM 0 AQ).map V.int)):=hU▸Ai;have q':∀ r,r=BF hs js AQ->Q (Qj r) Y:=λr e=>by rw [e];exact q Y s5
  have RU:=R.same s5;clear hU
  have mem:∀ k∈BM AQ hs.length++BM 0 AQ,0<=k/\k<hs.length:=λk hk=>by
   rcases U1.mp hk with h | h<;>obtain ⟨n,hn,rfl⟩:=Ua.mp h<;>have:=UZ.mp hn<;>constructor<;>omega
  unfold BF at q';generalize BM AQ hs.length++BM 0 AQ=ord at e3 q' mem ⊢;obtain ⟨dx',eF,bJ,jD⟩:=RU.ins;walk_at"";refine ⟨⟨_,.of e3⟩,Fp (K:=K) (a:=l3) (xs:=ord.map V.int) (λi σ H2=>∃ x,σ=[some (.ref p),some (.int AQ),x]/\H2=Y/\(ord.take i).find? (Cp hs js)=none) ⟨none,rfl,rfl,rfl⟩ (λi σ H2 _ ⟨_,_,e,_⟩=>e▸.of e3) ?_ ?_⟩
  .intro i y σ H2 I zq;obtain ⟨x,rfl,rfl,hf⟩:=zq;rw [T7] at I;cases hk:ord[i]? with
   | none=>rw [hk] at I;cases I
   | some k =>
    rw [hk] at I;cases I;obtain ⟨k0,k1⟩:=mem k (Ue hk);obtain ⟨v,e1,e2⟩:=Ga (xs:=hs) k0 k1;have lj:=RU.lj;obtain ⟨u,e4,J⟩:=Ga (xs:=js.map V.bl) k0 (by rw [TU];omega);obtain ⟨B,e6,rfl⟩:∃ B,js[k.toNat]?=some B/\u=.bl B:=by
     rw [T7] at J;cases z:js[k.toNat]? with
     | none=>rw [z] at J;cases J
     | some B=>rw [z] at J;cases J;exact ⟨B,rfl,rfl⟩
    have L:Cp hs js k=(decide (v=.aa) && !B):=by unfold Cp;rw [UO,e2,UO,e6];rfl
    have tk:(ord.take (i+1)).find? (Cp hs js)=if Cp hs js k=true then some k else none:=by rw [VB,hk,uJ,hf];show none.or (List.find? (Cp hs js) [k])=_;rw [VI];cases Cp hs js k<;>rfl
    walk_at"";refine C5 bJ R.c.cls R.c.h jD.h ?_;walk_at"";refine T9 (BK (.of RU.ha) e1 ?_);walk_at"";have D:Cp hs js k=true->some k=ord.find? (Cp hs js):=λh=>by
     rw [if_pos h] at tk;conv=>rhs;rw [<- uK (i+1) ord]
     rw [uJ,tk];rfl
    have next:Cp hs js k=false->(ord.take (i+1)).find? (Cp hs js)=none:=λh=>by rw [tk,h];rfl
    by_cases hv:v=.aa
    .rw [decide_eq_true hv];rw [decide_eq_true hv] at L;refine BQ ?_;walk_at"";refine C5 bJ R.c.cls R.c.j jD.j ?_;walk_at"";refine T9 (BK (.of RU.hb) e4 ?_);walk_at"";cases B with
     | false =>
      refine BQ ?_;walk_at"";exact q' (some k) (D L)
     | true =>
      refine BW ?_;exact ⟨_,rfl,rfl,next L⟩
    .rw [decide_eq_false hv];rw [decide_eq_false hv] at L;refine BW ?_;refine BW ?_;exact ⟨_,rfl,rfl,next L⟩
  .intro σ H2 zq;obtain ⟨x,rfl,rfl,hf⟩:=zq;walk_at"";rw [TU,VC] at hf;exact q' none hf.symm
noncomputable def DI (js:List Bool)(n:Nat):List Int:=((UY n).filter λk=>js.getD k false).map λ(k:Nat)=>(k:Int)
theorem Qp (js:List Bool)(n:Nat):DI js (n+1)=DI js n++if js.getD n false=true then [(n:Int)] else []:=by
 unfold DI;rw [WZ,Yu,Um];congr 1
 rw [ZF,ZG];by_cases h:js.getD n false=true
 .rw [if_pos h,if_pos h];rfl
 .rw [if_neg h,if_neg h];rfl
theorem AeR (js:List Bool)(n:Nat):(DI js n).length<=n:=by unfold DI;rw [TU];have:=ZH (λk=>js.getD k false) (UY n);rwa [Vg] at this
def L4 (K:TH)(a:Ak):Sp:=λvs H Q _=>∃(p C ra rb rc:Addr)(hs:List V)(js:List Bool)(ts:List Int),vs=[.ref p]/\Co K a H p C ra rb rc hs js ts /\
 ∀ H' r,Ag H H'->H r=none->H' r=some (.lst ((DI js js.length).map V.int))->Q (.ref r) H'
noncomputable def BY (hs:List V)(st:Nat->Bool)(n:Nat):List V:=(UY n).map λk=>if hs.getD k .aa=.aa then (if st k=true then V.str "stuck" else V.str "free") else hs.getD k .aa
theorem AeS (i:Int)(ks:List Int):EJ (.int i) (ks.map V.int)=decide (i∈ks):=by
 unfold EJ;rw [List.any_map,We,uL,decide_eq_true_eq];constructor
 .intro B;obtain ⟨k,hk,e⟩:=B;have D:(k == i)=true:=e;rw [<- beq_iff_eq.mp D];exact hk
 .exact λh=>⟨i,h,(beq_self_eq_true i:(i == i)=true)⟩
theorem AeT (ks:List Int):(ks.map V.int).all Ed=true:=by rw [List.all_map,Xb];exact λ_ _=>rfl
theorem Qq (hs:List V)(st:Nat->Bool)(n:Nat):BY hs st (n+1)=BY hs st n++[if hs.getD n .aa=.aa then (if st n=true then V.str "stuck" else V.str "free") else hs.getD n .aa]:=by unfold BY;rw [WZ,Um];rfl
def JA (K:TH):Sp:=λvs H Q _=>∃(h s:Addr)(hs:List V)(ks:List Int),vs=[.ref h,.ref s]/\H h=some (.lst hs)/\H s=some (.lst (ks.map V.int))/\hs.length<=1000 /\
 ∀ H' t,Ag H H'->H t=none->H' t=some (.tup (BY hs (λk=>decide ((k:Int)∈ks)) hs.length))->Q (.ref t) H'
theorem AeU:AR ["self"] ["self"] (Ab (Ad (top 16) 8)):=.of
theorem AeV:Nm (Ab (Ad (top 16) 8)) "self":=.of
theorem AeW:Gm (Ab (Ad (top 16) 8)) "enumerate":=.of
noncomputable def L5:Scope:={ kind:=.function,names:=[(".0",.local),("k",.local),("jammed",.local)],isGenerator:=false,isCoroutine:=false,more:=[] }
theorem L6:Bh L5 (Ab (Ad (top 16) 8)) ["k","jammed"] ["self"] [none,none]:=Bh.mk' rfl (by decide +kernel) (by decide +kernel) (by decide +kernel) (by decide +kernel) rfl (by decide +kernel)
theorem Qr:Nm L5 "k":=.of
theorem Qs:Nm L5 "jammed":=.of
theorem AeX (F:AL K "stuck" "Switches.stuck" (Ad (top 16) 8) f fd)(T:TxtS K mg a):AE P w K mg base AA 1 f fd ["self"] (L4 K a):=by
 refine F.ok AeU λak A outer s H vs Q E hr h=>?_
 .obtain ⟨p,C,ra,rb,rc,hs,js,ts,rfl,R,q⟩:=h;obtain ⟨dx,fs,hp,F3⟩:=R.ins;have hz:=R.z;have hj:=R.lj;refine ⟨_,(@Al _ _ _ (AN (Ej rfl L6 (O3 AeW T.jz (Ac (Ax (Aa 0 AeV) rfl) Af)) (λY C fp pins s₂ H₂=>(Jh (X:=AU _ _ _ Y C fp pins s₂ H₂) K rfl 2 rfl (CJ (Bt 0 L6.nd Qr.comp) (CJ (Bt 1 L6.nd Qs.comp) Ez)) rfl rfl)) (λY C fp pins s₂ H₂=>(K7 (Dj (Aa 1 Qs.comp)))) (λY C fp pins s₂ H₂=>(Aa 0 Qr.comp))))),?_⟩;try dsimp only [aC,aD]
  walk_at"";refine C5 hp R.c.cls R.c.j F3.j ?_;refine BL _ _ rfl (.of R.hb) (λD hD=>?_);refine AcS (K:=K) (a:=rb) (xs:=js.map V.bl) (λi σ B=>∃ x y,σ=[x,y]/\Ag H B/\B D=some (.lst ((DI js i).map V.int))) ⟨none,none,rfl,(Ag.refl H).upd hD,Ai⟩ (λi σ B _ ⟨_,_,_,I,_⟩=>.of (I _ _ R.hb)) ?_ ?_
  .rintro i x t σ B J ⟨x0,x1,rfl,I,L⟩ ht;rw [T7] at J;cases hk:js[i]? with
   | none=>rw [hk] at J;cases J
   | some O =>
    rw [hk] at J;cases J;have eg:js.getD i false=O:=by rw [UO,hk];rfl
    have ilt:i<js.length:=(Uy.mp hk).1;refine C6 t _ rfl (.of Ai) rfl ?_;walk_at"";have cG:=((Ag.refl B).upd (o:=.tup [.int i,.bl O]) ht) D _ L;have dW:=I.upd (o:=.tup [.int i,.bl O]) ht;cases O with
    | true =>
     refine BQ ?_;walk_at"";refine ⟨_,cG,?_,_,_,rfl,dW.bI hD,?_⟩
     .rw [TU,TY];have:=AeR js i;omega
     .rw [Ai,Qp,eg,if_pos rfl,Um];rfl
    | false =>
     refine BW ?_;refine BL _ _ rfl dW ?_;rw [cG,Qp,eg,if_neg (by decide),V3]
  .intro σ B zq;obtain ⟨x0,x1,rfl,I,L⟩:=zq;rw [TU] at L;exact q B D I hD L
theorem Qt {js:List Bool}{n k:Nat}(h:k<n):decide ((k:Int)∈DI js n)=js.getD k false:=by
 unfold DI;rw [We,decide_eq_true_eq,Ua];constructor
 .intro B;obtain ⟨m,D,e⟩:=B;have:m=k:=by omega
  subst this;exact (W0.mp D).2
 .exact λe=>⟨k,W0.mpr ⟨UZ.mpr h,e⟩,rfl⟩
theorem AeY {n:Nat}{AQ k:Int}(D:0<=AQ)(H:AQ<=n)(h:k∈BM AQ n++BM 0 AQ):0<=k/\k<n:=by rcases U1.mp h with h | h<;>obtain ⟨m,B,rfl⟩:=Ua.mp h<;>have:=UZ.mp B<;>constructor<;>omega
theorem Em {hs:List V}{js:List Bool}{AQ k:Int}(B:0<=AQ)(D:AQ<=hs.length)(h:BF hs js AQ=some k):(0<=k/\k<hs.length)/\Cp hs js k=true:=⟨AeY B D (uM h),uN h⟩
structure ET (K:TH)(a:Ak)(C:Addr):Prop where
 c:El K a C
 p:BC K C "places"
 s:BC K C "stands"
 w:BC K C "went"
 m:BC K C "mark_at"
noncomputable def FD (ra rb rc:Addr)(places:Int)(rs rw:Addr)(mark:Int):List (Str×V):=[("held_by",.ref ra),("jammed",.ref rb),("taken",.ref rc),("places",.int places),("stands",.ref rs),("went",.ref rw),("mark_at",.int mark)]
theorem JB (D H I:Addr)(B:Int)(J rw:Addr)(mark:Int):Fs (FD D H I B J rw mark) D H I:=by refine ⟨rfl,rfl,rfl,λx hx=>?_⟩;simp only [T8,UT,or_false] at hx;rcases hx with rfl | rfl | rfl | rfl | rfl | rfl | rfl | rfl | rfl | rfl | rfl<;>rfl
structure D0 (K:TH)(a:Ak)(H:Hp)(p C ra rb rc rs rw:Addr)(hs:List V)(js:List Bool)(ts:List Int)(places mark:Int)(st wt:List Int):Prop where
 ins:∃ dx,H p=some (.ins C dx (FD ra rb rc places rs rw mark))
 cs:ET K a C
 ha:H ra=some (.lst hs)
 hb:H rb=some (.lst (js.map V.bl))
 hc:H rc=some (.lst (ts.map V.int))
 fN:H rs=some (.lst (st.map V.int))
 hw:H rw=some (.lst (wt.map V.int))
 ap:[ra,rb,rc,rs,rw].Nodup
 lj:js.length=hs.length
 lt:ts.length=hs.length
 ls:st.length=hs.length
 lw:wt.length=hs.length
 z:hs.length<=1000
theorem D0.r {K:TH}{a:Ak}{H:Hp}{p C D I J O rw:Addr}{hs:List V}{js:List Bool}{ts:List Int}{B mark:Int}{st wt:List Int}(k:D0 K a H p C D I J O rw hs js ts B mark st wt):Co K a H p C D I J hs js ts:=by obtain ⟨dx,e⟩:=k.ins;have L:=k.ap;simp only [Uv,T8,UT,or_false,not_or,not_false_eq_true,Wu,and_true] at L;obtain ⟨⟨Y,a2,a3,a4⟩,⟨b1,b2,b3⟩,⟨c1,c2⟩,d1⟩:=L;exact ⟨⟨dx,_,e,JB ..⟩,k.cs.c,k.ha,k.hb,k.hc,Y,a2,b1,k.lj,k.lt,k.z⟩
theorem D0.same {K:TH}{a:Ak}{H D:Hp}{p C I J L O rw:Addr}{hs:List V}{js:List Bool}{ts:List Int}{B mark:Int}{st wt:List Int}(k:D0 K a H p C I J L O rw hs js ts B mark st wt)(s:Ag H D):D0 K a D p C I J L O rw hs js ts B mark st wt:=by obtain ⟨dx,e⟩:=k.ins;exact ⟨⟨dx,s _ _ e⟩,k.cs,s _ _ k.ha,s _ _ k.hb,s _ _ k.hc,s _ _ k.fN,s _ _ k.hw,k.ap,k.lj,k.lt,k.ls,k.lw,k.z⟩
def Qu (K:TH)(a:Ak):Sp:=λvs H Q _=>∃(p:Addr)(many places:Int)(C dx:Addr),vs=[.ref p,.int many,.int places]/\H p=some (.ins C dx [])/\ET K a C/\0<=many/\many<=1000 /\
 ∀ H' ra rb rc rs rw,Cd [p] H H'->D0 K a H' p C ra rb rc rs rw (TX many.toNat .aa) (TX many.toNat false) (TX many.toNat 0) places 0 (TX many.toNat 0) (TX many.toNat 0)->H ra=none->H rb=none->H rc=none->H rs=none->H rw=none->Q .aa H'
def Qw (K:TH)(a:Ak):Sp:=λvs H Q _=>∃(p C ra rb rc rs rw:Addr)(hs:List V)(js:List Bool)(ts:List Int)(places mark:Int)(st wt:List Int)(place:Int),vs=[.ref p,.int place]/\D0 K a H p C ra rb rc rs rw hs js ts places mark st wt/\0<=mark/\mark<=hs.length/\0<places /\
 match BF hs js mark with
 | none=>∀ H',Ag H H'->Q .aa H'
 | some k=>∀ H' t,Cd [p,ra,rc,rs,rw] H H'->H t=none->H' t=some (.tup [.int k,.int ((place - st.getD k.toNat 0) % places)]) ->
   D0 K a H' p C ra rb rc rs rw (hs.set k.toNat (.int place)) js (ts.set k.toNat (ts.getD k.toNat 0+1)) places ((k+1) % hs.length) (st.set k.toNat place) (wt.set k.toNat (wt.getD k.toNat 0+(place - st.getD k.toNat 0) % places))->Q (.ref t) H'
structure TxtK (K:TH)(mg:Str->Option Value)(a:Ak):Prop extends TxtS K mg a where
 jE:mg "Switches"=some (.ref a.fF)
theorem AeZ:AR ["self","many","places"] ["self","many","places"] (Ab (Ad (top 23) 0)):=.of
theorem Hy:Nm (Ab (Ad (top 23) 0)) "self":=.of
theorem L7:Nm (Ab (Ad (top 23) 0)) "many":=.of
theorem Ae0:Nm (Ab (Ad (top 23) 0)) "places":=.of
theorem Ae1:Gm (Ab (Ad (top 23) 0)) "Switches":=.of
theorem Ae2 (F:AL K "__init__" "Seekers.__init__" (Ad (top 23) 0) f fd)(T:TxtK K mg a){fi:Addr}{pM:T5}(aaK:Pj K a.fF fi "__init__")(aaL:AE P w K mg base AA 1 fi pM ["self","many"] (Jx K a))(aaM:C3 K pM ["self","many"] []) :
  AE P w K mg base AA 2 f fd ["self","many","places"] (Qu K a):=by
 refine F.ok AeZ λak A outer s H vs Q E hr h=>?_
 .obtain ⟨p,D,B,C,dx,rfl,hp,cs,h0,h1,q⟩:=h;refine ⟨_,(@Aj _ _ _ _ _ (Bm (Ac6 aaK Ae1 T.jE aaL aaM hr.d A1 (Ac (Aa 0 Hy) (Ac (Aa 1 L7) Af))))
    (Aj (Bs (Aa 0 Hy) (Aa 2 Ae0) rfl)
    (Aj (Bs (Aa 0 Hy) (AD Cc (Bn (Ac Aq Af)) (Aa 1 L7)) rfl)
    (Aj (Bs (Aa 0 Hy) (AD Cc (Bn (Ac Aq Af)) (Aa 1 L7)) rfl)
    (Al (Bs (Aa 0 Hy) Aq rfl)))))),?_⟩
  try dsimp only [aC,aD]
  walk_at"";refine A9 p D C dx rfl hp cs.c h0 (by omega) (λH1 J L O x0 gx fa fb fc ha hb hc ab ac bc=>?_);walk_at"";refine A9 p C dx _ rfl gx cs.c.cls cs.p (by show 3<1000;decide) ?_;generalize hP:upd H1 p (.ins C dx (An "places" (.int B) (FC J L O)))=Y;have p0:Y p=some (.ins C dx ([("held_by",.ref J),("jammed",.ref L),("taken",.ref O),("places",.int B)])):=hP▸Ai;have kW:Cd [p] H1 Y:=λb o hb e=>by rw [<- hP,Ap (by simpa using hb)];exact e
  walk_at"";refine ⟨Aw,λl1 kN=>?_⟩;walk_at"";refine T1 (T1 (B5 l1 D [.int 0] rfl ⟨rfl,Ai,by omega,by omega,(by rw [U6,TY];omega),λI fK=>?_⟩));rw [Jy];generalize kO:upd Y l1 (.lst [.int 0])=iy at fK ⊢;have iz:Ag Y iy:=kO▸(Ag.refl Y).upd kN;generalize iA:upd iy I (.lst (TX D.toNat (V.int 0)))=fL;have iB:Ag Y fL:=iA▸iz.upd fK;have e1:fL I=some (.lst (TX D.toNat (V.int 0))):=iA▸Ai;have f1:Y I=none:=iz.free fK;walk_at"";refine A9 p C dx ([("held_by",.ref J),("jammed",.ref L),("taken",.ref O),("places",.int B)]) rfl (iB _ _ p0) cs.c.cls cs.s (by show 4<1000;decide) ?_;generalize dq:upd fL p (.ins C dx (An "stands" (.ref I) ([("held_by",.ref J),("jammed",.ref L),("taken",.ref O),("places",.int B)])))=bE;have p1:bE p=some (.ins C dx ([("held_by",.ref J),("jammed",.ref L),("taken",.ref O),("places",.int B),("stands",.ref I)])):=dq▸Ai;have x1:Cd [p] Y bE:=λb o hb e=>by rw [<- dq,Ap (by simpa using hb)];exact iB b o e
  have dR:I≠p:=λz=>by rw [z,p0] at f1;cases f1
  have c1:bE I=some (.lst (TX D.toNat (V.int 0))):=by rw [<- dq,Ap dR];exact e1
  walk_at"";refine ⟨Aw,λl3 iC=>?_⟩;walk_at"";refine T1 (T1 (B5 l3 D [.int 0] rfl ⟨rfl,Ai,by omega,by omega,(by rw [U6,TY];omega),λl4 fM=>?_⟩));rw [Jy];generalize kP:upd bE l3 (.lst [.int 0])=cM at fM ⊢;have iD:Ag bE cM:=kP▸(Ag.refl bE).upd iC;generalize iE:upd cM l4 (.lst (TX D.toNat (V.int 0)))=dS;have iF:Ag bE dS:=iE▸iD.upd fM;have e2:dS l4=some (.lst (TX D.toNat (V.int 0))):=iE▸Ai;have f2:bE l4=none:=iD.free fM;walk_at"";refine A9 p C dx ([("held_by",.ref J),("jammed",.ref L),("taken",.ref O),("places",.int B),("stands",.ref I)]) rfl (iF _ _ p1) cs.c.cls cs.w (by show 5<1000;decide) ?_;generalize dr:upd dS p (.ins C dx (An "went" (.ref l4) ([("held_by",.ref J),("jammed",.ref L),("taken",.ref O),("places",.int B),("stands",.ref I)])))=bW;have p2:bW p=some (.ins C dx ([("held_by",.ref J),("jammed",.ref L),("taken",.ref O),("places",.int B),("stands",.ref I),("went",.ref l4)])):=dr▸Ai;have x2:Cd [p] bE bW:=λb o hb e=>by rw [<- dr,Ap (by simpa using hb)];exact iF b o e
  have dU:l4≠p:=λz=>by rw [z,p1] at f2;cases f2
  have c2:bW l4=some (.lst (TX D.toNat (V.int 0))):=by rw [<- dr,Ap dU];exact e2
  walk_at"";refine A9 p C dx _ rfl p2 cs.c.cls cs.m (by show 6<1000;decide) ?_;have one:∀{b:Addr},b≠p->b ∉ [p]:=λh z=>h (by simpa using z);have npa:J≠p:=λz=>by rw [z,hp] at fa;cases fa
  have npb:L≠p:=λz=>by rw [z,hp] at fb;cases fb
  have npc:O≠p:=λz=>by rw [z,hp] at fc;cases fc
  have up:Cd [p] bW (upd bW p (.ins C dx (An "mark_at" (.int 0) ([("held_by",.ref J),("jammed",.ref L),("taken",.ref O),("places",.int B),("stands",.ref I),("went",.ref l4)])))):=λb o hb e=>by rw [Ap (by simpa using hb)];exact e
  have t1:∀ {b o},b≠p->H1 b=some o->(upd bW p (.ins C dx (An "mark_at" (.int 0) ([("held_by",.ref J),("jammed",.ref L),("taken",.ref O),("places",.int B),("stands",.ref I),("went",.ref l4)])))) b=some o:=λh e=>up _ _ (one h) (x2 _ _ (one h) (x1 _ _ (one h) (kW _ _ (one h) e)));have back:∀ {b},b≠p->Y b=none->H1 b=none:=λ{b} h e=>by
   cases z:H1 b with
   | none=>rfl
   | some o=>rw [kW _ _ (one h) z] at e;cases e
  have pN:∀ {b},b≠p->H1 b=none->H b=none:=λ{b} h e=>by
   cases z:H b with
   | none=>rfl
   | some o=>rw [x0 _ _ (one h) z] at e;cases e
  have aaN:∀ {b},b≠p->bE b=none->Y b=none:=λ{b} h e=>by
   cases z:Y b with
   | none=>rfl
   | some o=>rw [x1 _ _ (one h) z] at e;cases e
  have g2:=back dR f1;have g4:=back dU (aaN dU f2);have z2:∀ {b o},H1 b=some o->b≠I:=λe=>Cb e g2;have z4:∀ {b o},H1 b=some o->b≠l4:=λe=>Cb e g4;refine q _ J L O I l4 (λb o hb e=>up _ _ hb (x2 _ _ hb (x1 _ _ hb (kW _ _ hb (x0 _ _ hb e))))) ⟨⟨dx,Ai⟩,cs,t1 npa ha,t1 npb hb,t1 npc hc,?_,?_,?_,by rw [UR,UR],by rw [UR,UR],by rw [UR,UR],by rw [UR,UR],by rw [UR];omega⟩ fa fb fc (pN dR g2) (pN dU g4)
  .rw [XC];exact up _ _ (one dR) (x2 _ _ (one dR) c1)
  .rw [XC];exact up _ _ (one dU) c2
  .simp only [Uv,T8,UT,or_false,not_or,not_false_eq_true,Wu,and_true];exact ⟨⟨ab,ac,z2 ha,z4 ha⟩,⟨bc,z2 hb,z4 hb⟩,⟨z2 hc,z4 hc⟩,Cb c1 f2⟩
theorem JC {H:Hp}{a b:Addr}{o:HO}(h:H b≠none):upd H a o b≠none:=by
 by_cases e:b=a
 .subst e;rw [Ai];simp
 .rw [Ap e];exact h
theorem Qx:AR ["self","place","k","steps"] ["self","place"] (Ab (Ad (top 23) 1)):=.of
theorem En:Nm (Ab (Ad (top 23) 1)) "self":=.of
theorem L8:Nm (Ab (Ad (top 23) 1)) "place":=.of
theorem EU:Nm (Ab (Ad (top 23) 1)) "k":=.of
theorem L9:Nm (Ab (Ad (top 23) 1)) "steps":=.of
theorem Ae3:Gm (Ab (Ad (top 23) 1)) "len":=.of
theorem Ae4 (F:AL K "take" "Seekers.take" (Ad (top 23) 1) f fd)(T:TxtK K mg a)(kX:∀ C∈a.bx,AO P w K mg base AA 1 C "first_free" ["self","start"] (LU K a))(gA:∀ C∈a.bx,AO P w K mg base AA 1 C "hold" ["self","k","who"] (LR K a)) :
  AE P w K mg base AA 2 f fd ["self","place"] (Qw K a):=by
 refine F.ok Qx λak A outer s H vs Q E hr h=>?_
 .obtain ⟨p,C,I,rb,J,O,rw,hs,js,ts,B,mark,st,wt,place,rfl,k,h0,h1,aV,q⟩:=h;obtain ⟨dx,hp⟩:=k.ins;have nd:=Qx.nd;have kY:=kX C k.cs.c.mem;have kZ:=gA C k.cs.c.mem;have cls:=k.cs.c.cls;have hz:=k.z;have ls:=k.ls;have lw:=k.lw;have lt:=k.lt;have F3:=JB I rb J B O rw mark;refine ⟨_,(@Aj _ _ _ _ _ (Bb 2 nd EU (A2 kY cls (Aa 0 En) hr.d A1 (Ac (Ax (Aa 0 En) rfl) Af)))
    (Aj (AZ (A0 EF (Aa 2 EU) B8 (A6 _)) (Al (AN B8)) A5)
    (Aj (Bb 3 nd L9 (AD B3 (AD F2 (Aa 1 L8) (Bi Bx (Ax (Aa 0 En) rfl) (Aa 2 EU) (λ_ _=>rfl))) (Ax (Aa 0 En) rfl)))
    (Aj (EA (Aa 1 L8) (Fn (Ax (Aa 0 En) rfl) (Aa 2 EU) DS))
    (Aj (KI (Ax (Aa 0 En) rfl) (Aa 2 EU) Lj (Aa 3 L9) KJ DS)
    (Aj (Bm (A2 kZ cls (Aa 0 En) hr.d A1 (Ac (Aa 2 EU) (Ac (Aa 1 L8) Af))))
    (Aj (Bs (Aa 0 En) (AD B3 (AD Cr (Aa 2 EU) Aq) (BR Cw Ae3 T.n_len Cn (Ac (Ax (Aa 0 En) rfl) Af))) rfl)
    (Al (AN (BE (Ac (Aa 2 EU) (Ac (Aa 3 L9) Af)))))))))))),?_⟩
  try dsimp only [aC,aD]
  walk_at"";refine Dv hp (F3.m _ (by decide)) ?_;walk_at"";refine AI p C dx _ _ rfl hp cls k.cs.m rfl ?_;walk_at"";refine EK p mark C I rb J hs js ts rfl ⟨k.r,h0,h1,λH1 s1=>?_⟩;cases hf:BF hs js mark with
  | none =>
   rw [hf] at q;walk_at"";exact q H1 s1
  | some D =>
   rw [hf] at q;obtain ⟨⟨k0,k1⟩,_⟩:=Em h0 h1 hf;have Y:=k.same s1;have gx:=s1 _ _ hp;have ap:=k.ap;simp only [Uv,T8,UT,or_false,not_or,not_false_eq_true,Wu,and_true] at ap;obtain ⟨⟨a1,a2,a3,a4⟩,⟨b1,b2,b3⟩,⟨c1,c2⟩,d1⟩:=ap;have L:∀ {b xs},H b=some (.lst xs)->p≠b:=λh=>Iu hp h (by intro z;cases z);walk_at"";refine AI p C dx _ _ rfl gx cls k.cs.s rfl ?_;walk_at"";refine T9 (BK (.of Y.fN) (Gb k0 (by omega)) ?_);walk_at"";refine AI p C dx _ _ rfl gx cls k.cs.p rfl ?_;walk_at"";refine AI p C dx _ _ rfl gx cls k.cs.s rfl ?_;walk_at"";refine BK Y.fN (DZ k0 (by rw [TU];omega)) ?_;rw [show (st.map V.int).set D.toNat (.int place)=(st.set D.toNat place).map V.int from (Vb ..).symm];generalize k6:upd H1 O (.lst ((st.set D.toNat place).map V.int))=H2;have x2:∀ {b o},b≠O->H1 b=some o->H2 b=some o:=λh e=>by rw [<- k6,Ap h];exact e
   have e2:H2 O=some (.lst ((st.set D.toNat place).map V.int)):=k6▸Ai;have eV:=x2 (L k.fN) gx;walk_at"";refine AI p C dx _ _ rfl eV cls k.cs.w rfl ?_;walk_at"";refine A9 rw _ D _ rfl rfl k0 (.of (x2 (Uj d1) Y.hw)) (Gb k0 (by omega)) ?_;walk_at"";refine BK (x2 (Uj d1) Y.hw) (DZ k0 (by rw [TU];omega)) ?_;rw [show (wt.map V.int).set D.toNat (.int (wt.getD D.toNat 0+(place - st.getD D.toNat 0) % B))=(wt.set D.toNat (wt.getD D.toNat 0+(place - st.getD D.toNat 0) % B)).map V.int from (Vb ..).symm];generalize k8:upd H2 rw (.lst ((wt.set D.toNat (wt.getD D.toNat 0+(place - st.getD D.toNat 0) % B)).map V.int))=H3;have x3:∀ {b o},b≠rw->H2 b=some o->H3 b=some o:=λh e=>by rw [<- k8,Ap h];exact e
   have e3:H3 rw=some (.lst ((wt.set D.toNat (wt.getD D.toNat 0+(place - st.getD D.toNat 0) % B)).map V.int)):=k8▸Ai;have k9:=x3 (L k.hw) eV;have y3:∀ {b o},b≠O->b≠rw->H1 b=some o->H3 b=some o:=λh h' e=>x3 h' (x2 h e);have R3:Co K a H3 p C I rb J hs js ts:=⟨⟨dx,_,k9,F3⟩,k.cs.c,y3 a3 a4 Y.ha,y3 b2 b3 Y.hb,y3 c1 c2 Y.hc,a1,a2,b1,k.lj,k.lt,k.z⟩;walk_at"";refine Dv k9 (F3.m _ (by decide)) ?_;walk_at"";refine ⟨p,D,.int place,C,I,rb,J,hs,js,ts,rfl,R3,k0,k1,?_⟩;generalize jF:upd (upd H3 I (.lst (hs.set D.toNat (.int place)))) J (.lst ((ts.set D.toNat (ts.getD D.toNat 0+1)).map V.int))=H4;have x4:∀ {b o},b≠I->b≠J->H3 b=some o->H4 b=some o:=λh h' e=>by rw [<- jF,Ap h',Ap h];exact e
   have e4a:H4 I=some (.lst (hs.set D.toNat (.int place))):=by rw [<- jF,Ap a2,Ai]
   have e4c:H4 J=some (.lst ((ts.set D.toNat (ts.getD D.toNat 0+1)).map V.int)):=jF▸Ai;have gB:=x4 (L k.ha) (L k.hc) k9;have pO:=x4 (Uj a3) (Uj c1) (x3 d1 e2);have e4w:=x4 (Uj a4) (Uj c2) e3;walk_at"";refine AI p C dx _ _ rfl gB cls k.cs.s rfl ?_;walk_at"";refine T1 (BL _ _ rfl (.inl (.of pO)) ?_);rw [TU,Ud,ls];walk_at"";refine A9 p C dx _ rfl gB cls k.cs.m (by show 7<1000;decide) ?_;walk_at"";refine ⟨Aw,λt nt=>?_⟩;have v5:∀ {b o},b≠p->H4 b=some o->(upd (upd H4 p (.ins C dx (FD I rb J B O rw ((D+1) % hs.length)))) t (.tup [.int D,.int ((place - st.getD D.toNat 0) % B)])) b=some o:=λ{b o} h e=>by
    have e':(upd H4 p (.ins C dx (FD I rb J B O rw ((D+1) % hs.length)))) b=some o:=by rw [Ap h];exact e
    rw [Ap (Cb e' nt)];exact e'
   have pP:p≠t:=Cb (show (upd H4 p (.ins C dx (FD I rb J B O rw ((D+1) % hs.length)))) p=some _ from Ai) nt;refine q _ t (λb o hb e=>?_) ?_ Ai ⟨⟨dx,by rw [Ap pP];exact Ai⟩,k.cs,v5 (L k.ha).symm e4a,v5 (L k.hb).symm (x4 (Uj a1) b1 (y3 b2 b3 Y.hb)),v5 (L k.hc).symm e4c,v5 (L k.fN).symm pO,v5 (L k.hw).symm e4w,k.ap,
    by rw [Ud];exact k.lj,by rw [Ud,Ud];exact k.lt,by rw [Ud,Ud];exact k.ls,by rw [Ud,Ud];exact k.lw,by rw [Ud];exact k.z⟩
   .simp only [T8,UT,or_false,not_or] at hb;obtain ⟨n1,n2,n3,n4,n5⟩:=hb;exact v5 n1 (x4 n2 n3 (y3 n4 n5 (s1 _ _ e)))
   .cases z:H t with
    | none=>rfl
    | some o =>
     have e1:=s1 _ _ z;exfalso
     have e4':H4 t≠none:=jF▸JC (JC (k8▸JC (k6▸JC (by rw [e1];simp))));rw [Ap pP.symm] at nt;exact e4' nt
abbrev AK:=List (Addr×HO)
structure At (H:Hp)(C:AK):Prop where
 at_:∀ c∈C,H c.1=some c.2
 nd:(C.map (·.1)).Nodup
noncomputable def Gn:HO->Bool
 | .tup _=>true
 | .aL _ _=>true
 | _=>false
structure Ah (H H':Hp):Prop where
 f:∀ b o,Gn o=true->H b=some o->H' b=some o
section
variable {H H' pQ:Hp}{C C' P M M' R:AK}{a b:Addr}{o o' u:HO}{ws:List Addr}{α:Type}{l:List α}{f:α->AK}{i:Nat}{x y:α}
theorem Ah.of (s:Ag H H'):Ah H H':=⟨λb o _ e=>s _ _ e⟩
theorem Ah.refl:Ah H H:=⟨λ_ _ _ e=>e⟩
theorem Ah.trans (s:Ah H H')(t:Ah H' pQ):Ah H pQ:=⟨λb o i e=>t.f _ _ i (s.f _ _ i e)⟩
theorem Ah.t {ys:List V}(s:Ah H H')(e:H b=some (.tup ys)):H' b=some (.tup ys):=s.f _ _ rfl e
theorem Ah.sq {K:TH}{xs:List V}(s:Ah H H')(h:Bl K H a xs):Bl K H' a xs:=by
 rcases h with (h | ⟨o,h⟩) | h
 .exact .inl (.inl (s.f _ _ rfl h))
 .exact .inl (.inr ⟨o,s.f _ _ rfl h⟩)
 .exact .inr h
mutual
noncomputable def Ce:PyData->Bool
 | .list _=>false
 | .dict _=>false
 | .tuple ds=>bX ds
 | _=>true
noncomputable def bX:List PyData->Bool
 | []=>true
 | d :: ds=>Ce d && bX ds
end
mutual
theorem Is.av {K:TH}:∀(d:PyData){x:V},Ce d=true->Is K H x d->Ah H H'->Is K H' x d
 | .none,_,_,r,_=>by cases r;exact .aa
 | .bool _,_,_,r,_=>by cases r;exact .bl _
 | .int _,_,_,r,_=>by cases r;exact .int _
 | .str _,_,_,r,_=>by cases r;exact .str _
 | .list ds,_,n,r,e=>by cases n
 | .tuple ds,_,n,r,e=>by cases r with | tup B D=>exact .tup (e.sq B) (aW.av ds n D e)
 | .dict _,_,_,r,_=>nomatch r
theorem aW.av {K:TH}:∀(ds:List PyData){xs:List V},bX ds=true->aW K H xs ds->Ah H H'->aW K H' xs ds
 | [],_,_,r,_=>by cases r;exact .nil
 | d :: ds,_,n,r,e=>by
  have n:(Ce d && bX ds)=true:=n;rw [Vu] at n;cases r with | cons B D=>exact .cons (Is.av d n.1 B e) (aW.av ds n.2 D e)
end
theorem At.same (t:At H C)(s:Ag H H'):At H' C:=⟨λc m=>s _ _ (t.at_ c m),t.nd⟩
theorem At.perm (t:At H C)(p:C'.Perm C):At H C':=⟨λc m=>t.at_ c (p.mem_iff.mp m),(p.map _).nodup_iff.mpr t.nd⟩
theorem At.swap (t:At H (P++(M++R))):At H (M++(P++R)):=t.perm (by rw [<- Ur,<- Ur];exact ZI R uO)
theorem At.get (t:At H C)(m:(a,o)∈C):H a=some o:=t.at_ _ m
theorem At.hd (t:At H ((a,o) :: C)):H a=some o:=t.at_ _ UC
theorem At.tl (t:At H ((a,o) :: C)):At H C:=⟨λc m=>t.at_ c (Uu _ m),(Uv.mp t.nd).2⟩
theorem At.right (t:At H (P++R)):At H R:=⟨λc m=>t.at_ c (UD _ m),by have:=t.nd;rw [Um] at this;exact (Wt.mp this).2.1⟩
theorem At.left (t:At H (P++R)):At H P:=⟨λc m=>t.at_ c (WB _ m),by have:=t.nd;rw [Um] at this;exact (Wt.mp this).1⟩
theorem At.free (t:At H C)(n:H b=none):b ∉ C.map (·.1):=λm=>by
 obtain ⟨c,mc,rfl⟩:=Ua.mp m;rw [t.at_ c mc] at n;cases n
theorem At.new (t:At H C)(n:H b=none):At (upd H b u) ((b,u) :: C):=by
 refine ⟨λc m=>?_,Uv.mpr ⟨t.free n,t.nd⟩⟩;rcases T8.mp m with rfl | m
 .exact Ai
 .rw [Ap (λz=>t.free n (Ua.mpr ⟨c,m,z⟩))];exact t.at_ c m
theorem At.iG (t:At H ((a,o) :: R)):At (upd H a o') ((a,o') :: R):=by
 have B:=Uv.mp t.nd;refine ⟨λc m=>?_,t.nd⟩;rcases T8.mp m with rfl | m
 .exact Ai
 .rw [Ap (λz=>B.1 (Ua.mpr ⟨c,m,z⟩))];exact t.at_ c (Uu _ m)
theorem At.front (t:At H (P++(a,o) :: R)):At H ((a,o) :: (P++R)):=t.perm (Yv.symm)
theorem At.back (t:At H ((a,o) :: (P++R))):At H (P++(a,o) :: R):=t.perm Yv
theorem At.set (t:At H (P++(a,o) :: R)):At (upd H a o') (P++(a,o') :: R):=t.front.iG.back
theorem At.part (t:At H (M++R))(s:Cd ws H H')(sub:∀ w∈ws,w∈M.map (·.1))(e:M'.map (·.1)=M.map (·.1))(h:∀ c∈M',H' c.1=some c.2):At H' (M'++R):=by
 have B:=t.nd;rw [Um] at B;obtain ⟨I,J,D⟩:=Wt.mp B;refine ⟨λc m=>?_,by rw [Um,e];exact B⟩;rcases U1.mp m with m | m
 .exact h c m
 .exact s _ _ (λz=>D _ (sub _ z) _ (Ua.mpr ⟨c,m,rfl⟩) rfl) (t.at_ c (UD _ m))
theorem At.av (t:At H C)(s:Cd ws H H')(sub:∀ w∈ws,w∈C.map (·.1))(k:∀ c∈C,Gn c.2=false):Ah H H':=⟨λb o i e=>s _ _ (λm=>by
 obtain ⟨c,mc,B⟩:=Ua.mp (sub b m);have h:=t.at_ c mc;rw [B,e] at h;have:=k c mc;rw [<- Uk h,i] at this;cases this) e⟩
theorem Ah.chg (t:H a=some o)(k:Gn o=false):Ah H (upd H a u):=⟨λb v i e=>by
 rw [Ap (λz=>by rw [z,t] at e;rw [<- Uk e,k] at i;cases i)];exact e⟩
theorem Ah.new (n:H a=none):Ah H (upd H a u):=.of ((Ag.refl H).upd n)
theorem Qy (h:l[i]?=some x):l.flatMap f=(l.take i).flatMap f++(f x++(l.drop (i+1)).flatMap f):=by
 obtain ⟨B,ex⟩:=Uy.mp h;conv=>lhs;rw [<- uK i l,List.drop_eq_getElem_cons B,ex]
 rw [Yw,List.flatMap_cons]
theorem Ae5 (h:i<l.length):(l.set i y).flatMap f=(l.take i).flatMap f++(f y++(l.drop (i+1)).flatMap f):=by rw [Qy (l:=l.set i y) (x:=y) (by rw [VD h]),List.take_set_of_le (T3 i),List.drop_set_of_lt (Xq i)]
theorem At.pick (t:At H (P++(l.flatMap f++R)))(h:l[i]?=some x):At H (f x++(P++((l.take i).flatMap f++((l.drop (i+1)).flatMap f++R)))):=by rw [Qy h,Ur,Ur,<- Ur P] at t;have:=t.swap;rw [Ur] at this;exact this
theorem At.put (t:At H (f y++(P++((l.take i).flatMap f++((l.drop (i+1)).flatMap f++R)))))(h:i<l.length):At H (P++((l.set i y).flatMap f++R)):=by rw [Ae5 h,Ur,Ur,<- Ur P];rw [<- Ur P] at t;exact t.swap
end
structure TxtP (K:TH)(mg:Str->Option Value)(a:Ak):Prop extends Txt K mg a where
 pR:mg "all"=none
 fJ:mg "list"=none
 dP:mg "tuple"=none
 iH:mg "sorted"=none
 pS:mg "set"=none
 aaO:mg "min"=none
 pT:∃ t,mg "SIGNS"=some (UQ "0123456789" t)
 pU:∃ t,mg "LEAST_LONG"=some (U3 2 t)
 pV:∃ t,mg "MOST_LONG"=some (U3 4 t)
 pW:∃ t,mg "MOST_LINES"=some (U3 60 t)
 pX:∃ t,mg "MOST_SEEKERS"=some (U3 60 t)
 pY:∃ t,mg "MOST_GROUPS"=some (U3 40 t)
 pZ:∃ t,mg "MOST_SWITCHES"=some (U3 10 t)
 cN:mg "BadPlan"=some (.ref a.eR)
 du:Vn K a.eR [.type "ValueError",.type "Exception",.type "BaseException",.type "object"] "ValueError.__new__"=true
noncomputable def Hz (c:Nat):Bool:=decide (48<=c) && decide (c<=57)
theorem Qz {c:Nat}:Hz c=true↔48<=c/\c<=57:=by unfold Hz;rw [Vu,decide_eq_true_eq,decide_eq_true_eq]
theorem Ae6:∀ c:Nat,c<128->F9 ⟨#[c]⟩ "0123456789"=Hz c:=by decide +kernel
theorem Ae7 {z:Str}(h:C8 z):z.cps.all (·<128)=true:=by rw [<- uP,Xb];intro c hc;exact decide_eq_true (h c hc)
def Ma:Sp:=λvs H Q _=>∃ z:Str,vs=[.str z]/\C8 z/\z.length<=1000/\∀ b H',(b=true↔Ca z)->Ag H H'->Q (.bl b) H'
def QA (a:Ak):Sp:=λvs H Q E=>∃ long bL:Int,vs=[.int long,.int bL]/\(2<=long/\long<=4/\1<=bL/\bL<=60->Q .aa H)/\(¬ (2<=long/\long<=4/\1<=bL/\bL<=60)->E (.ref a.eR) none H)
theorem QB:AR ["text"] ["text"] (Ab (top 11)):=.of
theorem Ae8:Nm (Ab (top 11)) "text":=.of
theorem Ae9:Gm (Ab (top 11)) "all":=.of
noncomputable def Mb:Scope:={ kind:=.function,names:=[(".0",.local),("sign",.local),("SIGNS",.globalImplicit)],isGenerator:=false,isCoroutine:=false,more:=[] }
theorem QC:Bh Mb (Ab (top 11)) ["sign"] ["text"] [none]:=Bh.mk' rfl (by decide +kernel) (by decide +kernel) (by decide +kernel) (by decide +kernel) rfl (by decide +kernel)
theorem QD:Nm Mb "sign":=.of
theorem Afa:Gm Mb "SIGNS":=.of
theorem Afb (F:AL K "are_figures" "are_figures" (top 11) f fd)(T:TxtP K mg a):AE P w K mg base AA 1 f fd ["text"] Ma:=by
 refine F.ok QB λak A outer s H vs Q E hr h=>?_
 .obtain ⟨z,rfl,Y,hl,q⟩:=h;have nd:=QB.nd;refine ⟨_,(@Al _ _ _ (AN (BR (Adb rfl) Ae9 T.pR AcD (Ac (Ej rfl QC (Acp (Aa 0 Ae8)) (λI C fp pins s₂ H₂=>(Bt 0 QC.nd QD.comp)) (λI C fp pins s₂ H₂=>DD) (λI C fp pins s₂ H₂=>(IH (AcV K rfl) (Aa 0 QD.comp) (Hr Afa.comp T.pT) (by with_unfolding_all rfl)))) Af)))),?_⟩;try dsimp only [aC,aD]
  walk_at"";refine ⟨Ae7 Y,λD hD=>?_⟩;have ll:z.cps.toList.length<=1000:=by rw [<- Gj];exact hl
  refine AdH (z:=z) (λi σ B=>∃ x,σ=[x]/\Ag H B/\B D=some (.lst (((z.cps.toList.take i).map Hz).map V.bl))) ⟨none,rfl,(Ag.refl H).upd hD,Ai⟩ ?_ ?_
  .intro i c σ B hc L;obtain ⟨x,rfl,O,J⟩:=L;have I:c<128:=Y c (Ue hc);walk_at"";refine ⟨_,J,?_,_,rfl,O.bI hD,?_⟩
   .rw [TU,TU,Vt,TY];omega
   .have e:V.bl (F9 ⟨#[c]⟩ "0123456789")=V.bl (Hz c):=by rw [Ae6 c I]
    rw [Ai,VB,hc,Um,Um];show some (HO.lst (_++[V.bl (F9 ⟨#[c]⟩ "0123456789")]))=_;rw [e];rfl
  .intro σ B L;obtain ⟨x,rfl,O,J⟩:=L;rw [VC] at J;refine CU D _ rfl ⟨.of J,q _ B ?_ O⟩;rw [List.all_map,Xb];exact ⟨λh c hc=>Qz.mp (h c hc),λh c hc=>Qz.mpr (h c hc)⟩
theorem Afc:AR ["long","seekers"] ["long","seekers"] (Ab (top 36)):=.of
theorem Afd:Nm (Ab (top 36)) "long":=.of
theorem Afe:Nm (Ab (top 36)) "seekers":=.of
theorem QE:Gm (Ab (top 36)) "within":=.of
theorem Afg:Gm (Ab (top 36)) "MOST_SEEKERS":=.of
theorem QF:Gm (Ab (top 36)) "BadPlan":=.of
theorem Afh:Gm (Ab (top 36)) "MOST_LONG":=.of
theorem Afi:Gm (Ab (top 36)) "LEAST_LONG":=.of
theorem Afj (F:AL K "check_counts" "check_counts" (top 36) f fd)(T:TxtP K mg a)(I:BX P w K mg base AA 1 "within" ["number","least","most"] Gk):AE P w K mg base (AJ P w) 2 f fd ["long","seekers"] (QA a):=by
 refine F.bf Afc λV A outer s H vs Q E J h=>?_
 .obtain ⟨l,k,rfl,O,L⟩:=h;refine ⟨_,(@Aj _ _ _ _ _ (AZ (Dr (Dj (BS I QE J.d A1 (Ac (Aa 0 Afd) (Ac (Gf Afi T.pU) (Ac (Gf Afh T.pV) Af)))))) (Al (CN CM QF rfl T.du T.cN (Ac Az Af))) A5)
    (Al (AZ (Dr (Dj (BS I QE J.d A1 (Ac (Aa 1 Afe) (Ac Aq (Ac (Gf Afg T.pX) Af)))))) (Al (CN CM QF rfl T.du T.cN (Ac Az Af))) A5))),?_⟩
  try dsimp only [aC,aD]
  walk_at"";refine B5 l 2 4 rfl ?_;walk_at"";by_cases B:2<=l/\l<=4
  .rw [decide_eq_true B.1,decide_eq_true B.2];refine BW ?_;walk_at"";refine B5 k 1 60 rfl ?_;walk_at"";by_cases D:1<=k/\k<=60
   .rw [decide_eq_true D.1,decide_eq_true D.2];refine BW ?_;exact O ⟨B.1,B.2,D.1,D.2⟩
   .have e:(decide (1<=k) && decide (k<=60))=false:=WU.mpr λz=>D (by simpa using z);rw [e];refine BQ ?_;walk_at"";exact ⟨Aw,L λz=>D z.2.2⟩
  .have e:(decide (2<=l) && decide (l<=4))=false:=WU.mpr λz=>B (by simpa using z);rw [e];refine BQ ?_;walk_at"";exact ⟨Aw,L λz=>B ⟨z.1,z.2.1⟩⟩
def Ok (z:Str):Prop:=C8 z/\z.length<=20
def Mc (long:Int)(zs:List Str):Prop:=(1<=zs.length/\zs.length<=60)/\(∀ z∈zs,(z.length:Int)=long/\Ca z)/\zs.Nodup
def QG (a:Ak)(K:TH):Sp:=λvs H Q E=>∃(long:Int)(p:Addr)(zs:List Str),vs=[.int long,.ref p]/\0<=long/\long<=1000/\H p=some (.lst (zs.map V.str))/\(∀ z∈zs,Ok z)/\zs.length<2000/\(Mc long zs->∀ H',Ag H H'->Q .aa H')/\(¬ Mc long zs->∀ H',Ag H H'->E (.ref a.eR) none H')
theorem HH {z:Str}(h:Ok z):(Zh z).length<=1000:=by
 have B:=StrLaws.reprText_len z λc hc=>by have:=h.1 c hc;omega
 have:=h.2;omega
theorem QH {α:Type}{xs:List α}{i:Nat}{x:α}{R:α->Prop}(h:xs[i]?=some x)(d:∀ y∈xs.take i,R y)(hx:R x):∀ y∈xs.take (i+1),R y:=by
 rw [VB,h];intro y hy;rcases U1.mp hy with z | z
 .exact d y z
 .have:y=x:=by simpa using z
  rw [this];exact hx
theorem QI:AR ["long","lines","number"] ["long","lines"] (Ab (top 37)):=.of
theorem QJ:Nm (Ab (top 37)) "long":=.of
theorem JD:Nm (Ab (top 37)) "lines":=.of
theorem JE:Nm (Ab (top 37)) "number":=.of
theorem JF:Gm (Ab (top 37)) "len":=.of
theorem Afk:Gm (Ab (top 37)) "set":=.of
theorem Md:Gm (Ab (top 37)) "BadPlan":=.of
theorem Afl:Gm (Ab (top 37)) "are_figures":=.of
theorem Afm:Gm (Ab (top 37)) "within":=.of
theorem Afn:Gm (Ab (top 37)) "MOST_LINES":=.of
theorem Afo (F:AL K "check_lines" "check_lines" (top 37) f fd)(T:TxtP K mg a)(bR:BX P w K mg base AA 1 "within" ["number","least","most"] Gk)(gC:BX P w K mg base AA 1 "are_figures" ["text"] Ma) :
  AE P w K mg base (AJ P w) 2 f fd ["long","lines"] (QG a K):=by
 refine F.bf QI λak A outer s H vs Q E hr h=>?_
 .obtain ⟨J,p,zs,rfl,l0,l1,hp,ok,aJ,q1,q2⟩:=h;have hu:=hr.units;have nd:=QI.nd;refine ⟨_,(@Aj _ _ _ _ _ (AZ (Dr (Dj (BS bR Afm hr.d A1 (Ac (BR Cw JF T.n_len Cn (Ac (Aa 1 JD) Af)) (Ac Aq (Ac (Gf Afn T.pW) Af)))))) (Al (CN CM Md rfl T.du T.cN (Ac Az Af))) A5)
    (Aj (Dt ZJ rfl (Ds (Aa 1 JD)) (Bt 2 nd JE) (Al (AZ (PW.pt (IA (A0 (DC hu) (BR Cw JF T.n_len Cn (Ac (Aa 2 JE) Af)) (Aa 0 QJ) (A6 _)) (Iz (Dr (Dj (BS gC Afl hr.d A1 (Ac (Aa 2 JE) Af))))))) (Al (CN CM Md rfl T.du T.cN (Ac (Fy (Ck (Hh (Aa 2 JE)) (Ck Az (Ck (Hn (Aa 0 QJ)) (Ck Az Fx))))) Af))) A5)))
    (Al (AZ (A0 (DC hu) (BR (Pz (w:=w) rfl) JF T.n_len Cn (Ac (Cy (Adx (w:=w) rfl rfl) Afk T.pS AcC (Ac (Aa 1 JD) Af)) Af)) (BR Cw JF T.n_len Cn (Ac (Aa 1 JD) Af)) (A6 _)) (Al (CN CM Md rfl T.du T.cN (Ac Az Af))) A5)))),?_⟩
  try dsimp only [aC,aD]
  walk_at"";refine T1 (BL _ _ rfl (.inl (.of hp)) ?_);rw [TU];walk_at"";refine B5 _ 1 60 rfl ?_;walk_at"";by_cases h1:1<=zs.length/\zs.length<=60
  .have e1:(decide (1<=(zs.length:Int)) && decide ((zs.length:Int)<=60))=true:=by simp;omega
   rw [e1];refine BW ?_;walk_at"";refine ⟨⟨_,.of hp⟩,Fp (K:=K) (a:=p) (xs:=zs.map V.str) (λi σ O=>∃ x,σ=[some (.int J),some (.ref p),x]/\Ag H O/\∀ z∈zs.take i,(z.length:Int)=J/\Ca z) ⟨none,rfl,Ag.refl H,λz hz=>absurd hz (by simp)⟩ (λi σ O _ ⟨_,_,L,_⟩=>.of (L _ _ hp)) ?_ ?_⟩
   .intro i y σ O hi zq;obtain ⟨x,rfl,L,dn⟩:=zq;rw [T7] at hi;cases hk:zs[i]? with
    | none=>rw [hk] at hi;cases hi
    | some z =>
     rw [hk] at hi;cases hi;have hz:=ok z (Ue hk);have zl:z.length<=20:=hz.2;walk_at"";refine T9 (DW z rfl (by rw [TY];omega) ?_);walk_at"";have B:UI.length=0:=rfl;have D:(TK " is no number of ").length=17:=by decide +kernel
     have I:(TK " figures").length=8:=by decide +kernel
     have gD:=HH hz;by_cases he:(z.length:Int)=J
     .rw [decide_eq_true (congrArg V.int he)];refine BW ?_;walk_at"";refine ⟨hz.1,by omega,λb H3 hb Y=>?_⟩;walk_at"";cases b with
      | true =>
       refine BW ?_;exact ⟨_,rfl,L.trans Y,QH hk dn ⟨he,hb.mp rfl⟩⟩
      | false =>
       refine BQ ?_;walk_at"";refine ⟨(by simp only [Ba,B,D,I,TY];omega),?_⟩;walk_at"";refine ⟨(by simp only [Ba,B,D,I,TY];omega),?_⟩;walk_at"";refine ⟨(by simp only [Ba,B,D,I,TY];omega),?_⟩;walk_at"";refine T9 (Dm _ rfl ⟨l0,l1,λu la=>?_⟩);walk_at"";refine ⟨(by simp only [Ba,B,D,I,TY];omega),?_⟩;walk_at"";refine ⟨(by simp only [Ba,B,D,I,TY];omega),?_⟩;refine ⟨(by simp only [Ba,B,D,I,TY];omega),?_⟩;exact ⟨Aw,q2 (λk=>by have:=hb.mpr (k.2.1 z (Ue hk)).2;cases this) H3 (L.trans Y)⟩
     .rw [decide_eq_false (λk=>he (V.int.inj k))];refine BQ ?_;walk_at"";refine ⟨(by simp only [Ba,B,D,I,TY];omega),?_⟩;walk_at"";refine ⟨(by simp only [Ba,B,D,I,TY];omega),?_⟩;walk_at"";refine ⟨(by simp only [Ba,B,D,I,TY];omega),?_⟩;walk_at"";refine T9 (Dm _ rfl ⟨l0,l1,λu la=>?_⟩);walk_at"";refine ⟨(by simp only [Ba,B,D,I,TY];omega),?_⟩;walk_at"";refine ⟨(by simp only [Ba,B,D,I,TY];omega),?_⟩;refine ⟨(by simp only [Ba,B,D,I,TY];omega),?_⟩;exact ⟨Aw,q2 (λk=>he (k.2.1 z (Ue hk)).1) O L⟩
   .intro σ O zq;obtain ⟨x,rfl,L,dn⟩:=zq;rw [TU,VC] at dn;walk_at"";refine C6 p zs rfl (.of (L _ _ hp)) aJ (λl hl=>?_);have Y:Ag H (upd O l (B6 w l zs)):=L.upd hl;refine BL l zs rfl Ai (λn hn=>?_);walk_at"";refine T1 (BL _ _ rfl (.inl (.of (Y _ _ hp))) ?_);rw [TU];walk_at"";by_cases hd:zs.Nodup
    .rw [decide_eq_true (congrArg (λk:Nat=>V.int k) (hn.mpr hd))];refine BW ?_;exact q1 ⟨h1,dn,hd⟩ _ Y
    .have ne:¬ (V.int n=V.int zs.length):=λk=>hd (hn.mp (by have:=V.int.inj k;omega));rw [decide_eq_false ne];refine BQ ?_;walk_at"";exact ⟨Aw,q2 (λk=>hd k.2.2) _ Y⟩
  .have e1:(decide (1<=(zs.length:Int)) && decide ((zs.length:Int)<=60))=false:=WU.mpr λz=>h1 (by simp at z;omega);rw [e1];refine BQ ?_;walk_at"";exact ⟨Aw,q2 (λz=>h1 z.1) H (Ag.refl H)⟩
def Me (long:Int)(ts:List Pr):Prop:=ts.length<=40/\(∀ t∈ts,(1<=(t.2.1.length:Int)/\(t.2.1.length:Int)<=long - 2)/\Ca t.2.1/\0<=t.2.2/\t.2.2<=10)/\(ts.map (·.2.1)).Nodup
def QK (a:Ak):Sp:=λvs H Q E=>∃(long:Int)(p:Addr)(ts:List Pr),vs=[.int long,.ref p]/\0<=long/\long<=1000/\H p=some (.lst (ts.map B9))/\DY H ts/\(∀ t∈ts,Ok t.2.1)/\ts.length<2000/\(Me long ts->∀ H',Ag H H'->Q .aa H')/\(¬ Me long ts->∀ H',Ag H H'->E (.ref a.eR) none H')
theorem QL:AR ["long","groups","prefix","many"] ["long","groups"] (Ab (top 38)):=.of
theorem QM:Nm (Ab (top 38)) "long":=.of
theorem JG:Nm (Ab (top 38)) "groups":=.of
theorem JH:Nm (Ab (top 38)) "prefix":=.of
theorem QN:Nm (Ab (top 38)) "many":=.of
theorem JI:Gm (Ab (top 38)) "len":=.of
theorem JJ:Gm (Ab (top 38)) "BadPlan":=.of
theorem QO:Gm (Ab (top 38)) "within":=.of
theorem Afp:Gm (Ab (top 38)) "MOST_SWITCHES":=.of
theorem Afq:Gm (Ab (top 38)) "are_figures":=.of
theorem Afr:Gm (Ab (top 38)) "MOST_GROUPS":=.of
noncomputable def Mf:Scope:={ kind:=.function,names:=[(".0",.local),("prefix",.local),("many",.local)],isGenerator:=false,isCoroutine:=false,more:=[] }
theorem Mg:Bh Mf (Ab (top 38)) ["prefix","many"] ["long","groups","prefix","many"] [none,none]:=Bh.mk' rfl (by decide +kernel) (by decide +kernel) (by decide +kernel) (by decide +kernel) rfl (by decide +kernel)
theorem QP:Nm Mf "prefix":=.of
theorem Afs:Nm Mf "many":=.of
theorem Aft (F:AL K "check_groups" "check_groups" (top 38) f fd)(T:TxtP K mg a)(bR:BX P w K mg base AA 1 "within" ["number","least","most"] Gk)(gC:BX P w K mg base AA 1 "are_figures" ["text"] Ma) :
  AE P w K mg base (AJ P w) 2 f fd ["long","groups"] (QK a):=by
 refine F.bf QL λak A outer s H vs Q E hr h=>?_
 .obtain ⟨B,p,ts,rfl,l0,l1,hp,lay,ok,aJ,q1,q2⟩:=h;have hu:=hr.units;have nd:=QL.nd;refine ⟨_,(@Aj _ _ _ _ _ (AZ (A0 Of (BR Cw JI T.n_len Cn (Ac (Aa 1 JG) Af)) (Gf Afr T.pY) (A6 _)) (Al (CN CM JJ rfl T.du T.cN (Ac Az Af))) A5)
    (Aj (Dt ZJ rfl (Ds (Aa 1 JG)) (GQ rfl (CJ (Bt 2 nd JH) (CJ (Bt 3 nd QN) Ez))) (Aj (AZ (PW.pt (IA (Dr (Dj (BS bR QO hr.d A1 (Ac (BR Cw JI T.n_len Cn (Ac (Aa 2 JH) Af)) (Ac Aq (Ac (AD F2 (Aa 0 QM) Aq) Af)))))) (Iz (Dr (Dj (BS gC Afq hr.d A1 (Ac (Aa 2 JH) Af))))))) (Al (CN CM JJ rfl T.du T.cN (Ac (Fy (Ck (Hh (Aa 2 JH)) (Ck Az (Ck (Hn (Aa 0 QM)) (Ck Az Fx))))) Af))) A5)
     (Al (AZ (Dr (Dj (BS bR QO hr.d A1 (Ac (Aa 3 QN) (Ac Aq (Ac (Gf Afp T.pZ) Af)))))) (Al (CN CM JJ rfl T.du T.cN (Ac Az Af))) A5))))
    (Al (AZ (A0 (DC hu) (BR (Pz (w:=w) rfl) JI T.n_len Cn (Ac (AdG (w:=w) rfl rfl Mg (Ds (Aa 1 JG)) (λcl C fp pins s₂ H₂=>(Jh (X:=AU _ _ _ cl C fp pins s₂ H₂) K rfl 2 rfl (CJ (Bt 0 Mg.nd QP.comp) (CJ (Bt 1 Mg.nd Afs.comp) Ez)) rfl rfl)) (λcl C fp pins s₂ H₂=>DD) (λcl C fp pins s₂ H₂=>(Aa 0 QP.comp))) Af)) (BR Cw JI T.n_len Cn (Ac (Aa 1 JG) Af)) (A6 _)) (Al (CN CM JJ rfl T.du T.cN (Ac Az Af))) A5)))),?_⟩
  try dsimp only [aC,aD]
  walk_at"";refine T1 (BL _ _ rfl (.inl (.of hp)) ?_);rw [TU];walk_at"";by_cases h1:(ts.length:Int) > 40
  .refine DV (decide_eq_true h1) ?_;walk_at"";exact ⟨Aw,q2 (λz=>by have:=z.1;omega) H (Ag.refl H)⟩
  refine Dl (decide_eq_false h1) ?_;walk_at"";refine ⟨⟨_,.of hp⟩,Fp (K:=K) (a:=p) (xs:=ts.map B9) (λi σ H2=>∃ x y,σ=[some (.int B),some (.ref p),x,y]/\Ag H H2/\∀ t∈ts.take i,(1<=(t.2.1.length:Int)/\(t.2.1.length:Int)<=B - 2)/\Ca t.2.1/\0<=t.2.2/\t.2.2<=10) ⟨none,none,rfl,Ag.refl H,λz hz=>absurd hz (by simp)⟩ (λi σ H2 _ ⟨_,_,_,I,_⟩=>.of (I _ _ hp)) ?_ ?_⟩
  .intro i y σ H2 Y zq;obtain ⟨x,y',rfl,I,dn⟩:=zq;rw [T7] at Y;cases hk:ts[i]? with
   | none=>rw [hk] at Y;cases Y
   | some t =>
    rw [hk] at Y;cases Y;have tm:=Ue hk;have hz:=ok t tm;have zl:t.2.1.length<=20:=hz.2;have J:UI.length=0:=rfl;have L:(TK " is no prefix where numbers have ").length=33:=by decide +kernel
    have O:(TK " figures").length=8:=by decide +kernel
    have gD:=HH hz;refine ⟨t.1,_,rfl,.of (I _ _ (lay t tm)),rfl,?_⟩;walk_at"";refine T9 (DW _ rfl (by rw [TY];omega) ?_);walk_at"";refine B5 _ 1 (B - 2) rfl ?_;walk_at"";by_cases hw:1<=(t.2.1.length:Int)/\(t.2.1.length:Int)<=B - 2
    .rw [decide_eq_true hw.1,decide_eq_true hw.2];refine BW ?_;walk_at"";refine ⟨hz.1,by omega,λb H3 hb s3=>?_⟩;walk_at"";cases b with
     | true =>
      refine BW ?_;walk_at"";refine B5 _ 0 10 rfl ?_;walk_at"";by_cases hm:0<=t.2.2/\t.2.2<=10
      .rw [decide_eq_true hm.1,decide_eq_true hm.2];refine BW ?_;exact CU _ _ rfl ⟨I.trans s3,QH hk dn ⟨hw,hb.mp rfl,hm.1,hm.2⟩⟩
      .have e:(decide (0<=t.2.2) && decide (t.2.2<=10))=false:=WU.mpr λz=>hm (by simpa using z);rw [e];refine BQ ?_;walk_at"";exact ⟨Aw,q2 (λk=>hm (k.2.1 t tm).2.2) H3 (I.trans s3)⟩
     | false =>
      refine BQ ?_;walk_at"";refine ⟨(by simp only [Ba,J,L,O,TY];omega),?_⟩;walk_at"";refine ⟨(by simp only [Ba,J,L,O,TY];omega),?_⟩;walk_at"";refine ⟨(by simp only [Ba,J,L,O,TY];omega),?_⟩;walk_at"";refine T9 (Dm _ rfl ⟨l0,l1,λu la=>?_⟩);walk_at"";refine ⟨(by simp only [Ba,J,L,O,TY];omega),?_⟩;walk_at"";refine ⟨(by simp only [Ba,J,L,O,TY];omega),?_⟩;refine ⟨(by simp only [Ba,J,L,O,TY];omega),?_⟩;exact ⟨Aw,q2 (λk=>by have:=hb.mpr (k.2.1 t tm).2.1;cases this) H3 (I.trans s3)⟩
    .have e:(decide (1<=(t.2.1.length:Int)) && decide ((t.2.1.length:Int)<=B - 2))=false:=WU.mpr λz=>hw (by simpa using z);rw [e];refine BQ ?_;walk_at"";refine ⟨(by simp only [Ba,J,L,O,TY];omega),?_⟩;walk_at"";refine ⟨(by simp only [Ba,J,L,O,TY];omega),?_⟩;walk_at"";refine ⟨(by simp only [Ba,J,L,O,TY];omega),?_⟩;walk_at"";refine T9 (Dm _ rfl ⟨l0,l1,λu la=>?_⟩);walk_at"";refine ⟨(by simp only [Ba,J,L,O,TY];omega),?_⟩;walk_at"";refine ⟨(by simp only [Ba,J,L,O,TY];omega),?_⟩;refine ⟨(by simp only [Ba,J,L,O,TY];omega),?_⟩;exact ⟨Aw,q2 (λk=>hw (k.2.1 t tm).1) H2 I⟩
  .intro σ H2 zq;obtain ⟨x,y',rfl,I,dn⟩:=zq;rw [TU,VC] at dn;walk_at"";have eV:=I _ _ hp;refine ⟨⟨_,.of eV⟩,λD hD=>?_⟩;refine AdI (K:=K) (w:=w) (a:=p) (xs:=ts.map B9) (λi σ H'=>∃ x y,σ=[x,y]/\Ag H2 H'/\H' D=some (B6 w D ((ts.take i).map (·.2.1)))) ⟨none,none,rfl,(Ag.refl H2).upd hD,Ai⟩ (λi σ H' _ ⟨_,_,_,sm,_⟩=>.of (sm _ _ (I _ _ hp))) ?_ ?_
   .intro i x σ H' Y zq;obtain ⟨x0,x1,rfl,sm,hL⟩:=zq;rw [T7] at Y;cases hk:ts[i]? with
    | none=>rw [hk] at Y;cases Y
    | some t =>
     rw [hk] at Y;cases Y;have tm:=Ue hk;refine ⟨t.1,_,rfl,.of (sm _ _ (I _ _ (lay t tm))),rfl,?_⟩;walk_at"";refine CU _ _ rfl ⟨hL,?_,_,_,rfl,sm.bI hD,?_⟩
     .rw [TU,Vt];omega
     .rw [Ai,VB,hk,Um];rfl
   .intro σ H' zq;obtain ⟨x0,x1,rfl,sm,hL⟩:=zq;rw [TU,VC] at hL;refine BL D _ rfl hL (λn hn=>?_);rw [TU] at hn;walk_at"";have s3:=I.trans sm;refine T1 (BL _ _ rfl (.inl (.of (s3 _ _ hp))) ?_);rw [TU];walk_at"";by_cases hd:(ts.map (·.2.1)).Nodup
    .rw [decide_eq_true (congrArg (λk:Nat=>V.int k) (hn.mpr hd))];refine BW ?_;exact q1 ⟨by omega,dn,hd⟩ _ s3
    .have ne:¬ (V.int n=V.int ts.length):=λk=>hd (hn.mp (by have:=V.int.inj k;omega));rw [decide_eq_false ne];refine BQ ?_;walk_at"";exact ⟨Aw,q2 (λk=>hd k.2.2) _ s3⟩
structure JK (K:TH)(C:Addr):Prop where
 cls:Cm K C
 l:BC K C "long"
 n:BC K C "lines"
 s:BC K C "seekers"
 g:BC K C "groups"
noncomputable def JL (long:Int)(lt:Addr)(bL:Int)(gt:Addr):List (Str×V):=[("long",.int long),("lines",.ref lt),("seekers",.int bL),("groups",.ref gt)]
def Mh (long bL:Int)(zs:List Str)(ts:List Pr):Prop:=(2<=long/\long<=4/\1<=bL/\bL<=60)/\Mc long zs/\Me long ts
structure JM (H:Hp)(l g:Addr)(zs:List Str)(ts:List Pr):Prop where
 l:H l=some (.lst (zs.map V.str))
 g:H g=some (.lst (ts.map B9))
 lay:DY H ts
 qb:∀ z∈zs,Ok z
 qc:∀ t∈ts,Ok t.2.1
 fl:zs.length<2000
 fg:ts.length<2000
theorem JM.same {H B:Hp}{l g:Addr}{zs:List Str}{ts:List Pr}(p:JM H l g zs ts)(s:Ag H B):JM B l g zs ts:=⟨s _ _ p.l,s _ _ p.g,p.lay.same s,p.qb,p.qc,p.fl,p.fg⟩
def QQ (a:Ak)(K:TH):Sp:=λvs H Q E=>∃(p:Addr)(long:Int)(l:Addr)(bL:Int)(g C dx:Addr)(zs:List Str)(ts:List Pr),vs=[.ref p,.int long,.ref l,.int bL,.ref g]/\H p=some (.ins C dx [])/\JK K C/\JM H l g zs ts /\
 (Mh long bL zs ts->∀(H':Hp)(lt gt:Addr)(aq:List Str)(bQ:List Pr),Cd [p] H H'->H' p=some (.ins C dx (JL long lt bL gt))->H' lt=some (.tup (aq.map V.str))->H' gt=some (.tup (bQ.map B9))->aq.Perm zs->aq.Pairwise CV->bQ.Perm ts->bQ.Pairwise (λx y=>CV x.2.1 y.2.1)->Q .aa H') /\
 (¬ Mh long bL zs ts->∀ H',Ag H H'->E (.ref a.eR) none H')
theorem QR:AR ["self","long","lines","seekers","groups"] ["self","long","lines","seekers","groups"] (Ab (Ad (top 35) 0)):=.of
theorem JN:Nm (Ab (Ad (top 35) 0)) "self":=.of
theorem JO:Nm (Ab (Ad (top 35) 0)) "long":=.of
theorem QS:Nm (Ab (Ad (top 35) 0)) "lines":=.of
theorem QT:Nm (Ab (Ad (top 35) 0)) "seekers":=.of
theorem QU:Nm (Ab (Ad (top 35) 0)) "groups":=.of
theorem QV:Gm (Ab (Ad (top 35) 0)) "tuple":=.of
theorem QW:Gm (Ab (Ad (top 35) 0)) "sorted":=.of
theorem Afu:Gm (Ab (Ad (top 35) 0)) "check_groups":=.of
theorem Afv:Gm (Ab (Ad (top 35) 0)) "check_lines":=.of
theorem Afw:Gm (Ab (Ad (top 35) 0)) "check_counts":=.of
theorem Afx (F:AL K "__init__" "Plan.__init__" (Ad (top 35) 0) f fd)(T:TxtP K mg a)(lb:BX P w K mg base (AJ P w) 2 "check_counts" ["long","seekers"] (QA a))(lg:BX P w K mg base (AJ P w) 2 "check_lines" ["long","lines"] (QG a K))(lp:BX P w K mg base (AJ P w) 2 "check_groups" ["long","groups"] (QK a)) :
  AE P w K mg base (AJ P w) 3 f fd ["self","long","lines","seekers","groups"] (QQ a K):=by
 refine F.bf QR λak A outer s H vs Q E hr h=>?_
 .obtain ⟨p,B,l,bL,g,C,dx,zs,ts,rfl,hp,J,pt,q1,q2⟩:=h;have hu:=hr.units;have nd:=QR.nd;refine ⟨_,(@Aj _ _ _ _ _ (Bm (BS lb Afw hr.d By (Ac (Aa 1 JO) (Ac (Aa 3 QT) Af))))
    (Aj (Bm (BS lg Afv hr.d By (Ac (Aa 1 JO) (Ac (Aa 2 QS) Af))))
    (Aj (Bm (BS lp Afu hr.d By (Ac (Aa 1 JO) (Ac (Aa 4 QU) Af))))
    (Aj (Bs (Aa 0 JN) (Aa 1 JO) rfl)
    (Aj (Bs (Aa 0 JN) (Cy IU QV T.dP IZ (Ac (BR Lx QW T.iH I0 (Ac (Aa 2 QS) Af)) Af)) rfl)
    (Aj (Bs (Aa 0 JN) (Aa 3 QT) rfl)
    (Al (Bs (Aa 0 JN) (Cy IU QV T.dP IZ (Ac (BR Adk QW T.iH I0 (Ac (Aa 4 QU) Af)) Af)) rfl)))))))),?_⟩
  try dsimp only [aC,aD]
  walk_at"";refine ⟨λhC=>?_,λhC=>q2 (λz=>hC z.1) H (Ag.refl H)⟩;walk_at"";refine B5 B l zs rfl ⟨by omega,by omega,pt.l,pt.qb,pt.fl,λhL H1 s1=>?_,λhL H1 s1=>q2 (λz=>hL z.2.1) H1 s1⟩;have qd:=pt.same s1;walk_at"";refine B5 B g ts rfl ⟨by omega,by omega,qd.g,qd.lay,pt.qc,pt.fg,λhG H2 s2=>?_,λhG H2 s2=>q2 (λz=>hG z.2.2) H2 (s1.trans s2)⟩;have lq:=s1.trans s2;have pt2:=pt.same lq;have eV:=lq _ _ hp;walk_at"";refine A9 p C dx [] rfl eV J.cls J.l (by show 0<1000;decide) ?_;generalize hA:upd H2 p (.ins C dx (An "long" (.int B) []))=O;have xA:Cd [p] H O:=λb o hb e=>by rw [<- hA,Ap (by simpa using hb)];exact lq _ _ e
  have pA:O p=some (.ins C dx [("long",.int B)]):=hA▸Ai;have np:∀ {b xs},H b=some (.lst xs)->b ∉ [p]:=λh z=>by rw [UB.mp z,hp] at h;cases h
  have np':∀ {b xs},H b=some (.tup xs)->b ∉ [p]:=λh z=>by rw [UB.mp z,hp] at h;cases h
  walk_at"";have hl:=hL.1.2;refine C6 l zs rfl (.of (xA _ _ (np pt.l) pt.l)) (by omega) (λl1 D n1 pz so=>?_);have sB:=(Ag.refl O).upd (o:=.lst (D.map V.str)) n1;refine CU l1 (D.map V.str) rfl (T9 ⟨.of Ai,λlt n2=>?_⟩);have sC:=sB.upd (o:=.tup (D.map V.str)) n2;have eC:(upd (upd O l1 (.lst (D.map V.str))) lt (.tup (D.map V.str))) lt=some (.tup (D.map V.str)):=Ai;have fC:O lt=none:=sB.free n2;generalize upd (upd O l1 (.lst (D.map V.str))) lt (.tup (D.map V.str))=HC at sC eC ⊢;walk_at"";refine A9 p C dx _ rfl (sC _ _ pA) J.cls J.n (by show 1<1000;decide) ?_;generalize hD:upd HC p (.ins C dx (An "lines" (.ref lt) [("long",.int B)]))=HD;have lu:lt≠p:=λz=>by rw [z,pA] at fC;cases fC
  have xD:Cd [p] H HD:=λb o hb e=>by rw [<- hD,Ap (by simpa using hb)];exact sC _ _ (xA _ _ hb e)
  have pD:HD p=some (.ins C dx [("long",.int B),("lines",.ref lt)]):=hD▸Ai;have eD:HD lt=some (.tup (D.map V.str)):=by rw [<- hD,Ap lu];exact eC
  walk_at"";refine A9 p C dx _ rfl pD J.cls J.s (by show 2<1000;decide) ?_;generalize hE:upd HD p (.ins C dx (An "seekers" (.int bL) [("long",.int B),("lines",.ref lt)]))=L;have xE:Cd [p] H L:=λb o hb e=>by rw [<- hE,Ap (by simpa using hb)];exact xD _ _ hb e
  have pE:L p=some (.ins C dx [("long",.int B),("lines",.ref lt),("seekers",.int bL)]):=hE▸Ai;have eE:L lt=some (.tup (D.map V.str)):=by rw [<- hE,Ap lu];exact eD
  walk_at"";have aaP:DY L ts:=λt m=>xE _ _ (np' (pt.lay t m)) (pt.lay t m);have hg:=hG.1;refine CU g ts rfl ⟨.of (xE _ _ (np pt.g) pt.g),aaP,hG.2.2,by omega,λl3 I n3 pts so3=>?_⟩;have sF:=(Ag.refl L).upd (o:=.lst (I.map B9)) n3;refine CU l3 (I.map B9) rfl (T9 ⟨.of Ai,λY n4=>?_⟩);have sG:=sF.upd (o:=.tup (I.map B9)) n4;have eG:(upd (upd L l3 (.lst (I.map B9))) Y (.tup (I.map B9))) Y=some (.tup (I.map B9)):=Ai;have fG:L Y=none:=sF.free n4;generalize upd (upd L l3 (.lst (I.map B9))) Y (.tup (I.map B9))=HG at sG eG ⊢;walk_at"";refine A9 p C dx _ rfl (sG _ _ pE) J.cls J.g (by show 3<1000;decide) ?_;have ngt:Y≠p:=λz=>by rw [z,pE] at fG;cases fG
  refine q1 ⟨hC,hL,hG⟩ _ lt Y D I (λb o hb e=>by rw [Ap (by simpa using hb)];exact sG _ _ (xE _ _ hb e)) Ai ?_ ?_ pz so pts so3
  .rw [Ap lu];exact sG _ _ eE
  .rw [Ap ngt];exact eG
structure HI (K:TH)(C:Addr):Prop where
 cls:Cm K C
 nu:BC K C "number"
 pl:BC K C "place"
 he:BC K C "held"
 st:BC K C "state"
 di:BC K C "dialled_so_far"
 pu:BC K C "pulses"
 fa:BC K C "far_end"
 wh:BC K C "why"
noncomputable def Afy (num:Str)(i:Int)(hl:Addr):List (Str×V):=[("number",.str num),("place",.int i),("held",.ref hl)]
noncomputable def BV (num:Str)(i:Int)(hl:Addr)(st ai:Str)(ag:Int)(ao why:V):List (Str×V):=[("number",.str num),("place",.int i),("held",.ref hl),("state",.str st),("dialled_so_far",.str ai),("pulses",.int ag),("far_end",ao),("why",why)]
def Gp (a:Ak):Sp:=λvs H Q _=>∃(p dx:Addr)(num:Str)(i:Int)(hl:Addr)(bg:Str)(fs:List (Str×V)),vs=[.ref p,.str bg]/\H p=some (.ins a.Line dx fs)/\(fs=Afy num i hl\/∃ st ai ag ao why,fs=BV num i hl st ai ag ao why)/\Q .aa (upd H p (.ins a.Line dx (BV num i hl bg "" 0 .aa .aa)))
def QX (a:Ak):Sp:=λvs H Q _=>∃(p dx:Addr)(num:Str)(i:Int),vs=[.ref p,.str num,.int i]/\H p=some (.ins a.Line dx [])/\∀ l,H l=none->Q .aa (upd (upd H l (.lst [])) p (.ins a.Line dx (BV num i l "rests" "" 0 .aa .aa)))
theorem Afz:AR ["self","state"] ["self","state"] (Ab (Ad (top 21) 1)):=.of
theorem HJ:Nm (Ab (Ad (top 21) 1)) "self":=.of
theorem AfA:Nm (Ab (Ad (top 21) 1)) "state":=.of
theorem AfB (F:AL K "turn" "Line.turn" (Ad (top 21) 1) f fd)(lc:HI K a.Line):AE P w K mg base AA 1 f fd ["self","state"] (Gp a):=by
 refine F.ok Afz λJ A outer s H vs Q E L h=>?_
 .obtain ⟨p,dx,num,i,O,V,fs,rfl,B,D,q⟩:=h;refine ⟨_,(@Aj _ _ _ _ _ (Bs (Aa 0 HJ) (Aa 1 AfA) rfl)
    (Aj (Bs (Aa 0 HJ) Az rfl)
    (Aj (Bs (Aa 0 HJ) Aq rfl)
    (Aj (Bs (Aa 0 HJ) B8 rfl)
    (Al (Bs (Aa 0 HJ) B8 rfl)))))),?_⟩
  try dsimp only [aC,aD]
  have I:∀ {X},upd H p (.ins a.Line dx X) p=some (.ins a.Line dx X):=Ai;rcases D with rfl | ⟨st,ai,ag,ao,why,rfl⟩;all_goals
   walk_at"";refine A9 p a.Line dx _ rfl B lc.cls lc.st (UE rfl) ?_;walk_at"";refine A9 p a.Line dx _ rfl Ai lc.cls lc.di (UE rfl) ?_;rw [Eb];walk_at"";refine A9 p a.Line dx _ rfl Ai lc.cls lc.pu (UE rfl) ?_;rw [Eb];walk_at"";refine A9 p a.Line dx _ rfl Ai lc.cls lc.fa (UE rfl) ?_;rw [Eb];walk_at"";refine A9 p a.Line dx _ rfl Ai lc.cls lc.wh (UE rfl) ?_;rw [Eb];exact q
theorem AfC:AR ["self","number","place"] ["self","number","place"] (Ab (Ad (top 21) 0)):=.of
theorem JP:Nm (Ab (Ad (top 21) 0)) "self":=.of
theorem AfD:Nm (Ab (Ad (top 21) 0)) "number":=.of
theorem AfE:Nm (Ab (Ad (top 21) 0)) "place":=.of
theorem AfF (F:AL K "__init__" "Line.__init__" (Ad (top 21) 0) f fd)(lc:HI K a.Line)(J:AO P w K mg base AA 1 a.Line "turn" ["self","state"] (Gp a)):AE P w K mg base AA 2 f fd ["self","number","place"] (QX a):=by
 refine F.ok AfC λY A outer s H vs Q E L h=>?_
 .obtain ⟨p,dx,num,i,rfl,O,q⟩:=h;have V:=lc.cls;refine ⟨_,(@Aj _ _ _ _ _ (Bs (Aa 0 JP) (Aa 1 AfD) rfl)
    (Aj (Bs (Aa 0 JP) (Aa 2 AfE) rfl)
    (Aj (Bs (Aa 0 JP) (Bn Af) rfl)
    (Al (Bm (A2 J V (Aa 0 JP) L.d A1 (Ac Az Af))))))),?_⟩
  try dsimp only [aC,aD]
  walk_at"";refine A9 p a.Line dx _ rfl O lc.cls lc.nu (UE rfl) ?_;walk_at"";refine A9 p a.Line dx _ rfl Ai lc.cls lc.pl (UE rfl) ?_;rw [Eb];walk_at"";refine ⟨Aw,λl B=>?_⟩;have pl:p≠l:=λz=>by rw [<- z,Ai] at B;cases B
  walk_at"";refine A9 p a.Line dx _ rfl (by rw [Ap pl];exact Ai) lc.cls lc.he (UE rfl) ?_;walk_at"";refine A4 p dx _ rfl Ai rfl ?_;walk_at"";refine GZ p dx num i l ("rests") _ rfl ⟨Ai,.inl rfl,?_⟩;have D:H l=none:=by rw [Ap pl.symm] at B;exact B
  have e:upd (upd (upd (upd H p (.ins a.Line dx (An "place" (.int i) (An "number" (.str num) [])))) l (.lst [])) p (.ins a.Line dx (An "held" (.ref l) (An "place" (.int i) (An "number" (.str num) []))))) p (.ins a.Line dx (BV num i l "rests" "" 0 .aa .aa))=upd (upd H l (.lst [])) p (.ins a.Line dx (BV num i l "rests" "" 0 .aa .aa)):=by
   funext b
   by_cases h:b=p
   .rw [h,Ai,Ai]
   .rw [Ap h,Ap h,Ap h];by_cases I:b=l
    .rw [I,Ai,Ai]
    .rw [Ap I,Ap I,Ap h]
  rw [e];exact q l D
theorem QY:AR ["holders","stuck","paper","k","who"] ["holders","stuck"] (Ab (top 17)):=.of
theorem AfG:Nm (Ab (top 17)) "holders":=.of
theorem AfH:Nm (Ab (top 17)) "stuck":=.of
theorem JQ:Nm (Ab (top 17)) "paper":=.of
theorem QZ:Nm (Ab (top 17)) "k":=.of
theorem Mi:Nm (Ab (top 17)) "who":=.of
theorem AfI:Gm (Ab (top 17)) "tuple":=.of
theorem AfJ:Gm (Ab (top 17)) "enumerate":=.of
theorem AfK (F:AL K "paper_of" "paper_of" (top 17) f fd)(T:TxtS K mg a):AE P w K mg base AA 1 f fd ["holders","stuck"] (JA K):=by
 refine F.ok QY λak A outer s H vs Q E hr h=>?_
 .obtain ⟨h,st,hs,D,rfl,hh,aU,hz,q⟩:=h;have nd:=QY.nd;refine ⟨_,(@Aj _ _ _ _ _ (Bb 2 nd JQ (Bn Af))
    (Aj (Dt VT rfl (O3 AfJ T.jz (Ac (Aa 0 AfG) Af)) (GQ rfl (CJ (Bt 3 nd QZ) (CJ (Bt 4 nd Mi) Ez))) (Al (AZ (A0 KP (Aa 4 Mi) B8 (A6 _)) (Al (Bm (DB VJ V6 V7 DU (Aa 2 JQ) (Ac (Aa 4 Mi) Af)))) (Al (Bm (DB VJ V6 V7 DU (Aa 2 JQ) (Ac (KD (A0 K0 (Aa 3 QZ) (Aa 1 AfH) (by with_unfolding_all rfl)) Az Az) Af)))))))
    (Al (AN (Cy IU AfI T.dP IZ (Ac (Aa 2 JQ) Af)))))),?_⟩
  try dsimp only [aC,aD]
  walk_at"";refine ⟨Aw,λl hl=>?_⟩;have s1:=(Ag.refl H).upd (o:=.lst []) hl;walk_at"";refine CU h hs rfl ⟨.of (s1 _ _ hh),AcT (K:=K) (a:=h) (xs:=hs) (λi σ J=>∃ x y,σ=[some (.ref h),some (.ref st),some (.ref l),x,y]/\Ag H J/\J l=some (.lst (BY hs (λk=>decide ((k:Int)∈D)) i))) ⟨none,none,rfl,s1,Ai⟩ (λi σ J _ ⟨_,_,_,L,_⟩=>.of (L _ _ hh)) ?_ ?_⟩
  .rintro i x t σ J hi ⟨x0,x1,rfl,L,hL⟩ O;have eg:hs.getD i .aa=x:=by rw [UO,hi];rfl
   have ilt:i<hs.length:=(Uy.mp hi).1;refine C6 t _ rfl (.of Ai) rfl ?_;walk_at"";have Y:=((Ag.refl J).upd (o:=.tup [.int i,x]) O) l _ hL;have dW:=L.upd (o:=.tup [.int i,x]) O;have B:(BY hs (λk=>decide ((k:Int)∈D)) i).length=i:=by unfold BY;rw [TU,Vg]
   by_cases hx:x=.aa
   .rw [decide_eq_true hx];refine BW ?_;walk_at"";refine ⟨.inl ⟨rfl,_,.of Y⟩,?_⟩;walk_at"";refine T1 (IW st (D.map V.int) rfl (.inl (.of (dW _ _ aU))) rfl (AeT D) ?_);simp only [W7,if_false];rw [AeS];have I:∀ v,v=(if (decide ((i:Int)∈D))=true then V.str "stuck" else V.str "free")->Ag H (upd (upd J t (.tup [.int i,x])) l (.lst (BY hs (λk=>decide ((k:Int)∈D)) i++[v])))/\(upd (upd J t (.tup [.int i,x])) l (.lst (BY hs (λk=>decide ((k:Int)∈D)) i++[v]))) l=some (.lst (BY hs (λk=>decide ((k:Int)∈D)) (i+1))):=λv hv=>by
     refine ⟨dW.bI hl,?_⟩;rw [Ai,Qq,eg,if_pos hx,hv]
    by_cases hk:(i:Int)∈D
    .rw [decide_eq_true hk] at I ⊢;walk_at"";refine BQ ?_;walk_at"";refine Cv l _ _ rfl rfl Y (by rw [B,TY];omega) ?_;obtain ⟨z1,z2⟩:=I _ rfl;exact CU _ _ rfl ⟨z1,z2⟩
    .rw [decide_eq_false hk] at I ⊢;walk_at"";refine BW ?_;walk_at"";refine Cv l _ _ rfl rfl Y (by rw [B,TY];omega) ?_;obtain ⟨z1,z2⟩:=I _ rfl;exact CU _ _ rfl ⟨z1,z2⟩
   .rw [decide_eq_false hx];refine BQ ?_;walk_at"";refine ⟨.inl ⟨rfl,_,.of Y⟩,?_⟩;walk_at"";refine Cv l _ _ rfl rfl Y (by rw [B,TY];omega) ?_;refine BL _ _ rfl (dW.bI hl) ?_;rw [Ai,Qq,eg,if_neg hx]
  .intro σ J zq;obtain ⟨x0,x1,rfl,L,hL⟩:=zq;walk_at"";refine CU l _ rfl (.inl ⟨.of hL,λt O=>?_⟩);exact q _ t (L.upd O) (L.free O) Ai
theorem Q0 {hs:List V}{B s2:Nat->Bool}{n:Nat}(h:∀ k,k<n->B k=s2 k):BY hs B n=BY hs s2 n:=by unfold BY;refine WV λk hk=>?_;rw [h k (UZ.mp hk)]
def Q1 (K:TH)(a:Ak):Sp:=λvs H Q _=>∃(p:Addr)(bj:Str)(C ra rb rc:Addr)(hs:List V)(js:List Bool)(ts:List Int),vs=[.ref p,.str bj]/\Co K a H p C ra rb rc hs js ts /\
 match BF hs js 0 with
 | none=>∀ H',Ag H H'->Q .aa H'
 | some k=>∀ H',Cd [ra,rc] H H'->H' ra=some (.lst (hs.set k.toNat (.str bj)))->H' rc=some (.lst ((ts.set k.toNat (ts.getD k.toNat 0+1)).map V.int))->Q (.int k) H'
def Q2 (K:TH)(a:Ak):Sp:=λvs H Q _=>∃(p C ra rb rc:Addr)(hs:List V)(js:List Bool)(ts:List Int),vs=[.ref p]/\Co K a H p C ra rb rc hs js ts /\
 ∀ H' t,Ag H H'->H t=none->H' t=some (.tup (BY hs (λk=>js.getD k false) hs.length))->Q (.ref t) H'
theorem Q3:AR ["self","who","k"] ["self","who"] (Ab (Ad (top 19) 0)):=.of
theorem Q4:Nm (Ab (Ad (top 19) 0)) "self":=.of
theorem AfL:Nm (Ab (Ad (top 19) 0)) "who":=.of
theorem JR:Nm (Ab (Ad (top 19) 0)) "k":=.of
theorem AfM (F:AL K "take" "Group.take" (Ad (top 19) 0) f fd)(T:TxtS K mg a)(V:∀ C∈a.bx,AO P w K mg base AA 1 C "first_free" ["self","start"] (LU K a))(Y:∀ C∈a.bx,AO P w K mg base AA 1 C "hold" ["self","k","who"] (LR K a)) :
  AE P w K mg base AA 2 f fd ["self","who"] (Q1 K a):=by
 refine F.ok Q3 λak A outer s H vs Q E D h=>?_
 .obtain ⟨p,bj,C,I,J,L,hs,js,ts,rfl,R,q⟩:=h;obtain ⟨dx,fs,hp,F3⟩:=R.ins;have nd:=Q3.nd;have kY:=V C R.c.mem;have kZ:=Y C R.c.mem;have cls:=R.c.cls;refine ⟨_,(@Aj _ _ _ _ _ (Bb 2 nd JR (A2 kY cls (Aa 0 Q4) D.d A1 (Ac Aq Af)))
    (Aj (AZ (A0 KP (Aa 2 JR) B8 (A6 _)) (Al (Bm (A2 kZ cls (Aa 0 Q4) D.d A1 (Ac (Aa 2 JR) (Ac (Aa 1 AfL) Af))))) A5)
    (Al (AN (Aa 2 JR))))),?_⟩
  try dsimp only [aC,aD]
  walk_at"";refine Dv hp (F3.m _ (by decide)) ?_;walk_at"";refine EK p 0 C I J L hs js ts rfl ⟨R,by decide,by omega,λH1 B=>?_⟩;cases hf:BF hs js 0 with
  | none =>
   rw [hf] at q;walk_at"";exact q H1 B
  | some k =>
   rw [hf] at q;obtain ⟨⟨k0,k1⟩,_⟩:=Em (by decide) (by omega) hf;have O:=R.same B;obtain ⟨dx',eF,bJ,jD⟩:=O.ins;walk_at"";refine Dv bJ (jD.m _ (by decide)) ?_;walk_at"";refine ⟨p,k,.str bj,C,I,J,L,hs,js,ts,rfl,O,k0,k1,?_⟩;walk_at"";refine q _ (λb o hb e=>?_) ?_ Ai
   .rw [Ap (λz=>hb (by simp [z])),Ap (λz=>hb (by simp [z]))];exact B b o e
   .rw [Ap R.ac,Ai]
theorem AfN:AR ["self"] ["self"] (Ab (Ad (top 19) 1)):=.of
theorem Q5:Nm (Ab (Ad (top 19) 1)) "self":=.of
theorem AfO:Gm (Ab (Ad (top 19) 1)) "paper_of":=.of
theorem AfP (F:AL K "paper" "Group.paper" (Ad (top 19) 1) f fd)(T:TxtS K mg a)(gE:∀ C∈a.bx,AO P w K mg base AA 1 C "holders" ["self"] (LQ K a))(gG:∀ C∈a.bx,AO P w K mg base AA 1 C "stuck" ["self"] (L4 K a))(gH:BX P w K mg base AA 1 "paper_of" ["holders","stuck"] (JA K)):AE P w K mg base AA 2 f fd ["self"] (Q2 K a):=by
 refine F.ok AfN λak A outer s H vs Q E I h=>?_
 .obtain ⟨p,C,O,V,Y,hs,js,ts,rfl,R,q⟩:=h;obtain ⟨dx,fs,hp,F3⟩:=R.ins;have J:=gE C R.c.mem;have L:=gG C R.c.mem;have cls:=R.c.cls;have hj:=R.lj;refine ⟨_,(@Al _ _ _ (AN (BS gH AfO I.d A1 (Ac (Jd J cls (Aa 0 Q5) I.d A1) (Ac (Jd L cls (Aa 0 Q5) I.d A1) Af))))),?_⟩;try dsimp only [aC,aD]
  walk_at"";refine Dv hp (F3.m _ (by decide)) ?_;refine F6 p C O V Y hs js ts rfl ⟨R,λl hl=>?_⟩;have B:=(Ag.refl H).upd (o:=.lst hs) hl;walk_at"";refine Dv (B _ _ hp) (F3.m _ (by decide)) ?_;refine F6 p C O V Y hs js ts rfl ⟨R.same B,λH2 r D qe h2=>?_⟩;walk_at"";refine AX l r hs (DI js js.length) rfl (D _ _ Ai) h2 R.z (λH3 t s3 ht h3=>?_);refine q H3 t ((B.trans D).trans s3) ((B.trans D).free ht) ?_;rw [h3,Q0 (s2:=λk=>js.getD k false) λk hk=>Qt (by omega)]
structure Ln where
 (num st ai:Str) (ag:Int) (ao:Option Str) (why:PyData) (held:List (Str×Int))
structure Gr where
 (pre:Str) (hs:List V) (js:List Bool) (ts:List Int)
structure Sk where
 (hs:List V) (js:List Bool) (ts:List Int) (places mark:Int) (st wt:List Int)
structure LX where
 (p dx h:Addr) (i:Nat) (wv:V) (hv:List Addr) (l:Ln)
structure RX where
 (p dx ra rb rc:Addr) (g:Gr)
structure SX where
 (p dx ra rb rc rs rw:Addr) (k:Sk)
structure HX where
 (h dx ld sd qa da:Addr) (long:Int) (lines:List LX) (groups:List RX) (sk:SX) (q:List Str) (dn:List V)
structure PS where
 (long:Int) (lns:List Ln) (aj:List Gr) (sk:Sk) (q:List Str) (dn:List V)
noncomputable def HX.S (X:HX):PS:=⟨X.long,X.lines.map (·.l),X.groups.map (·.g),X.sk.k,X.q,X.dn⟩
noncomputable def Eo:Option Str->V
 | none=>.aa
 | some z=>.str z
noncomputable def EV (long:Int)(ld sd qa da:Addr):List (Str×V):=[("long",.int long),("lines",.ref ld),("switches",.ref sd),("queue",.ref qa),("done",.ref da)]
noncomputable def LX.fs (x:LX):List (Str×V):=BV x.l.num x.i x.h x.l.st x.l.ai x.l.ag (Eo x.l.ao) x.wv
noncomputable def BZ (a:Ak)(x:LX):AK:=[(x.p,.ins a.Line x.dx x.fs),(x.h,.lst (x.hv.map V.ref))]
noncomputable def Bz (a:Ak)(x:RX):AK:=[(x.p,.ins a.aK x.dx (FC x.ra x.rb x.rc)),(x.ra,.lst x.g.hs),(x.rb,.lst (x.g.js.map V.bl)),(x.rc,.lst (x.g.ts.map V.int))]
noncomputable def BG (a:Ak)(x:SX):AK:=[(x.p,.ins a.aM x.dx (FD x.ra x.rb x.rc x.k.places x.rs x.rw x.k.mark)),(x.ra,.lst x.k.hs),(x.rb,.lst (x.k.js.map V.bl)),(x.rc,.lst (x.k.ts.map V.int)),(x.rs,.lst (x.k.st.map V.int)),(x.rw,.lst (x.k.wt.map V.int))]
noncomputable def HX.fO (X:HX):List (Av×V):=X.lines.map λx=>(.inr x.l.num,.ref x.p)
noncomputable def HX.cz (X:HX):List (Av×V):=X.groups.map (λx=>(.inr x.g.pre,.ref x.p))++[(.inr "",.ref X.sk.p)]
noncomputable def HX.top (a:Ak)(X:HX):AK:=[(X.h,.ins a.ae X.dx (EV X.long X.ld X.sd X.qa X.da)),(X.ld,.dK X.fO),(X.sd,.dK X.cz),(X.qa,.lst (X.q.map V.str)),(X.da,.lst X.dn)]
noncomputable def AY (a:Ak)(X:HX)(R:AK):AK:=X.top a++(BG a X.sk++(X.groups.flatMap (Bz a)++(X.lines.flatMap (BZ a)++R)))
structure AfQ (K:TH)(C:Addr):Prop where
 cls:Cm K C
 lo:BC K C "long"
 li:BC K C "lines"
 sw:BC K C "switches"
 qu:BC K C "queue"
 dn:BC K C "done"
def C9 (H:Hp):List Addr->List (Str×Int)->Prop
 | [],[]=>True
 | x :: xs,p :: ps=>H x=some (.tup [.str p.1,.int p.2])/\C9 H xs ps
 | _,_=>False
theorem C9.av {H B:Hp}(s:Ah H B):∀{xs:List Addr}{ps:List (Str×Int)},C9 H xs ps->C9 B xs ps
 | [],[],_=>trivial
 | [],_ :: _,h=>h
 | _ :: _,[],h=>h
 | _ :: _,_ :: _,h=>⟨s.t h.1,C9.av s h.2⟩
structure HK (K:TH)(H:Hp)(j:Nat)(x:LX):Prop where
 i:x.i=j
 pr:C9 H x.hv x.l.held
 w:Is K H x.wv x.l.why
 wt:Ce x.l.why=true
 aJ:x.l.held.length<=10
theorem Dx {α β:Type}{f:α->β}:∀{l:List α}{i:Nat}{x y:α},l[i]?=some x->f y=f x->(l.set i y).map f=l.map f
 | [],i,x,y,h,_=>by simp at h
 | z :: l,0,x,y,h,e=>by
  have h:z=x:=by simpa using h
  subst h;exact congrArg (· :: l.map f) e
 | z :: l,i+1,x,y,h,e=>congrArg (f z :: ·) (Dx (l:=l) (i:=i) (by simpa using h) e)
section
variable {K:TH}{a:Ak}{H H':Hp}{X:HX}{R:AK}{i:Nat}{x y:LX}{g g':RX}
theorem At.aB (t:At H (AY a X R)):H X.h=some (.ins a.ae X.dx (EV X.long X.ld X.sd X.qa X.da)):=t.get (by simp [AY,HX.top])
theorem At.ld (t:At H (AY a X R)):H X.ld=some (.dK X.fO):=t.get (by simp [AY,HX.top])
theorem At.sd (t:At H (AY a X R)):H X.sd=some (.dK X.cz):=t.get (by simp [AY,HX.top])
theorem At.q (t:At H (AY a X R)):H X.qa=some (.lst (X.q.map V.str)):=t.get (by simp [AY,HX.top])
theorem At.dn (t:At H (AY a X R)):H X.da=some (.lst X.dn):=t.get (by simp [AY,HX.top])
theorem At.rest (t:At H (AY a X R)):At H R:=t.right.right.right.right
theorem At.aaS {b:Addr}{u:HO}(t:At H (AY a X R))(n:H b=none):At (upd H b u) (AY a X ((b,u) :: R)):=by have:=(t.new (u:=u) n);unfold AY at this ⊢;rw [<- Ur,<- Ur,<- Ur] at this ⊢;exact this.back
theorem At.dv {B:List Str}(t:At H (AY a X R)):At (upd H X.qa (.lst (B.map V.str))) (AY a { X with q:=B } R):=At.set (P:=[_,_,_]) t
theorem At.lA {d':List V}(t:At H (AY a X R)):At (upd H X.da (.lst d')) (AY a { X with dn:=d' } R):=At.set (P:=[_,_,_,_]) t
theorem At.iI (t:At H (AY a X R))(h:X.lines[i]?=some x):At H (BZ a x++((X.top a++(BG a X.sk++X.groups.flatMap (Bz a)))++((X.lines.take i).flatMap (BZ a)++((X.lines.drop (i+1)).flatMap (BZ a)++R)))):=by refine At.pick (P:=X.top a++(BG a X.sk++X.groups.flatMap (Bz a))) ?_ h;rw [Ur,Ur];exact t
theorem At.lB (e:y.p=x.p)(n:y.l.num=x.l.num)(h:X.lines[i]?=some x)(t:At H (BZ a y++((X.top a++(BG a X.sk++X.groups.flatMap (Bz a)))++((X.lines.take i).flatMap (BZ a)++((X.lines.drop (i+1)).flatMap (BZ a)++R))))):At H (AY a { X with lines:=X.lines.set i y } R):=by have t:=At.put (P:=X.top a++(BG a X.sk++X.groups.flatMap (Bz a))) t (Uy.mp h).1;have B:({ X with lines:=X.lines.set i y }:HX).fO=X.fO:=Dx (f:=λx:LX=>((.inr x.l.num:Av),V.ref x.p)) h (by rw [e,n]);unfold AY HX.top at t ⊢;rw [B];rw [Ur,Ur] at t;exact t
theorem At.ax (t:At H (AY a X R))(h:X.lines[i]?=some x):H x.p=some (.ins a.Line x.dx x.fs):=(t.iI h).get (by simp [BZ])
theorem At.iJ (t:At H (AY a X R))(h:X.lines[i]?=some x):H x.h=some (.lst (x.hv.map V.ref)):=(t.iI h).get (by simp [BZ])
theorem At.bz (t:At H (AY a X R))(h:X.lines[i]?=some x)(ep:y.p=x.p)(B:y.dx=x.dx)(D:y.h=x.h)(I:y.hv=x.hv)(J:y.l.num=x.l.num):At (upd H x.p (.ins a.Line x.dx y.fs)) (AY a { X with lines:=X.lines.set i y } R):=by refine At.lB ep J h ?_;have:=At.iG (o':=.ins a.Line x.dx y.fs) (t.iI h);unfold BZ;rw [ep,B,D,I];exact this
theorem At.jG {p:Addr}(t:At H (AY a X R))(h:X.lines[i]?=some x)(ep:y.p=x.p)(B:y.dx=x.dx)(D:y.h=x.h)(I:y.hv=x.hv++[p])(J:y.l.num=x.l.num)(L:y.fs=x.fs):At (upd H x.h (.lst (x.hv.map V.ref++[V.ref p]))) (AY a { X with lines:=X.lines.set i y } R):=by refine At.lB ep J h ?_;have:=At.set (P:=[_]) (o':=.lst (x.hv.map V.ref++[V.ref p])) (t.iI h);unfold BZ;rw [ep,B,D,I,L,Um];exact this
theorem At.aaT {l:Addr}(t:At H (AY a X R))(h:X.lines[i]?=some x)(B:H l=none)(ep:y.p=x.p)(D:y.dx=x.dx)(I:y.h=l)(J:y.hv=[])(L:y.l.num=x.l.num):At (upd (upd H l (.lst [])) x.p (.ins a.Line x.dx y.fs)) (AY a { X with lines:=X.lines.set i y } R):=by refine At.lB ep L h ?_;have O:=(t.iI h).new (u:=.lst []) B;have Y:=At.set (P:=[_]) (o':=.ins a.Line x.dx y.fs) O;have t3:=At.perm (C':=(x.p,.ins a.Line x.dx y.fs) :: (l,.lst []) :: (x.h,.lst (x.hv.map V.ref)) :: _) Y (.swap _ _ _);have t4:=(At.front (P:=[_,_]) t3).tl;unfold BZ;rw [ep,D,I,J];exact t4
structure FE (g:Gr):Prop where
 lj:g.js.length=g.hs.length
 lt:g.ts.length=g.hs.length
 z:g.hs.length<=1000
structure Gq (k:Sk):Prop where
 lj:k.js.length=k.hs.length
 lt:k.ts.length=k.hs.length
 ls:k.st.length=k.hs.length
 lw:k.wt.length=k.hs.length
 z:k.hs.length<=1000
theorem At.jH (t:At H (AY a X R))(h:X.groups[i]?=some g):At H (Bz a g++((X.top a++BG a X.sk)++((X.groups.take i).flatMap (Bz a)++((X.groups.drop (i+1)).flatMap (Bz a)++(X.lines.flatMap (BZ a)++R))))):=by refine At.pick (P:=X.top a++BG a X.sk) ?_ h;rw [Ur];exact t
theorem At.lC (e:g'.p=g.p)(n:g'.g.pre=g.g.pre)(h:X.groups[i]?=some g)(t:At H (Bz a g'++((X.top a++BG a X.sk)++((X.groups.take i).flatMap (Bz a)++((X.groups.drop (i+1)).flatMap (Bz a)++(X.lines.flatMap (BZ a)++R)))))):At H (AY a { X with groups:=X.groups.set i g' } R):=by have t:=At.put (P:=X.top a++BG a X.sk) t (Uy.mp h).1;have B:({ X with groups:=X.groups.set i g' }:HX).cz=X.cz:=congrArg (·++[((.inr "":Av),V.ref X.sk.p)]) (Dx (f:=λx:RX=>((.inr x.g.pre:Av),V.ref x.p)) h (by rw [e,n]));unfold AY HX.top at t ⊢;rw [B];rw [Ur] at t;exact t
theorem AfR (B D I:Addr):Fs (FC B D I) B D I:=by refine ⟨rfl,rfl,rfl,λx hx=>?_⟩;simp only [T8,UT,or_false] at hx;rcases hx with rfl | rfl | rfl | rfl | rfl | rfl | rfl | rfl | rfl | rfl | rfl<;>rfl
theorem At.jI (t:At H (AY a X R))(h:X.groups[i]?=some g)(c:El K a a.aK)(ok:FE g.g):Co K a H g.p a.aK g.ra g.rb g.rc g.g.hs g.g.js g.g.ts:=by have f:=t.jH h;have B:=f.left.nd;simp only [Bz,U4,Xy,Uv,T8,UT,or_false,not_or,not_false_eq_true,Wu,and_true] at B;obtain ⟨⟨_,_,_⟩,⟨D,I⟩,J⟩:=B;exact ⟨⟨g.dx,FC g.ra g.rb g.rc,f.get (by simp [Bz]),AfR ..⟩,c,f.get (by simp [Bz]),f.get (by simp [Bz]),f.get (by simp [Bz]),D,I,J,ok.lj,ok.lt,ok.z⟩
theorem At.setG {ws:List Addr}(t:At H (AY a X R))(h:X.groups[i]?=some g)(s:Cd ws H H')(sub:∀ w∈ws,w=g.ra\/w=g.rb\/w=g.rc)(e:g'={ g with g:=g'.g })(n:g'.g.pre=g.g.pre)(ha:H' g.ra=some (.lst g'.g.hs))(hb:H' g.rb=some (.lst (g'.g.js.map V.bl)))(hc:H' g.rc=some (.lst (g'.g.ts.map V.int))) :
  At H' (AY a { X with groups:=X.groups.set i g' } R)/\Ah H H':=by
 have f:=t.jH h;have B:=f.left.nd;simp only [Bz,U4,Xy,Uv,T8,UT,or_false,not_or,not_false_eq_true,Wu,and_true] at B;obtain ⟨⟨I,m2,J⟩,⟨L,O⟩,Y⟩:=B;have D:∀ w∈ws,w∈(Bz a g).map (·.1):=λw m=>by
  rcases sub w m with z | z | z<;>simp [Bz,z]
 refine ⟨At.lC (by rw [e]) n h (f.part s D (by rw [e];rfl) ?_),At.av f.left s D (λc m=>by simp only [Bz,T8,UT,or_false] at m;rcases m with rfl | rfl | rfl | rfl<;>rfl)⟩;intro c m;rw [e] at m;simp only [Bz,T8,UT,or_false] at m;rcases m with rfl | rfl | rfl | rfl
 .exact s _ _ (λz=>by rcases sub _ z with z | z | z;exact I z;exact m2 z;exact J z) (f.get (by simp [Bz]))
 .exact ha
 .exact hb
 .exact hc
theorem At.jJ (t:At H (AY a X R)):At H (BG a X.sk++(X.top a++(X.groups.flatMap (Bz a)++(X.lines.flatMap (BZ a)++R)))):=At.swap t
theorem At.jK (t:At H (AY a X R))(c:ET K a a.aM)(ok:Gq X.sk.k):D0 K a H X.sk.p a.aM X.sk.ra X.sk.rb X.sk.rc X.sk.rs X.sk.rw X.sk.k.hs X.sk.k.js X.sk.k.ts X.sk.k.places X.sk.k.mark X.sk.k.st X.sk.k.wt:=by have f:=t.jJ;have B:=f.left.nd;exact ⟨⟨X.sk.dx,f.get (by simp [BG])⟩,c,f.get (by simp [BG]),f.get (by simp [BG]),f.get (by simp [BG]),f.get (by simp [BG]),f.get (by simp [BG]),(Uv.mp B).2,ok.lj,ok.lt,ok.ls,ok.lw,ok.z⟩
theorem At.iK {ws:List Addr}{k':Sk}{dx':Addr}(t:At H (AY a X R))(s:Cd ws H H')(sub:∀ w∈ws,w∈(BG a X.sk).map (·.1))(ep:H' X.sk.p=some (.ins a.aM dx' (FD X.sk.ra X.sk.rb X.sk.rc k'.places X.sk.rs X.sk.rw k'.mark)))(ha:H' X.sk.ra=some (.lst k'.hs))(hb:H' X.sk.rb=some (.lst (k'.js.map V.bl)))(hc:H' X.sk.rc=some (.lst (k'.ts.map V.int)))(hd:H' X.sk.rs=some (.lst (k'.st.map V.int)))(B:H' X.sk.rw=some (.lst (k'.wt.map V.int))) :
  At H' (AY a { X with sk:={ X.sk with k:=k',dx:=dx' } } R)/\Ah H H':=by
 have f:=t.jJ;refine ⟨At.swap (f.part (M':=BG a { X.sk with k:=k',dx:=dx' }) s sub rfl ?_),At.av f.left s sub (λc m=>by simp only [BG,T8,UT,or_false] at m;rcases m with rfl | rfl | rfl | rfl | rfl | rfl<;>rfl)⟩;intro c m;simp only [BG,T8,UT,or_false] at m;rcases m with rfl | rfl | rfl | rfl | rfl | rfl
 .exact ep
 .exact ha
 .exact hb
 .exact hc
 .exact hd
 .exact B
end
structure AM (K:TH)(H:Hp)(X:HX):Prop where
 num:(X.lines.map (·.l.num)).Nodup
 pre:(X.groups.map (·.g.pre)).Nodup
 ne:∀ g∈X.groups,g.g.pre≠TK ""
 lx:∀(i:Nat)(x:LX),X.lines[i]?=some x->HK K H i x
 gr:∀ g∈X.groups,FE g.g
 sk:Gq X.sk.k
structure HT (K:TH)(a:Ak)(H:Hp)(X:HX)(R:AK):Prop where
 t:At H (AY a X R)
 ok:AM K H X
section
variable {K:TH}{a:Ak}{H H':Hp}{X:HX}{R:AK}{i:Nat}{x y:LX}{g g':RX}
theorem HK.av {j:Nat}(l:HK K H j x)(s:Ah H H'):HK K H' j x:=⟨l.i,l.pr.av s,Is.av _ l.wt l.w s,l.wt,l.aJ⟩
theorem AM.av (k:AM K H X)(s:Ah H H'):AM K H' X:=⟨k.num,k.pre,k.ne,λi x h=>(k.lx i x h).av s,k.gr,k.sk⟩
theorem HT.same (t:HT K a H X R)(s:Ag H H'):HT K a H' X R:=⟨t.t.same s,t.ok.av (.of s)⟩
theorem HT.new {b:Addr}{u:HO}(t:HT K a H X R)(n:H b=none):HT K a (upd H b u) X ((b,u) :: R):=⟨t.t.aaS n,t.ok.av (.new n)⟩
theorem AM.bz (k:AM K H X)(s:Ah H H')(h:X.lines[i]?=some x)(D:y.l.num=x.l.num)(I:HK K H' i y):AM K H' { X with lines:=X.lines.set i y }:=by
 refine ⟨?_,k.pre,k.ne,λj z B=>?_,k.gr,k.sk⟩
 .show ((X.lines.set i y).map (·.l.num)).Nodup;rw [Dx (f:=λx:LX=>x.l.num) h D];exact k.num
 .have B:(X.lines.set i y)[j]?=some z:=B;rw [uQ] at B;by_cases e:i=j
  .rw [if_pos e] at B;split at B
   .cases B;rw [<- e];exact I
   .cases B
  .rw [if_neg e] at B;exact (k.lx j z B).av s
theorem AM.setG (k:AM K H X)(s:Ah H H')(h:X.groups[i]?=some g)(B:g'.g.pre=g.g.pre)(D:FE g'.g):AM K H' { X with groups:=X.groups.set i g' }:=by
 refine ⟨k.num,?_,λz m=>?_,λi x h=>(k.lx i x h).av s,λz m=>?_,k.sk⟩
 .show ((X.groups.set i g').map (·.g.pre)).Nodup;rw [Dx (f:=λx:RX=>x.g.pre) h B];exact k.pre
 .rcases Yx m with m | rfl
  .exact k.ne z m
  .rw [B];exact k.ne g (Ue h)
 .rcases Yx m with m | rfl
  .exact k.gr z m
  .exact D
theorem AM.iK {B:SX}(k:AM K H X)(s:Ah H H')(ok:Gq B.k):AM K H' { X with sk:=B }:=⟨k.num,k.pre,k.ne,λi x h=>(k.lx i x h).av s,k.gr,ok⟩
theorem Mj {α:Type}{f:α->Str}{v:α->V}:∀{l:List α}{i:Nat}{x:α},(l.map f).Nodup->l[i]?=some x->Bj (l.map λy=>((UL (f y):Av),v y)) (.inr (f x))=some (v x)
 | [],_,_,_,h=>by simp at h
 | z :: l,0,x,_,h=>by
  have e:z=x:=by simpa using h
  subst e;exact Ek rfl
 | z :: l,i+1,x,nd,h=>by
  have B:=Uv.mp nd;have D:l[i]?=some x:=by simpa using h
  refine (DE λe=>?_).trans (Mj B.2 D);have I:f z=f x:=V9 e;exact B.1 (by rw [I];exact Ua.mpr ⟨x,Ue D,rfl⟩)
theorem FF {α:Type}{f:α->Str}{v:α->V}{w:Str}:∀{l:List α},w ∉ l.map f->Bj (l.map λy=>((UL (f y):Av),v y)) (.inr w)=none
 | [],_=>rfl
 | z :: l,n=>(DE λe=>n (by rw [<- (V9 e:f z=w)];exact UC)).trans (FF λm=>n (Uu _ m))
theorem AM.line (k:AM K H X)(h:X.lines[i]?=some x):Bj X.fO (.inr x.l.num)=some (.ref x.p):=Mj (f:=λx:LX=>x.l.num) (v:=λx=>V.ref x.p) k.num h
theorem AM.gI (k:AM K H X){z:Str}(n:z ∉ X.lines.map (·.l.num)):Bj X.fO (.inr z)=none:=FF (f:=λx:LX=>x.l.num) (v:=λx=>V.ref x.p) n
theorem AM.lD (k:AM K H X):Bj (X.groups.map λx=>((UL x.g.pre:Av),V.ref x.p)) (.inr (TK ""))=none:=FF (f:=λx:RX=>x.g.pre) (v:=λx=>V.ref x.p) λm=>by
 obtain ⟨g,mg,e⟩:=Ua.mp m;exact k.ne g mg e
theorem AM.lE (k:AM K H X):Bj X.cz (.inr (TK ""))=some (.ref X.sk.p):=by unfold HX.cz;rw [Ji _ _ _ _ k.lD,if_pos rfl]
theorem AM.lF (k:AM K H X)(h:X.groups[i]?=some g):Bj X.cz (.inr g.g.pre)=some (.ref g.p):=by unfold HX.cz;rw [Ji _ _ _ _ k.lD,if_neg (λe=>k.ne g (Ue h) (V9 e))];exact Mj (f:=λx:RX=>x.g.pre) (v:=λx=>V.ref x.p) k.pre h
theorem AM.qi (k:AM K H X){w:Str}(B:w≠TK "")(n:w ∉ X.groups.map (·.g.pre)):Bj X.cz (.inr w)=none:=by unfold HX.cz;rw [Ji _ _ _ _ k.lD,if_neg (λe=>B (V9 e))];exact FF (f:=λx:RX=>x.g.pre) (v:=λx=>V.ref x.p) n
structure TxtH (P:TV)(w:TM)(K:TH)(mg:Str->Option Value)(a:Ak):Prop extends TxtK K mg a,TxtP K mg a where
 iL:∃ t,mg "AT_SEEKERS"=some (UQ "" t)
 jL:mg "WAYS"=some (.ref a.fH)
 cO:∃ t1 t2 t3 t4,LG P w K a.fH [(.inr "lift",.ref t1),(.inr "pulse",.ref t2),(.inr "gap",.ref t3),(.inr "hang",.ref t4)]/\(∀ H,Bl K H t1 [.str "rests",.str "rung"])/\(∀ H,Bl K H t2 [.str "dials"])/\(∀ H,Bl K H t3 [.str "dials"])/\∀ H,Bl K H t4 [.str "waits",.str "dials",.str "rings",.str "talks",.str "told"]
 jM:mg "NoLine"=some (.ref a.eT)
 qj:Vn K a.eT [.type "ValueError",.type "Exception",.type "BaseException",.type "object"] "ValueError.__new__"=true
 iM:mg "NotSo"=some (.ref a.fE)
 lG:Vn K a.fE [.type "ValueError",.type "Exception",.type "BaseException",.type "object"] "ValueError.__new__"=true
 hc:AfQ K a.ae
 lc:HI K a.Line
 sc:ET K a a.aM
 gc:El K a a.aK
def Ml (K:TH)(a:Ak):Sp:=λvs H Q E=>∃(X:HX)(R:AK)(z:Str),vs=[.ref X.h,.str z]/\HT K a H X R/\Ok z /\
 (∀(i:Nat)(x:LX),X.lines[i]?=some x->x.l.num=z->Q (.ref x.p) H)/\(z ∉ X.lines.map (·.l.num)->E (.ref a.eT) none H)
def FG (K:TH)(a:Ak):Sp:=λvs H Q E=>∃(X:HX)(R:AK)(z:Str),vs=[.ref X.h,.str z]/\HT K a H X R/\Ok z /\
 (z=TK ""->Q (.ref X.sk.p) H)/\(∀(i:Nat)(g:RX),X.groups[i]?=some g->g.g.pre=z->Q (.ref g.p) H)/\(z≠TK ""->z ∉ X.groups.map (·.g.pre)->E (.ref a.cb) none H)
theorem Q6 {z:Str}(h:z∈X.lines.map (·.l.num)):∃(i:Nat)(x:LX),X.lines[i]?=some x/\x.l.num=z:=by obtain ⟨x,m,e⟩:=Ua.mp h;obtain ⟨i,B,D⟩:=Vd m;exact ⟨i,x,by rw [Ug B,D],e⟩
theorem HL {z:Str}(h:z∈X.groups.map (·.g.pre)):∃(i:Nat)(x:RX),X.groups[i]?=some x/\x.g.pre=z:=by obtain ⟨x,m,e⟩:=Ua.mp h;obtain ⟨i,B,D⟩:=Vd m;exact ⟨i,x,by rw [Ug B,D],e⟩
end
theorem AfS:AR ["self","number"] ["self","number"] (Ab (Ad (top 27) 16)):=.of
theorem Q7:Nm (Ab (Ad (top 27) 16)) "self":=.of
theorem Mm:Nm (Ab (Ad (top 27) 16)) "number":=.of
theorem AfT:Gm (Ab (Ad (top 27) 16)) "NoLine":=.of
theorem AfU (F:AL K "line_of" "Hall.line_of" (Ad (top 27) 16) f fd)(T:TxtH P w K mg a):AE P w K mg base (AJ P w) 1 f fd ["self","number"] (Ml K a):=by
 refine F.bf AfS λO A outer s H vs Q E V h=>?_
 .obtain ⟨X,R,z,rfl,t,I,J,L⟩:=h;refine ⟨_,(@Aj _ _ _ _ _ (AZ (A0 (Hs (P:=P) (w:=w) (K:=K)) (Aa 1 Mm) (Ax (Aa 0 Q7) rfl) (by with_unfolding_all rfl)) (Al (CN CM AfT rfl T.qj T.jM (Ac (Fy (Ck Az (Ck (Hh (Aa 1 Mm)) Fx))) Af))) A5)
    (Al (AN (BU P w K (Ax (Aa 0 Q7) rfl) (Aa 1 Mm))))),?_⟩
  try dsimp only [aC,aD]
  walk_at"";refine AI X.h a.ae X.dx _ _ rfl t.t.aB T.hc.cls T.hc.li rfl ?_;refine A4 X.ld _ (.inr z) rfl rfl (.of t.t.ld) ?_;by_cases m:z∈X.lines.map (·.l.num)
  .obtain ⟨i,x,h,rfl⟩:=Q6 m;have hv:=t.ok.line h;rw [hv];walk_at"";refine AI X.h a.ae X.dx _ _ rfl t.t.aB T.hc.cls T.hc.li rfl ?_;walk_at"";exact ⟨X.ld,_,.inr x.l.num,_,rfl,rfl,.of t.t.ld,hv,J i x h rfl⟩
  .rw [t.ok.gI m];have Y:=HH I;have B:UI.length=0:=rfl;have D:(TK "there is no line ").length=17:=by decide +kernel
   walk_at"";refine ⟨(by simp only [Ba,B,D,TY];omega),?_⟩;walk_at"";refine ⟨(by rw [TY];omega),?_⟩;walk_at"";refine ⟨(by simp only [Ba,B,D,TY];omega),?_⟩;refine ⟨(by simp only [Ba,B,D,TY];omega),?_⟩;exact ⟨Aw,L m⟩
theorem AfV:AR ["self","where"] ["self","where"] (Ab (Ad (top 27) 17)):=.of
theorem Q8:Nm (Ab (Ad (top 27) 17)) "self":=.of
theorem Mn:Nm (Ab (Ad (top 27) 17)) "where":=.of
theorem AfW:Gm (Ab (Ad (top 27) 17)) "NoSwitch":=.of
theorem AfX (F:AL K "switches_of" "Hall.switches_of" (Ad (top 27) 17) f fd)(T:TxtH P w K mg a):AE P w K mg base (AJ P w) 1 f fd ["self","where"] (FG K a):=by
 refine F.bf AfV λak A outer s H vs Q E hr h=>?_
 .obtain ⟨X,R,z,rfl,t,L,O,V,Y⟩:=h;refine ⟨_,(@Aj _ _ _ _ _ (AZ (A0 (Hs (P:=P) (w:=w) (K:=K)) (Aa 1 Mn) (Ax (Aa 0 Q8) rfl) (by with_unfolding_all rfl)) (Al (CN CM AfW rfl T.jA T.gw (Ac (Fy (Ck Az (Ck (Hh (Aa 1 Mn)) Fx))) Af))) A5)
    (Al (AN (BU P w K (Ax (Aa 0 Q8) rfl) (Aa 1 Mn))))),?_⟩
  try dsimp only [aC,aD]
  have D:(∃ p,Bj X.cz (.inr z)=some (.ref p)/\Q (.ref p) H)\/(Bj X.cz (.inr z)=none/\E (.ref a.cb) none H):=by
   by_cases B:z=TK ""
   .exact .inl ⟨_,by rw [B];exact t.ok.lE,O B⟩
   .by_cases m:z∈X.groups.map (·.g.pre)
    .obtain ⟨i,x,h,rfl⟩:=HL m;exact .inl ⟨_,t.ok.lF h,V i x h rfl⟩
    .exact .inr ⟨t.ok.qi B m,Y B m⟩
  walk_at"";refine AI X.h a.ae X.dx _ _ rfl t.t.aB T.hc.cls T.hc.sw rfl ?_;refine A4 X.sd _ (.inr z) rfl rfl (.of t.t.sd) ?_;rcases D with ⟨p,hv,q⟩ | ⟨hv,q⟩
  .rw [hv];walk_at"";refine AI X.h a.ae X.dx _ _ rfl t.t.aB T.hc.cls T.hc.sw rfl ?_;walk_at"";exact ⟨X.sd,_,.inr z,_,rfl,rfl,.of t.t.sd,hv,q⟩
  .rw [hv];have gD:=HH L;have I:UI.length=0:=rfl;have J:(TK "there is no group ").length=18:=by decide +kernel
   walk_at"";refine ⟨(by simp only [Ba,I,J,TY];omega),?_⟩;walk_at"";refine ⟨(by rw [TY];omega),?_⟩;walk_at"";refine ⟨(by simp only [Ba,I,J,TY];omega),?_⟩;refine ⟨(by simp only [Ba,I,J,TY];omega),?_⟩;exact ⟨Aw,q⟩
def Q9 (a:Ak):Sp:=λvs H Q _=>∃(x y:LX),vs=[.ref x.p,.ref y.p]/\x.p≠y.p/\H x.p=some (.ins a.Line x.dx x.fs)/\H y.p=some (.ins a.Line y.dx y.fs) /\
 Q .aa (upd (upd H x.p (.ins a.Line x.dx { x with l:={ x.l with st:="rings",ao:=some y.l.num } }.fs)) y.p (.ins a.Line y.dx { y with l:={ y.l with st:="rung",ao:=some x.l.num } }.fs))
def Mo (a:Ak):Sp:=λvs H Q _=>∃(x:LX)(v:V),vs=[.ref x.p,v]/\H x.p=some (.ins a.Line x.dx x.fs) /\
 Q .aa (upd H x.p (.ins a.Line x.dx (BV x.l.num x.i x.h "told" x.l.ai x.l.ag (Eo x.l.ao) v)))
theorem AfY:AR ["self","called"] ["self","called"] (Ab (Ad (top 21) 2)):=.of
theorem Mp:Nm (Ab (Ad (top 21) 2)) "self":=.of
theorem Mq:Nm (Ab (Ad (top 21) 2)) "called":=.of
theorem AfZ (F:AL K "ring" "Line.ring" (Ad (top 21) 2) f fd)(lc:HI K a.Line):AE P w K mg base AA 1 f fd ["self","called"] (Q9 a):=by
 refine F.ok AfY λI A outer s H vs Q E J h=>?_
 .obtain ⟨x,y,rfl,ne,hx,hy,q⟩:=h;refine ⟨_,(@Aj _ _ _ _ _ (Bs (Aa 0 Mp) Az rfl)
    (Aj (Bs (Aa 0 Mp) (Ax (Aa 1 Mq) rfl) rfl)
    (Aj (Bs (Aa 1 Mq) Az rfl)
    (Al (Bs (Aa 1 Mq) (Ax (Aa 0 Mp) rfl) rfl))))),?_⟩
  try dsimp only [aC,aD]
  walk_at"";refine A9 x.p a.Line x.dx _ rfl hx lc.cls lc.st (UE rfl) ?_;have B:(upd H x.p (.ins a.Line x.dx (An "state" (.str "rings") x.fs))) y.p=some (.ins a.Line y.dx y.fs):=by rw [Ap ne.symm];exact hy
  walk_at"";refine AI y.p a.Line y.dx _ _ rfl B lc.cls lc.nu rfl ?_;walk_at"";refine A9 x.p a.Line x.dx _ rfl Ai lc.cls lc.fa (UE rfl) ?_;rw [Eb];have D:(upd H x.p (.ins a.Line x.dx (An "far_end" (.str y.l.num) (An "state" (.str "rings") x.fs)))) y.p=some (.ins a.Line y.dx y.fs):=by rw [Ap ne.symm];exact hy
  walk_at"";refine A9 y.p a.Line y.dx _ rfl D lc.cls lc.st (UE rfl) ?_;walk_at"";refine AI x.p a.Line x.dx _ _ rfl (by rw [Ap ne];exact Ai) lc.cls lc.nu rfl ?_;walk_at"";refine A9 y.p a.Line y.dx _ rfl Ai lc.cls lc.fa (UE rfl) ?_;rw [Eb];exact q
theorem Af0:AR ["self","paper"] ["self","paper"] (Ab (Ad (top 21) 3)):=.of
theorem Ra:Nm (Ab (Ad (top 21) 3)) "self":=.of
theorem Af1:Nm (Ab (Ad (top 21) 3)) "paper":=.of
theorem Af2 (F:AL K "be_told" "Line.be_told" (Ad (top 21) 3) f fd)(lc:HI K a.Line):AE P w K mg base AA 1 f fd ["self","paper"] (Mo a):=by
 refine F.ok Af0 λB A outer s H vs Q E D h=>?_
 .obtain ⟨x,v,rfl,hx,q⟩:=h;refine ⟨_,(@Aj _ _ _ _ _ (Bs (Aa 0 Ra) Az rfl)
    (Al (Bs (Aa 0 Ra) (Aa 1 Af1) rfl))),?_⟩
  try dsimp only [aC,aD]
  walk_at"";refine A9 x.p a.Line x.dx _ rfl hx lc.cls lc.st (UE rfl) ?_;walk_at"";refine A9 x.p a.Line x.dx _ rfl Ai lc.cls lc.wh (UE rfl) ?_;rw [Eb];exact q
noncomputable def aT (S:PS)(w:Str)(k:Int):PS :=
 if w=TK "" then { S with sk:={ S.sk with hs:=S.sk.hs.set k.toNat .aa } }
 else { S with aj:=S.aj.map λg=>if g.pre=w then { g with hs:=g.hs.set k.toNat .aa } else g }
def EW (S:PS)(w:Str)(k:Int):Prop :=
 if w=TK "" then CD k S.sk.hs=true/\S.sk.hs.getD k.toNat .aa≠.aa
 else ∃ g∈S.aj,g.pre=w/\CD k g.hs=true/\g.hs.getD k.toNat .aa≠.aa
noncomputable def aF (S:PS):List (Str×Int)->PS
 | []=>S
 | t :: ts=>aF (aT S t.1 t.2) ts
def bM (S:PS):List (Str×Int)->Prop
 | []=>True
 | t :: ts=>EW S t.1 t.2/\bM (aT S t.1 t.2) ts
theorem Rb (x:Str×Int):∀(ts:List (Str×Int))(S:PS),aF S (ts++[x])=aT (aF S ts) x.1 x.2
 | [],_=>rfl
 | t :: ts,S=>Rb x ts _
theorem Rc:∀{ts:List (Str×Int)}{S:PS},bM S ts->∀{j:Nat}{x:Str×Int},ts[j]?=some x->EW (aF S (ts.take j)) x.1 x.2
 | [],_,_,j,x,h=>by simp at h
 | t :: ts,S,r,0,x,h=>by
  have e:t=x:=by simpa using h
  subst e;exact r.1
 | t :: ts,S,r,j+1,x,h=>Rc (S:=aT S t.1 t.2) r.2 (by simpa using h)
theorem D1 {α:Type}:∀{l:List α},l.Nodup->∀{i j:Nat}{x y:α},l[i]?=some x->l[j]?=some y->i≠j->x≠y
 | [],_,i,j,x,y,hx,_,_=>by simp at hx
 | z :: l,h,0,0,x,y,_,_,ne=>absurd rfl ne
 | z :: l,h,0,j+1,x,y,hx,hy,_=>λe=>by
  have hx:z=x:=by simpa using hx
  have hy:l[j]?=some y:=by simpa using hy
  exact (Uv.mp h).1 (by rw [hx,e];exact Ue hy)
 | z :: l,h,i+1,0,x,y,hx,hy,_=>λe=>by
  have hy:z=y:=by simpa using hy
  have hx:l[i]?=some x:=by simpa using hx
  exact (Uv.mp h).1 (by rw [hy,<- e];exact Ue hx)
 | z :: l,h,i+1,j+1,x,y,hx,hy,ne=>D1 (Uv.mp h).2 (by simpa using hx) (by simpa using hy) (by omega)
theorem Rf {α:Type}{f:α->Str}{h:α->α}:∀{l:List α}{i:Nat}{x:α},(l.map f).Nodup->l[i]?=some x->l.set i (h x)=l.map λy=>if f y=f x then h y else y
 | [],_,_,_,e=>by simp at e
 | z :: l,0,x,nd,e=>by
  have e:z=x:=by simpa using e
  subst e;have n:=(Uv.mp nd).1;show h z :: l=(if f z=f z then h z else z) :: l.map _;rw [if_pos rfl];refine congrArg (h z :: ·) ?_;conv=>lhs;rw [<- Wz l]
  exact WV λy D=>by rw [if_neg (λq=>n (by rw [<- q];exact Ua.mpr ⟨y,D,rfl⟩))];rfl
 | z :: l,i+1,x,nd,e=>by
  have B:=Uv.mp nd;have e:l[i]?=some x:=by simpa using e
  show z :: l.set i (h x)=(if f z=f x then h z else z) :: l.map _;rw [if_neg (λq=>B.1 (by rw [q];exact Ua.mpr ⟨x,Ue e,rfl⟩)),Rf B.2 e]
section
variable {K:TH}{a:Ak}{H H':Hp}{X:HX}{R:AK}{i:Nat}{x y:LX}{g g':RX}
theorem HX.lH {g':RX}{h:Gr->Gr}(B:(X.groups.map (·.g.pre)).Nodup)(e:X.groups[i]?=some g)(D:g'.g=h g.g):({ X with groups:=X.groups.set i g' }:HX).S={ X.S with aj:=X.S.aj.map λy=>if y.pre=g.g.pre then h y else y }:=by
 have I:(X.groups.set i g').map (·.g)=(X.groups.map (·.g)).set i (h g.g):=by rw [Vb,D]
 have J:=Rf (f:=λy:Gr=>y.pre) (h:=h) (l:=X.groups.map (·.g)) (i:=i) (x:=g.g) (by rw [Uo];exact B) (by rw [T7,e];rfl);show (⟨X.long,X.lines.map (·.l),(X.groups.set i g').map (·.g),X.sk.k,X.q,X.dn⟩:PS)=_;rw [I,J];rfl
theorem HT.sw (t:HT K a H X R)(sc:ET K a a.aM)(gc:El K a a.aK){w:Str}(m:w=TK ""\/w∈X.groups.map (·.g.pre)) :
  ∃ p C B D J hs js ts,Bj X.cz (.inr w)=some (.ref p)/\C∈a.bx/\(∃ dx fs,H p=some (.ins C dx fs)/\Fs fs B D J)/\Co K a H p C B D J hs js ts /\
   ((w=TK ""/\X.sk.ra=B/\X.sk.rb=D/\X.sk.k.hs=hs/\X.sk.k.js=js/\X.sk.k.ts=ts)\/∃(i:Nat)(g:RX),X.groups[i]?=some g/\g.g.pre=w/\w≠TK ""/\g.ra=B/\g.rb=D/\g.g.hs=hs/\g.g.js=js/\g.g.ts=ts):=by
 by_cases I:w=TK ""
 .have s:=t.t.jK sc t.ok.sk;obtain ⟨dx,L⟩:=s.ins;exact ⟨_,a.aM,_,_,_,_,_,_,by rw [I];exact t.ok.lE,sc.c.mem,⟨dx,_,L,JB ..⟩,s.r,.inl ⟨I,rfl,rfl,rfl,rfl,rfl⟩⟩
 .have m:=m.resolve_left I;obtain ⟨i,g,h,rfl⟩:=HL m;have r:=t.t.jI h gc (t.ok.gr g (Ue h));exact ⟨_,a.aK,_,_,_,_,_,_,t.ok.lF h,gc.mem,r.ins,r,.inr ⟨i,g,h,rfl,I,rfl,rfl,rfl,rfl,rfl⟩⟩
theorem HT.aaU (t:HT K a H X R){hs':List V}(B:hs'.length=X.sk.k.hs.length):HT K a (upd H X.sk.ra (.lst hs')) { X with sk:={ X.sk with k:={ X.sk.k with hs:=hs' } } } R:=by have f:=t.t.jJ;have o:=t.ok.sk;refine ⟨At.swap (At.set (P:=[_]) f),t.ok.iK (.chg (o:=.lst X.sk.k.hs) (f.get (by simp [BG])) rfl) ⟨by show _=hs'.length;rw [B];exact o.lj,by show _=hs'.length;rw [B];exact o.lt,by show _=hs'.length;rw [B];exact o.ls,by show _=hs'.length;rw [B];exact o.lw,by show hs'.length<=_;rw [B];exact o.z⟩⟩
theorem HT.aaV (t:HT K a H X R){js':List Bool}(B:js'.length=X.sk.k.js.length):HT K a (upd H X.sk.rb (.lst (js'.map V.bl))) { X with sk:={ X.sk with k:={ X.sk.k with js:=js' } } } R:=by have f:=t.t.jJ;have o:=t.ok.sk;refine ⟨At.swap (At.set (P:=[_,_]) f),t.ok.iK (.chg (o:=.lst (X.sk.k.js.map V.bl)) (f.get (by simp [BG])) rfl) ⟨by show js'.length=_;rw [B];exact o.lj,o.lt,o.ls,o.lw,o.z⟩⟩
theorem HT.aaW (t:HT K a H X R)(h:X.groups[i]?=some g){hs':List V}(B:hs'.length=g.g.hs.length):HT K a (upd H g.ra (.lst hs')) { X with groups:=X.groups.set i { g with g:={ g.g with hs:=hs' } } } R:=by have f:=t.t.jH h;have o:=t.ok.gr g (Ue h);refine ⟨At.lC (g:=g) rfl rfl h (At.set (P:=[_]) f),t.ok.setG (.chg (o:=.lst g.g.hs) (f.get (by simp [Bz])) rfl) h rfl ⟨by show _=hs'.length;rw [B];exact o.lj,by show _=hs'.length;rw [B];exact o.lt,by show hs'.length<=_;rw [B];exact o.z⟩⟩
theorem HT.aaX (t:HT K a H X R)(h:X.groups[i]?=some g){js':List Bool}(B:js'.length=g.g.js.length):HT K a (upd H g.rb (.lst (js'.map V.bl))) { X with groups:=X.groups.set i { g with g:={ g.g with js:=js' } } } R:=by have f:=t.t.jH h;have o:=t.ok.gr g (Ue h);refine ⟨At.lC (g:=g) rfl rfl h (At.set (P:=[_,_]) f),t.ok.setG (.chg (o:=.lst (g.g.js.map V.bl)) (f.get (by simp [Bz])) rfl) h rfl ⟨by show js'.length=_;rw [B];exact o.lj,o.lt,o.z⟩⟩
structure Wk (H H':Hp)(X X':HX):Prop where
 h:X'.h=X.h
 tp:Ah H H'
theorem HT.frees (t:HT K a H X R)(sc:ET K a a.aM)(gc:El K a a.aK){w:Str}{k:Int}(hw:EW X.S w k) :
  ∃ p C D L I hs js ts,Bj X.cz (.inr w)=some (.ref p)/\C∈a.bx/\(∃ dx fs,H p=some (.ins C dx fs)/\Fs fs D L I)/\Co K a H p C D L I hs js ts/\CD k hs=true/\hs.getD k.toNat .aa≠.aa /\
   ∃ J:HX,J.S=aT X.S w k/\J.lines=X.lines/\J.h=X.h/\HT K a (upd H D (.lst (hs.set k.toNat .aa))) J R/\Ah H (upd H D (.lst (hs.set k.toNat .aa))):=by
 have m:w=TK ""\/w∈X.groups.map (·.g.pre):=by
  unfold EW at hw;by_cases B:w=TK ""
  .exact .inl B
  .rw [if_neg B] at hw;obtain ⟨g,mg,e,_⟩:=hw;obtain ⟨x,O,rfl⟩:=Ua.mp mg;exact .inr (Ua.mpr ⟨x,O,e⟩)
 obtain ⟨p,C,D,L,I,hs,js,ts,e1,e2,e3,r,⟨B,rfl,rfl,rfl,rfl,rfl⟩ | ⟨i,g,h,rfl,B,rfl,rfl,rfl,rfl,rfl⟩⟩:=t.sw sc gc m
 .unfold EW at hw;rw [if_pos B] at hw;refine ⟨p,C,_,_,I,_,_,_,e1,e2,e3,r,hw.1,hw.2,{ X with sk:={ X.sk with k:={ X.sk.k with hs:=X.sk.k.hs.set k.toNat .aa } } },?_,rfl,rfl,t.aaU (hs':=X.sk.k.hs.set k.toNat .aa) (by rw [Ud]),.chg r.ha rfl⟩;unfold aT;rw [if_pos B];rfl
 .unfold EW at hw;rw [if_neg B] at hw;obtain ⟨g2,mg,e,V,Y⟩:=hw;obtain ⟨x,O,rfl⟩:=Ua.mp mg;obtain ⟨j,hj,ej⟩:=Vd O;have bP:X.groups[j]?=some x:=by rw [Ug hj,ej]
  have eg:x=g:=by
   by_cases ij:i=j
   .subst ij;rw [h] at bP;cases bP;rfl
   .exact absurd e.symm (D1 t.ok.pre (i:=i) (j:=j) (by rw [T7,h];rfl) (by rw [T7,bP];rfl) ij)
  subst eg;refine ⟨p,C,_,_,I,_,_,_,e1,e2,e3,r,V,Y,{ X with groups:=X.groups.set i { x with g:={ x.g with hs:=x.g.hs.set k.toNat .aa } } },?_,rfl,rfl,t.aaW h (hs':=x.g.hs.set k.toNat .aa) (by rw [Ud]),.chg r.ha rfl⟩;unfold aT;rw [if_neg B];exact HX.lH (h:=λy=>{ y with hs:=y.hs.set k.toNat .aa }) t.ok.pre h rfl
end
def HM (K:TH)(a:Ak):Sp:=λvs H Q _=>∃(X:HX)(R:AK)(i:Nat)(x:LX),vs=[.ref X.h,.ref x.p]/\HT K a H X R/\X.lines[i]?=some x/\bM X.S x.l.held /\
 ∀ H' X' y,HT K a H' X' R->X'.h=X.h->X'.S={ aF X.S x.l.held with lns:=X.S.lns.set i { x.l with held:=[] } }->X'.lines=X.lines.set i y->y.p=x.p->y.l={ x.l with held:=[] }->Ah H H'->Q .aa H'
theorem Af3 (S:PS)(w:Str)(k:Int):(aT S w k).lns=S.lns:=by unfold aT;split<;>rfl
theorem HN:∀(ts:List (Str×Int))(S:PS),(aF S ts).lns=S.lns
 | [],_=>rfl
 | t :: ts,S=>(HN ts _).trans (Af3 S t.1 t.2)
theorem C9.at {H:Hp}:∀{xs:List Addr}{ps:List (Str×Int)},C9 H xs ps->∀{j:Nat}{x:Addr},xs[j]?=some x->∃ p,ps[j]?=some p/\H x=some (.tup [.str p.1,.int p.2])
 | [],[],_,j,x,h=>by simp at h
 | [],_ :: _,h,_,_,_=>h.elim
 | _ :: _,[],h,_,_,_=>h.elim
 | y :: xs,p :: ps,h,0,x,e=>by
  have e:y=x:=by simpa using e
  subst e;exact ⟨p,rfl,h.1⟩
 | y :: xs,p :: ps,h,j+1,x,e=>by
  obtain ⟨q,B,D⟩:=C9.at h.2 (by simpa using e);exact ⟨q,by simpa using B,D⟩
theorem C9.len {H:Hp}:∀{xs:List Addr}{ps:List (Str×Int)},C9 H xs ps->xs.length=ps.length
 | [],[],_=>rfl
 | [],_ :: _,h=>h.elim
 | _ :: _,[],h=>h.elim
 | _ :: _,_ :: _,h=>congrArg Nat.succ (C9.len h.2)
theorem TxtH.cA (T:TxtH P w K mg a):∀ C∈a.bx,Cm K C:=λC m=>by
 have m:C∈[a.aM,a.aK]:=m;simp only [T8,UT,or_false] at m;rcases m with rfl | rfl
 .exact T.sc.c.cls
 .exact T.gc.cls
theorem Rg:AR ["self","line","where","k"] ["self","line"] (Ab (Ad (top 27) 14)):=.of
theorem Af4:Nm (Ab (Ad (top 27) 14)) "self":=.of
theorem Rh:Nm (Ab (Ad (top 27) 14)) "line":=.of
theorem Ri:Nm (Ab (Ad (top 27) 14)) "where":=.of
theorem Rj:Nm (Ab (Ad (top 27) 14)) "k":=.of
theorem Af5 (F:AL K "release" "Hall.release" (Ad (top 27) 14) f fd)(T:TxtH P w K mg a)(lI:∀ C∈a.bx,AO P w K mg base (AJ P w) 3 C "free" ["self","k"] (Qa K a)):AE P w K mg base (AJ P w) 4 f fd ["self","line"] (HM K a):=by
 refine F.bf Rg λak A outer s H vs Q E hr h=>?_
 .obtain ⟨X,R,i,x,rfl,t,h,ha,q⟩:=h;have cA:=T.cA;have nd:=Rg.nd;refine ⟨_,(@Aj _ _ _ _ _ (Dt ZJ rfl (Ds (Ax (Aa 1 Rh) rfl)) (GQ rfl (CJ (Bt 2 nd Ri) (CJ (Bt 3 nd Rj) Ez))) (Al (Bm (LJ lI cA (BU P w K (Ax (Aa 0 Af4) rfl) (Aa 2 Ri)) hr.d By (Ac (Aa 3 Rj) Af)))))
    (Al (Bs (Aa 1 Rh) (Bn Af) rfl))),?_⟩
  try dsimp only [aC,aD]
  walk_at"";refine AI x.p a.Line x.dx _ _ rfl (t.t.ax h) T.lc.cls T.lc.he rfl ?_;refine Dm x.h rfl ⟨⟨_,.of (t.t.iJ h)⟩,Fp (K:=K) (a:=x.h) (xs:=x.hv.map V.ref) (λj σ I=>∃ u v B,σ=[some (.ref X.h),some (.ref x.p),u,v]/\HT K a I B R/\B.S=aF X.S (x.l.held.take j)/\B.lines=X.lines/\B.h=X.h/\Ah H I) ⟨none,none,X,rfl,t,rfl,rfl,rfl,.refl⟩ (λj σ I _ ⟨_,_,B,_,D,_,e2,_⟩=>.of (D.t.iJ (by rw [e2];exact h))) ?_ ?_⟩
  .intro j v σ I hj zq;obtain ⟨u0,v0,B,rfl,D,O,eL,eh,tp⟩:=zq;have L:=(t.ok.lx i x h).av tp;rw [T7] at hj;obtain ⟨pt,hp,rfl⟩:=UU.mp hj;obtain ⟨pr,hk,et⟩:=L.pr.at hp;have hw:=Rc ha hk;rw [<- O] at hw;obtain ⟨p,C,ra,rb,rc,hs,js,ts,e1,e2,⟨dx,fs,e3,e4⟩,rk,w1,w2,X3,e5,e6,e7,t3,Y⟩:=D.frees T.sc T.gc hw;have hX:I X.h=some (.ins a.ae B.dx (EV B.long B.ld B.sd B.qa B.da)):=by rw [<- eh];exact D.t.aB
   walk_at"";refine C6 pt _ rfl (.of et) rfl ?_;walk_at"";refine AI X.h a.ae B.dx _ _ rfl hX T.hc.cls T.hc.sw rfl ?_;walk_at"";refine ⟨B.sd,_,.inr pr.1,_,rfl,rfl,.of D.t.sd,e1,?_⟩;refine AX p C dx fs rfl e2 e3 (e4.m _ (by decide)) ?_;walk_at"";refine ⟨p,pr.2,C,ra,rb,rc,hs,js,ts,rfl,rk,?_⟩;rw [if_pos ⟨w1,w2⟩];walk_at"";have etk:x.l.held.take (j+1)=x.l.held.take j++[pr]:=by rw [VB,hk];rfl
   exact ⟨_,_,X3,rfl,t3,by rw [etk,Rb,e5,O],e6.trans eL,e7.trans eh,tp.trans Y⟩
  .intro σ I zq;obtain ⟨u0,v0,B,rfl,D,O,eL,eh,tp⟩:=zq;rw [TU,(t.ok.lx i x h).pr.len,VC] at O;have J:B.lines[i]?=some x:=by rw [eL];exact h
   walk_at"";refine ⟨Aw,λl nl=>?_⟩;walk_at"";refine A9 x.p a.Line x.dx _ rfl (by rw [Ap (Cb (D.t.ax J) nl)];exact D.t.ax J) T.lc.cls T.lc.he (UE rfl) ?_;have L:=D.ok.lx i x J;have Y:Ah I (upd (upd I l (.lst [])) x.p (.ins a.Line x.dx { x with h:=l,hv:=[],l:={ x.l with held:=[] } }.fs)):=Ah.trans (.new nl) (.chg (o:=.ins a.Line x.dx x.fs) (by rw [Ap (Cb (D.t.ax J) nl)];exact D.t.ax J) rfl);refine q _ { B with lines:=B.lines.set i { x with h:=l,hv:=[],l:={ x.l with held:=[] } } } { x with h:=l,hv:=[],l:={ x.l with held:=[] } } ⟨At.aaT (y:={ x with h:=l,hv:=[],l:={ x.l with held:=[] } }) D.t J nl rfl rfl rfl rfl rfl,D.ok.bz Y J rfl ⟨L.i,trivial,Is.av _ L.wt L.w Y,L.wt,by simp⟩⟩ eh ?_ (by rw [eL]) rfl rfl (tp.trans Y);have:({ B with lines:=B.lines.set i { x with h:=l,hv:=[],l:={ x.l with held:=[] } } }:HX).S={ B.S with lns:=B.S.lns.set i { x.l with held:=[] } }:=by show (⟨B.long,(B.lines.set i _).map (·.l),_,_,_,_⟩:PS)=_;rw [Vb];rfl
   rw [this,O,HN]
noncomputable def AS (ln:Ln)(st:Str):Ln:={ ln with st:=st,ai:="",ag:=0,ao:=none,why:=.none }
structure B0 (K:TH)(H:Hp)(xs:List Addr)(ds:List PyData):Prop where
 i:aW K H (xs.map V.ref) ds
 t:bX ds=true
theorem Rk {K:TH}{H:Hp}:∀{xs ys:List V}{ds es:List PyData},aW K H xs ds->aW K H ys es->aW K H (xs++ys) (ds++es)
 | [],_,_,_,.nil,h=>h
 | _ :: _,_,_,_,.cons a b,h=>.cons a (Rk b h)
theorem Rl {K:TH}{H:Hp}:∀{xs:List V}{ds:List PyData},aW K H xs ds->xs.length=ds.length
 | [],_,.nil=>rfl
 | _ :: _,_,.cons _ b=>congrArg Nat.succ (Rl b)
theorem Rm:∀{ds es:List PyData},bX ds=true->bX es=true->bX (ds++es)=true
 | [],_,_,h=>h
 | d :: ds,es,a,h=>by
  have a:(Ce d && bX ds)=true:=a;rw [Vu] at a;show (Ce d && bX (ds++es))=true;rw [a.1,Rm a.2 h];rfl
section
variable {K:TH}{a:Ak}{H H':Hp}{X:HX}{R:AK}{i:Nat}{x y:LX}{xs ys:List Addr}{ds es:List PyData}
theorem B0.av (t:B0 K H xs ds)(s:Ah H H'):B0 K H' xs ds:=⟨aW.av _ t.t t.i s,t.t⟩
theorem B0.app (t:B0 K H xs ds)(u:B0 K H ys es):B0 K H (xs++ys) (ds++es):=⟨by rw [Um];exact Rk t.i u.i,Rm t.t u.t⟩
theorem B0.nil:B0 K H [] []:=⟨.nil,rfl⟩
theorem B0.one {b:Addr}{d:PyData}(h:Is K H (.ref b) d)(t:Ce d=true):B0 K H [b] [d]:=⟨.cons h .nil,by show (Ce d && true)=true;rw [t];rfl⟩
theorem B0.len (t:B0 K H xs ds):xs.length=ds.length:=by have:=Rl t.i;rwa [TU] at this
theorem HX.gJ:({ X with lines:=X.lines.set i y }:HX).S={ X.S with lns:=X.S.lns.set i y.l }:=by show (⟨X.long,(X.lines.set i _).map (·.l),_,_,_,_⟩:PS)=_;rw [Vb];rfl
theorem HT.bz (t:HT K a H X R)(h:X.lines[i]?=some x)(y:LX)(ep:y.p=x.p)(O:y.dx=x.dx)(V:y.h=x.h)(I:y.hv=x.hv)(Y:y.i=x.i)(J:y.l.num=x.l.num)(L:y.l.held=x.l.held)(w:Is K H y.wv y.l.why)(wt:Ce y.l.why=true) :
  HT K a (upd H x.p (.ins a.Line x.dx y.fs)) { X with lines:=X.lines.set i y } R/\Ah H (upd H x.p (.ins a.Line x.dx y.fs)):=by
 have B:Ah H (upd H x.p (.ins a.Line x.dx y.fs)):=.chg (t.t.ax h) rfl;have D:=t.ok.lx i x h;exact ⟨⟨t.t.bz h ep O V I J,t.ok.bz B h J ⟨Y.trans D.i,by rw [I,L];exact D.pr.av B,Is.av _ wt w B,wt,by rw [L];exact D.aJ⟩⟩,B⟩
theorem HT.turn (t:HT K a H X R)(h:X.lines[i]?=some x)(st:Str) :
  HT K a (upd H x.p (.ins a.Line x.dx (BV x.l.num x.i x.h st "" 0 .aa .aa))) { X with lines:=X.lines.set i { x with wv:=.aa,l:=AS x.l st } } R/\Ah H (upd H x.p (.ins a.Line x.dx (BV x.l.num x.i x.h st "" 0 .aa .aa))) :=
 t.bz h { x with wv:=.aa,l:=AS x.l st } rfl rfl rfl rfl rfl rfl rfl .aa rfl
theorem HT.dv (t:HT K a H X R)(B:List Str):HT K a (upd H X.qa (.lst (B.map V.str))) { X with q:=B } R/\Ah H (upd H X.qa (.lst (B.map V.str))):=by have D:Ah H (upd H X.qa (.lst (B.map V.str))):=.chg t.t.q rfl;exact ⟨⟨t.t.dv,⟨t.ok.num,t.ok.pre,t.ok.ne,λi x h=>(t.ok.lx i x h).av D,t.ok.gr,t.ok.sk⟩⟩,D⟩
theorem At.jN {r:Addr}{o o':HO}(t:At H (AY a X ((r,o) :: R))):At (upd H r o') (AY a X ((r,o') :: R)):=by unfold AY at t ⊢;rw [<- Ur,<- Ur,<- Ur] at t ⊢;exact t.set
theorem HT.jN {r:Addr}{o o':HO}(t:HT K a H X ((r,o) :: R))(k:Gn o=false):HT K a (upd H r o') X ((r,o') :: R)/\Ah H (upd H r o'):=by have B:Ah H (upd H r o'):=.chg (t.t.rest.hd) k;exact ⟨⟨t.t.jN,t.ok.av B⟩,B⟩
theorem HT.at (t:HT K a H X R){ln:Ln}(h:X.S.lns[i]?=some ln):∃ x,X.lines[i]?=some x/\x.l=ln:=by have h:(X.lines.map (·.l))[i]?=some ln:=h;rw [T7] at h;exact UU.mp h
theorem Bd {α:Type}{l:List α}{i:Nat}{x y:α}(h:l[i]?=some x):(l.set i y)[i]?=some y:=VD (Uy.mp h).1
end
noncomputable def CF (S:PS)(i:Nat)(ln:Ln):PS:={ S with lns:=S.lns.set i (AS ln "waits"),q:=S.q++[ln.num] }
def Mr (K:TH)(a:Ak):Sp:=λvs H Q _=>∃(X:HX)(R:AK)(i:Nat)(x:LX),vs=[.ref X.h,.ref x.p]/\HT K a H X R/\X.lines[i]?=some x/\X.q.length<1000 /\
 ∀ H' X' y b,HT K a H' X' R->X'.h=X.h->X'.S=CF X.S i x.l->X'.lines=X.lines.set i y->y.p=x.p->y.l=AS x.l "waits"->Ah H H'->H' b=some (.tup [.str "waits",.str x.l.num])->Q (.ref b) H'
theorem Af6:AR ["self","line"] ["self","line"] (Ab (Ad (top 27) 13)):=.of
theorem Af7:Nm (Ab (Ad (top 27) 13)) "self":=.of
theorem Ms:Nm (Ab (Ad (top 27) 13)) "line":=.of
theorem Af8 (F:AL K "wait" "Hall.wait" (Ad (top 27) 13) f fd)(T:TxtH P w K mg a)(dX:AO P w K mg base AA 1 a.Line "turn" ["self","state"] (Gp a)):AE P w K mg base AA 2 f fd ["self","line"] (Mr K a):=by
 refine F.ok Af6 λak A outer s H vs Q E hr h=>?_
 .obtain ⟨X,R,i,x,rfl,t,h,qz,q⟩:=h;have dY:=T.lc.cls;refine ⟨_,(@Aj _ _ _ _ _ (Bm (A2 dX dY (Aa 1 Ms) hr.d A1 (Ac Az Af)))
    (Aj (Bm (DB VJ V6 V7 DU (Ax (Aa 0 Af7) rfl) (Ac (Ax (Aa 1 Ms) rfl) Af)))
    (Al (AN (BE (Ac Az (Ac (Ax (Aa 1 Ms) rfl) Af))))))),?_⟩
  try dsimp only [aC,aD]
  walk_at"";refine A4 x.p x.dx _ rfl (t.t.ax h) rfl ?_;walk_at"";refine GZ x.p x.dx x.l.num x.i x.h ("waits") _ rfl ⟨t.t.ax h,.inr ⟨_,_,_,_,_,rfl⟩,?_⟩;obtain ⟨D,L⟩:=t.turn h "waits";have O:(X.lines.set i { x with wv:=.aa,l:=AS x.l "waits" })[i]?=some { x with wv:=.aa,l:=AS x.l "waits" }:=Bd h;generalize upd H x.p (.ins a.Line x.dx (BV x.l.num x.i x.h "waits" "" 0 .aa .aa))=B at D L ⊢;have l1:B x.p=some (.ins a.Line x.dx (BV x.l.num x.i x.h "waits" "" 0 .aa .aa)):=D.t.ax O;have Y:B X.qa=some (.lst (X.q.map V.str)):=D.t.q;walk_at"";refine AI X.h a.ae X.dx _ _ rfl D.t.aB T.hc.cls T.hc.qu rfl ?_;refine ⟨.inl ⟨rfl,_,.of Y⟩,?_⟩;walk_at"";refine AI x.p a.Line x.dx _ _ rfl l1 T.lc.cls T.lc.nu rfl ?_;walk_at"";refine Cv X.qa _ _ rfl rfl Y (by rw [TU,TY];omega) ?_;rw [show X.q.map V.str++[V.str x.l.num]=(X.q++[x.l.num]).map V.str by rw [Um];rfl];obtain ⟨I,J⟩:=D.dv (X.q++[x.l.num]);have I:HT K a (upd B X.qa (.lst ((X.q++[x.l.num]).map V.str))) { X with lines:=X.lines.set i { x with wv:=.aa,l:=AS x.l "waits" },q:=X.q++[x.l.num] } R:=I;have J:Ah B (upd B X.qa (.lst ((X.q++[x.l.num]).map V.str))):=J;generalize upd B X.qa (.lst ((X.q++[x.l.num]).map V.str))=H2 at I J ⊢;have l2:H2 x.p=some (.ins a.Line x.dx (BV x.l.num x.i x.h "waits" "" 0 .aa .aa)):=I.t.ax O;walk_at"";refine AI x.p a.Line x.dx _ _ rfl l2 T.lc.cls T.lc.nu rfl ?_;walk_at"";refine ⟨Aw,λb nb=>?_⟩;have s3:=(Ag.refl H2).upd (o:=.tup [.str "waits",.str x.l.num]) nb;refine q _ _ _ b (I.same s3) rfl ?_ rfl rfl rfl (L.trans (J.trans (.of s3))) Ai;show (⟨X.long,(X.lines.set i _).map (·.l),_,_,_,_⟩:PS)=_;rw [Vb];rfl
noncomputable def A3 (lns:List Ln)(z:Str):Nat:=(lns.map (·.num)).idxOf z
theorem Rn {lns:List Ln}{z:Str}(h:z∈lns.map (·.num)):∃ ln,lns[A3 lns z]?=some ln/\ln.num=z:=by have e:=Ld h;rw [T7] at e;obtain ⟨ln,B,D⟩:=UU.mp e;exact ⟨ln,B,D⟩
noncomputable def bS (s:Sk)(k:Int)(i:Nat):Sk:={ s with hs:=s.hs.set k.toNat (.int i),ts:=s.ts.set k.toNat (s.ts.getD k.toNat 0+1),mark:=(k+1) % s.hs.length,st:=s.st.set k.toNat i,wt:=s.wt.set k.toNat (s.wt.getD k.toNat 0+((i:Int) - s.st.getD k.toNat 0) % s.places) }
noncomputable def DJ (S:PS):Option (PyData×PS):=match S.q with
 | []=>none
 | z :: r=>match BF S.sk.hs S.sk.js S.sk.mark with
  | none=>none
  | some k=>match S.lns[A3 S.lns z]? with
   | none=>none
   | some ln=>some (.tuple [.str "tone",.str z,.int k,.int (((A3 S.lns z:Int) - S.sk.st.getD k.toNat 0) % S.sk.places)],{ S with q:=r,lns:=S.lns.set (A3 S.lns z) { AS ln "dials" with held:=ln.held++[((TK ""),k)] },sk:=bS S.sk k (A3 S.lns z) })
noncomputable def aS:Nat->PS->List PyData×PS
 | 0,S=>([],S)
 | n+1,S=>match DJ S with
  | none=>([],S)
  | some x=>(x.1 :: (aS n x.2).1,(aS n x.2).2)
noncomputable def B1 (S:PS):List PyData×PS:=aS S.q.length S
structure Dy (S:PS):Prop where
 nd:S.q.Nodup
 ln:∀ z∈S.q,∃ ln∈S.lns,ln.num=z/\ln.held=[]
 num:(S.lns.map (·.num)).Nodup
 m0:0<=S.sk.mark
 m1:S.sk.mark<=S.sk.hs.length
 pl:0<S.sk.places
 aJ:S.q.length<=100
theorem FH {lns:List Ln}(B:(lns.map (·.num)).Nodup){i j:Nat}{x y:Ln}(D:lns[i]?=some x)(H:lns[j]?=some y)(ne:i≠j):x.num≠y.num :=
 D1 B (i:=i) (j:=j) (by rw [T7,D];rfl) (by rw [T7,H];rfl) ne
theorem Mt {lns:List Ln}(B:(lns.map (·.num)).Nodup){i:Nat}{ln:Ln}(h:lns[i]?=some ln):A3 lns ln.num=i:=by
 obtain ⟨D,f1,f2⟩:=Rn (lns:=lns) (z:=ln.num) (Ua.mpr ⟨ln,Ue h,rfl⟩);by_cases e:A3 lns ln.num=i
 .exact e
 .exact absurd f2 (FH B f1 h e)
theorem Dy.idx {S:PS}(h:Dy S){z:Str}(m:z∈S.q):∃ ln,S.lns[A3 S.lns z]?=some ln/\ln.num=z/\ln.held=[]:=by
 obtain ⟨B,H,m2,I⟩:=h.ln z m;obtain ⟨j,J,L⟩:=Vd H;have D:S.lns[j]?=some B:=by rw [Ug J,L]
 exact ⟨B,by rw [<- m2,Mt h.num D];exact D,m2,I⟩
theorem JS {S:PS}{x:PyData×PS}(q:Dy S)(e:DJ S=some x):∃ z r k ln,S.q=z :: r/\BF S.sk.hs S.sk.js S.sk.mark=some k/\S.lns[A3 S.lns z]?=some ln/\ln.num=z/\ln.held=[] /\
  x=(.tuple [.str "tone",.str z,.int k,.int (((A3 S.lns z:Int) - S.sk.st.getD k.toNat 0) % S.sk.places)],{ S with q:=r,lns:=S.lns.set (A3 S.lns z) { AS ln "dials" with held:=ln.held++[((TK ""),k)] },sk:=bS S.sk k (A3 S.lns z) }):=by
 unfold DJ at e;cases eq:S.q with
 | nil=>rw [eq] at e;cases e
 | cons z r =>
  rw [eq] at e;dsimp only at e;cases ef:BF S.sk.hs S.sk.js S.sk.mark with
  | none=>rw [ef] at e;cases e
  | some k =>
   rw [ef] at e;dsimp only at e;obtain ⟨ln,B,D,H⟩:=q.idx (z:=z) (by rw [eq];simp);rw [B] at e;exact ⟨z,r,k,ln,rfl,rfl,B,D,H,(Uk e).symm⟩
theorem Ro {S:PS}{z:Str}{r:List Str}{k:Int}{ln:Ln}(B:S.q=z :: r)(D:BF S.sk.hs S.sk.js S.sk.mark=some k)(H:S.lns[A3 S.lns z]?=some ln):DJ S=some (.tuple [.str "tone",.str z,.int k,.int (((A3 S.lns z:Int) - S.sk.st.getD k.toNat 0) % S.sk.places)],{ S with q:=r,lns:=S.lns.set (A3 S.lns z) { AS ln "dials" with held:=ln.held++[((TK ""),k)] },sk:=bS S.sk k (A3 S.lns z) }):=by unfold DJ;rw [B];dsimp only;rw [D];dsimp only;rw [H]
theorem Af9 {α:Type}{l:List α}{i j:Nat}{x y:α}(h:i<l.length):(l.set i x)[j]?=some y↔(i=j/\x=y)\/(i≠j/\l[j]?=some y):=by
 rw [uQ];by_cases e:i=j
 .subst e;rw [if_pos rfl,if_pos h];exact ⟨λz=>.inl ⟨rfl,Uk z⟩,λz=>z.elim (λw=>by rw [w.2]) λw=>absurd rfl w.1⟩
 .rw [if_neg e];exact ⟨λz=>.inr ⟨e,z⟩,λz=>z.elim (λw=>absurd w.1 e) λw=>w.2⟩
theorem Dy.next {S:PS}{x:PyData×PS}(h:Dy S)(e:DJ S=some x):Dy x.2/\x.2.q.length+1=S.q.length:=by
 obtain ⟨z,r,k,H,B,V,D,Y,e5,rfl⟩:=JS h e;obtain ⟨⟨k0,k1⟩,_⟩:=Em h.m0 h.m1 V;have I:=h.nd;rw [B] at I;obtain ⟨zr,lJ⟩:=Uv.mp I;have fw:=h.aJ;rw [B,Vf] at fw;have il:=(Uy.mp D).1;refine ⟨⟨lJ,λy J=>?_,?_,WX _ (by omega),?_,h.pl,by show r.length<=100;omega⟩,by rw [B];simp⟩
 .obtain ⟨L,m1,m2,m3⟩:=h.ln y (by rw [B];exact Uu _ J);obtain ⟨j,hj,ej⟩:=Vd m1;have O:S.lns[j]?=some L:=by rw [Ug hj,ej]
  refine ⟨L,Ue (i:=j) ((Af9 il).mpr (.inr ⟨λd=>?_,O⟩)),m2,m3⟩;rw [d,O] at D;cases D;exact zr (by rw [<- Y,m2];exact J)
 .show ((S.lns.set _ _).map _).Nodup;rw [Dx (f:=λx:Ln=>x.num) (y:={ AS H "dials" with held:=H.held++[((TK ""),k)] }) D rfl];exact h.num
 .show (k+1) % (S.sk.hs.length:Int)<=((S.sk.hs.set k.toNat _).length:Nat);rw [Ud];exact Yy (WY _ (by omega))
def Rp (K:TH)(a:Ak):Sp:=λvs H Q _=>∃(X:HX)(R:AK),vs=[.ref X.h]/\HT K a H X R/\Dy X.S /\
 ∀ H' X' r xs,X'.h=X.h->X'.S=(B1 X.S).2->HT K a H' X' ((r,.lst (xs.map V.ref)) :: R)->Ah H H'->B0 K H' xs (B1 X.S).1->Q (.ref r) H'
theorem HT.seek {H B:Hp}{X:HX}{R:AK}(t:HT K a H X R){k:Int}{i:Nat}(hk:0<=k/\k<X.sk.k.hs.length)(s:Cd [X.sk.p,X.sk.ra,X.sk.rc,X.sk.rs,X.sk.rw] H B)(e:D0 K a B X.sk.p a.aM X.sk.ra X.sk.rb X.sk.rc X.sk.rs X.sk.rw (bS X.sk.k k i).hs (bS X.sk.k k i).js (bS X.sk.k k i).ts (bS X.sk.k k i).places (bS X.sk.k k i).mark (bS X.sk.k k i).st (bS X.sk.k k i).wt) :
  ∃ dx',HT K a B { X with sk:={ X.sk with k:=bS X.sk.k k i,dx:=dx' } } R/\Ah H B:=by
 obtain ⟨dx,I⟩:=e.ins;obtain ⟨u,D⟩:=t.t.iK (k':=bS X.sk.k k i) (dx':=dx) s (λw m=>by simp only [T8,UT,or_false] at m;rcases m with z | z | z | z | z<;>simp [BG,z]) I e.ha e.hb e.hc e.fN e.hw;exact ⟨dx,⟨u,t.ok.iK D ⟨e.lj,e.lt,e.ls,e.lw,e.z⟩⟩,D⟩
theorem HT.jG {H:Hp}{X:HX}{R:AK}{i:Nat}{x:LX}(t:HT K a H X R)(h:X.lines[i]?=some x){u:Addr}{D:Str}{k:Int}(e:H u=some (.tup [.str D,.int k]))(O:x.l.held.length<=9) :
  HT K a (upd H x.h (.lst (x.hv.map V.ref++[V.ref u]))) { X with lines:=X.lines.set i { x with hv:=x.hv++[u],l:={ x.l with held:=x.l.held++[(D,k)] } } } R/\Ah H (upd H x.h (.lst (x.hv.map V.ref++[V.ref u]))):=by
 have I:Ah H (upd H x.h (.lst (x.hv.map V.ref++[V.ref u]))):=.chg (t.t.iJ h) rfl;have J:=(t.ok.lx i x h).av I;have B:∀{L:List Addr}{B:List (Str×Int)}{H:Hp},C9 H L B->H u=some (.tup [.str D,.int k])->C9 H (L++[u]) (B++[(D,k)]):=λ{L}=>by
  induction L with
  | nil=>intro B H h e;cases B with | nil=>exact ⟨e,trivial⟩ | cons _ _=>exact h.elim
  | cons y ys ih=>intro B H h e;cases B with | nil=>exact h.elim | cons _ _=>exact ⟨h.1,ih h.2 e⟩
 exact ⟨⟨At.jG (y:={ x with hv:=x.hv++[u],l:={ x.l with held:=x.l.held++[(D,k)] } }) t.t h rfl rfl rfl rfl rfl rfl,t.ok.bz I h rfl ⟨J.i,B J.pr (I.t e),J.w,J.wt,by show (x.l.held++[_]).length<=10;rw [UK,U6];omega⟩⟩,I⟩
theorem Rq:AR ["self","told","line","taken","k","steps"] ["self"] (Ab (Ad (top 27) 15)):=.of
theorem HP:Nm (Ab (Ad (top 27) 15)) "self":=.of
theorem JT:Nm (Ab (Ad (top 27) 15)) "told":=.of
theorem HQ:Nm (Ab (Ad (top 27) 15)) "line":=.of
theorem Mu:Nm (Ab (Ad (top 27) 15)) "taken":=.of
theorem Mv:Nm (Ab (Ad (top 27) 15)) "k":=.of
theorem Rr:Nm (Ab (Ad (top 27) 15)) "steps":=.of
theorem Rt:Gm (Ab (Ad (top 27) 15)) "AT_SEEKERS":=.of
theorem Aga (F:AL K "tones" "Hall.tones" (Ad (top 27) 15) f fd)(T:TxtH P w K mg a)(dX:AO P w K mg base AA 1 a.Line "turn" ["self","state"] (Gp a))(lK:AO P w K mg base AA 2 a.aM "take" ["self","place"] (Qw K a)):AE P w K mg base AA 3 f fd ["self"] (Rp K a):=by
 refine F.ok Rq λak A outer s H vs Q E hr h=>?_
 .obtain ⟨X0,R,rfl,t0,qk,q⟩:=h;have dY:=T.lc.cls;have lL:=T.sc.c.cls;have hu:=hr.units;have nd:=Rq.nd;refine ⟨_,(@Aj _ _ _ _ _ (Bb 1 nd JT (Bn Af))
    (Aj (AaF VT (Aa2 (Ax (Aa 0 HP) rfl) (by intro _;rfl)) (Aj (Bb 2 nd HQ (BU P w K (Ax (Aa 0 HP) rfl) (Bi Bx (Ax (Aa 0 HP) rfl) Aq (λ_ _=>rfl))))
     (Aj (Bb 3 nd Mu (A2 lK lL (BU P w K (Ax (Aa 0 HP) rfl) (Hr Rt T.iL)) hr.d A1 (Ac (Ax (Aa 2 HQ) rfl) Af)))
     (Aj (AZ (A0 EF (Aa 3 Mu) B8 (A6 _)) (Al (AN (Aa 1 JT))) A5)
     (Aj (EA (Aa 3 Mu) (GQ rfl (CJ (Bt 4 nd Mv) (CJ (Bt 5 nd Rr) Ez))))
     (Aj (Bm (DB VJ PySem.F.slot_list_pop PySem.F.type_list_pop AbV (Ax (Aa 0 HP) rfl) (Ac Aq Af)))
     (Aj (Bm (A2 dX dY (Aa 2 HQ) hr.d A1 (Ac Az Af)))
     (Aj (Bm (DB VJ V6 V7 DU (Ax (Aa 2 HQ) rfl) (Ac (BE (Ac (Hr Rt T.iL) (Ac (Aa 4 Mv) Af))) Af)))
     (Al (Bm (DB VJ V6 V7 DU (Aa 1 JT) (Ac (BE (Ac Az (Ac (Ax (Aa 2 HQ) rfl) (Ac (Aa 4 Mv) (Ac (Aa 5 Rr) Af))))) Af))))))))))))
    (Al (AN (Aa 1 JT))))),?_⟩
  try dsimp only [aC,aD]
  have bw:AQ ["self","told","line","taken","k","steps"] [V.ref X0.h]=[some (.ref X0.h),none,none,none,none,none]:=rfl;simp only [bw,UW,UX];walk_at"";refine ⟨Aw,λr nr=>?_⟩;have t1:=t0.new (u:=.lst (([]:List Addr).map V.ref)) nr;have p1:Ah H (upd H r (.lst [])):=.new nr;change HT K a (upd H r (.lst [])) X0 _ at t1;generalize upd H r (.lst [])=H1 at t1 p1 ⊢;walk_at"";refine ⟨λm σ Y=>∃ x2 x3 x4 x5 B D ds,σ=[some (.ref X0.h),some (.ref r),x2,x3,x4,x5]/\B.h=X0.h/\HT K a Y B ((r,.lst (D.map V.ref)) :: R)/\Dy B.S/\Ah H Y/\B0 K Y D ds/\m=B.q.length/\D.length+m<=100/\B1 X0.S=(ds++(aS m B.S).1,(aS m B.S).2),⟨X0.q.length,none,none,none,none,X0,[],[],rfl,rfl,t1,qk,p1,.nil,rfl,(by have:=qk.aJ;show 0+X0.S.q.length<=_;omega),by rw [Za];rfl⟩,?_⟩;intro m σ Y zq;obtain ⟨x2,x3,x4,x5,B,D,ds,rfl,eh,I,fP,lM,lN,rfl,iu,L⟩:=zq;have hX:Y X0.h=some (.ins a.ae B.dx (EV B.long B.ld B.sd B.qa B.da)):=by rw [<- eh];exact I.t.aB
  walk_at"";refine AI X0.h a.ae B.dx _ _ rfl hX T.hc.cls T.hc.qu rfl ?_;refine ⟨_,.inl ⟨_,.of I.t.q,rfl⟩,?_⟩;cases eq:B.q with
  | nil =>
   have e0:B1 X0.S=(ds,B.S):=by rw [L,eq];show (ds++[],B.S)=_;rw [V3]
   refine BW ?_;walk_at"";exact q Y B r D eh (by rw [e0]) I lM (by rw [e0];exact lN)
  | cons z J =>
   refine BQ ?_;rw [eq] at L iu;have lO:B.S.q=z :: J:=eq;obtain ⟨ln,i1,i2,i3⟩:=fP.idx (z:=z) (by rw [lO];simp);generalize hi:A3 B.S.lns z=i at i1;obtain ⟨x,hx,rfl⟩:=I.at i1;have hv:=I.ok.line hx;rw [i2] at hv;have lx:=I.ok.lx i x hx;have qa0:BA (B.q.map V.str) 0=some (.str z):=EI (j:=0) (by rw [eq];rfl);have sk:=I.t.jK T.sc I.ok.sk;obtain ⟨sdx,se⟩:=sk.ins;refine ⟨λσ' H'=>∃ m',m'<J.length+1/\∃ x2 x3 x4 x5 B D ds,σ'=[some (.ref X0.h),some (.ref r),x2,x3,x4,x5]/\B.h=X0.h/\HT K a H' B ((r,.lst (D.map V.ref)) :: R)/\Dy B.S/\Ah H H'/\B0 K H' D ds/\m'=B.q.length/\D.length+m'<=100/\B1 X0.S=(ds++(aS m' B.S).1,(aS m' B.S).2),λσ' H' h=>h,?_⟩;walk_at"";refine AI X0.h a.ae B.dx _ _ rfl hX T.hc.cls T.hc.li rfl ?_;walk_at"";refine AI X0.h a.ae B.dx _ _ rfl hX T.hc.cls T.hc.qu rfl ?_;walk_at"";refine T9 (BK (.of I.t.q) qa0 ?_);refine AX B.ld _ (.inr z) _ rfl rfl (.of I.t.ld) hv ?_;walk_at"";refine AI X0.h a.ae B.dx _ _ rfl hX T.hc.cls T.hc.sw rfl ?_;walk_at"";refine AX B.sd _ (.inr "") _ rfl rfl (.of I.t.sd) I.ok.lE ?_;walk_at"";refine A4 B.sk.p sdx _ rfl se rfl ?_;walk_at"";refine AI x.p a.Line x.dx _ _ rfl (I.t.ax hx) T.lc.cls T.lc.pl rfl ?_;walk_at"";refine ⟨B.sk.p,a.aM,B.sk.ra,B.sk.rb,B.sk.rc,B.sk.rs,B.sk.rw,B.sk.k.hs,B.sk.k.js,B.sk.k.ts,B.sk.k.places,B.sk.k.mark,B.sk.k.st,B.sk.k.wt,x.i,rfl,sk,fP.m0,fP.m1,fP.pl,?_⟩;cases ef:BF B.sk.k.hs B.sk.k.js B.sk.k.mark with
   | none =>
    intro H3 s3;have et:DJ B.S=none:=by unfold DJ;rw [lO];dsimp only;rw [show BF B.S.sk.hs B.S.sk.js B.S.sk.mark=none from ef]
    have e0:B1 X0.S=(ds,B.S):=by rw [L];show (ds++(aS (J.length+1) B.S).1,(aS (J.length+1) B.S).2)=_;unfold aS;rw [et];dsimp only;rw [V3]
    walk_at"";exact q H3 B r D eh (by rw [e0]) (I.same s3) (lM.trans (.of s3)) (by rw [e0];exact lN.av (.of s3))
   | some k =>
    rw [lx.i];intro H3 tk sx ntk fA aaY;obtain ⟨hk,_⟩:=Em fP.m0 fP.m1 ef;have et:=Ro (ln:=x.l) lO ef (by rw [hi];exact i1);rw [hi] at et;have ok3:=(fP.next et).1;have fA:H3 tk=some (.tup [.int k,.int (((i:Int) - B.S.sk.st.getD k.toNat 0) % B.S.sk.places)]):=fA;generalize ((i:Int) - B.S.sk.st.getD k.toNat 0) % B.S.sk.places=Vk at fA et;obtain ⟨lP,t3,p3⟩:=I.seek hk sx aaY;have hX3:H3 X0.h=some (.ins a.ae B.dx (EV B.long B.ld B.sd B.qa B.da)):=by rw [<- eh];exact t3.t.aB
    have q3:H3 B.qa=some (.lst (B.q.map V.str)):=t3.t.q;walk_at"";refine C6 tk _ rfl (.of fA) rfl ?_;walk_at"";refine AI X0.h a.ae B.dx _ _ rfl hX3 T.hc.cls T.hc.qu rfl ?_;refine ⟨.inl ⟨rfl,_,.of q3⟩,?_⟩;walk_at"";refine Fu B.qa _ 0 0 (.str z) rfl ⟨rfl,q3,(by decide),(by decide),(by rw [eq,U4,Vf];unfold XX;simp),(by rw [eq];rfl),?_⟩;rw [show (B.q.map V.str).eraseIdx 0=J.map V.str by rw [eq];rfl];obtain ⟨t4,p4⟩:=t3.dv J;generalize H3':upd H3 B.qa (.lst (J.map V.str))=H4 at t4 p4 ⊢;clear H3'
    have l4:=t4.t.ax hx;walk_at"";refine A4 x.p x.dx _ rfl l4 rfl ?_;walk_at"";refine GZ x.p x.dx x.l.num x.i x.h ("dials") _ rfl ⟨l4,.inr ⟨_,_,_,_,_,rfl⟩,?_⟩;obtain ⟨t5,p5⟩:=t4.turn hx "dials";have h5:(B.lines.set i { x with wv:=.aa,l:=AS x.l "dials" })[i]?=some { x with wv:=.aa,l:=AS x.l "dials" }:=Bd hx;generalize upd H4 x.p (.ins a.Line x.dx (BV x.l.num x.i x.h "dials" "" 0 .aa .aa))=H5 at t5 p5 ⊢;have l5:H5 x.p=some (.ins a.Line x.dx (BV x.l.num x.i x.h "dials" "" 0 .aa .aa)):=(by have z:=t5.t.ax h5;exact z);have ql:H5 x.h=some (.lst (x.hv.map V.ref)):=(by have z:=t5.t.iJ h5;exact z);have hv0:x.hv.length=0:=by rw [lx.pr.len,i3];rfl
    walk_at"";refine AI x.p a.Line x.dx _ _ rfl l5 T.lc.cls T.lc.he rfl ?_;refine ⟨.inl ⟨rfl,_,.of ql⟩,?_⟩;walk_at"";refine ⟨Aw,λu nu=>?_⟩;have s6:=(Ag.refl H5).upd (o:=.tup [.str "",.int k]) nu;have e6:(upd H5 u (.tup [.str "",.int k])) u=some (.tup [.str "",.int k]):=Ai;generalize upd H5 u (.tup [.str "",.int k])=H6 at s6 e6 ⊢;have t6:=t5.same s6;walk_at"";refine Cv x.h _ _ rfl rfl (s6 _ _ ql) (by rw [TU,hv0,TY];decide) ?_;obtain ⟨O,p7⟩:=t6.jG h5 e6 (by show x.l.held.length<=9;rw [i3];decide);have h7:((B.lines.set i { x with wv:=.aa,l:=AS x.l "dials" }).set i { x with wv:=.aa,hv:=x.hv++[u],l:={ AS x.l "dials" with held:=x.l.held++[(TK "",k)] } })[i]?=some { x with wv:=.aa,hv:=x.hv++[u],l:={ AS x.l "dials" with held:=x.l.held++[(TK "",k)] } }:=Bd h5;have O:HT K a (upd H6 x.h (.lst (x.hv.map V.ref++[V.ref u]))) { B with sk:={ B.sk with k:=bS B.sk.k k i,dx:=lP },q:=J,lines:=(B.lines.set i { x with wv:=.aa,l:=AS x.l "dials" }).set i { x with wv:=.aa,hv:=x.hv++[u],l:={ AS x.l "dials" with held:=x.l.held++[(TK "",k)] } } } ((r,.lst (D.map V.ref)) :: R):=O;have p7:Ah H6 (upd H6 x.h (.lst (x.hv.map V.ref++[V.ref u]))):=p7;generalize upd H6 x.h (.lst (x.hv.map V.ref++[V.ref u]))=H7 at O p7 ⊢;have l7:H7 x.p=some (.ins a.Line x.dx (BV x.l.num x.i x.h "dials" "" 0 .aa .aa)):=(by have z:=O.t.ax h7;exact z);have qm:H7 r=some (.lst (D.map V.ref)):=O.t.rest.hd;obtain ⟨X9,O,eS,iO,eq9⟩:∃ X9:HX,HT K a H7 X9 ((r,.lst (D.map V.ref)) :: R)/\X9.S={ B.S with q:=J,lns:=B.S.lns.set i { AS x.l "dials" with held:=x.l.held++[((TK ""),k)] },sk:=bS B.S.sk k i }/\X9.h=B.h/\X9.q=J:=by refine ⟨_,O,?_,rfl,rfl⟩;show (⟨B.long,((B.lines.set i _).set i _).map (·.l),_,_,_,_⟩:PS)=⟨B.long,(B.lines.map (·.l)).set i _,_,_,_,_⟩;rw [Vp,Vb];rfl
    walk_at"";refine ⟨.inl ⟨rfl,_,.of qm⟩,?_⟩;walk_at"";refine AI x.p a.Line x.dx _ _ rfl l7 T.lc.cls T.lc.nu rfl ?_;walk_at"";refine ⟨Aw,λv nv=>?_⟩;have s8:=(Ag.refl H7).upd (o:=.tup [.str "tone",.str x.l.num,.int k,.int Vk]) nv;have e8:(upd H7 v (.tup [.str "tone",.str x.l.num,.int k,.int Vk])) v=some (.tup [.str "tone",.str x.l.num,.int k,.int Vk]):=Ai;generalize upd H7 v (.tup [.str "tone",.str x.l.num,.int k,.int Vk])=H8 at s8 e8 ⊢;have t8:=O.same s8;walk_at"";refine Cv r _ _ rfl rfl (s8 _ _ qm) (by rw [TU,TY];rw [Vf] at iu;omega) ?_;obtain ⟨t9,p9⟩:=t8.jN (o':=.lst ((D++[v]).map V.ref)) rfl;have er:(D.map V.ref++[V.ref v])=(D++[v]).map V.ref:=by rw [Um];rfl
    rw [er];have qo:Ah Y (upd H8 r (.lst ((D++[v]).map V.ref))):=p3.trans (p4.trans (p5.trans ((Ah.of s6).trans (p7.trans ((Ah.of s8).trans p9)))));have jO:B0 K (upd H8 r (.lst ((D++[v]).map V.ref))) (D++[v]) (ds++[.tuple [.str "tone",.str z,.int k,.int Vk]]):=(lN.av qo).app (.one (.tup (.of (p9.t e8)) (.cons (.str _) (.cons (by rw [i2];exact .str _) (.cons (.int _) (.cons (.int _) .nil))))) rfl);refine  ⟨J.length,Xq _,_,_,_,_,X9,D++[v],_,rfl,iO.trans eh,t9,by rw [eS];exact ok3,lM.trans qo,jO,by rw [eq9],(by rw [UK,U6];rw [Vf] at iu;omega),?_⟩;rw [L];show (ds++(aS (J.length+1) B.S).1,(aS (J.length+1) B.S).2)=_;have lQ:∀ n,aS (n+1) B.S=_:=λn=>by unfold aS;rw [et]
    rw [lQ,Ur,eS];rfl
noncomputable def CW (S:PS)(i:Nat)(ln:Ln):PS:={ aF S ln.held with lns:=S.lns.set i { ln with held:=[] } }
noncomputable def Bv (S:PS)(j:Nat)(lo:Ln):PyData×PS :=
 if lo.st="talks" then (.tuple [.str "waits",.str lo.num],CF (CW S j lo) j { lo with held:=[] })
 else (.tuple [.str "quiet",.str lo.num],{ CW S j lo with lns:=S.lns.set j (AS { lo with held:=[] } "rests") })
def Ru (K:TH)(a:Ak):Sp:=λvs H Q _=>∃(X:HX)(R:AK)(j:Nat)(y:LX),vs=[.ref X.h,.ref y.p]/\HT K a H X R/\X.lines[j]?=some y/\bM X.S y.l.held/\X.q.length<1000 /\
 ∀ H' X' b z,HT K a H' X' R->X'.h=X.h->X'.S=(Bv X.S j y.l).2->X'.lines=X.lines.set j z->z.p=y.p->Ah H H'->Is K H' (.ref b) (Bv X.S j y.l).1->Q (.ref b) H'
theorem Agb (S:PS)(w:Str)(k:Int):(aT S w k).q=S.q:=by unfold aT;split<;>rfl
theorem EX:∀(ts:List (Str×Int))(S:PS),(aF S ts).q=S.q
 | [],_=>rfl
 | t :: ts,S=>(EX ts _).trans (Agb S t.1 t.2)
theorem Agc:AR ["self","other"] ["self","other"] (Ab (Ad (top 27) 12)):=.of
theorem Rv:Nm (Ab (Ad (top 27) 12)) "self":=.of
theorem HR:Nm (Ab (Ad (top 27) 12)) "other":=.of
theorem Agd (F:AL K "left_alone" "Hall.left_alone" (Ad (top 27) 12) f fd)(T:TxtH P w K mg a)(dX:AO P w K mg base AA 1 a.Line "turn" ["self","state"] (Gp a))(fQ:AO P w K mg base (AJ P w) 4 a.ae "release" ["self","line"] (HM K a))(lR:AO P w K mg base AA 2 a.ae "wait" ["self","line"] (Mr K a)):AE P w K mg base (AJ P w) 5 f fd ["self","other"] (Ru K a):=by
 refine F.bf Agc λak A outer s H vs Q E Y h=>?_
 .obtain ⟨X,R,j,y,rfl,t,h,hd,qz,q⟩:=h;have dY:=T.lc.cls;have fR:=T.hc.cls;have lS:=T.hc.cls;have hu:=Y.units;refine ⟨_,(@Aj _ _ _ _ _ (Bm (A2 fQ fR (Aa 0 Rv) Y.d By (Ac (Aa 1 HR) Af)))
    (Aj (AZ (A0 (CC hu) (Ax (Aa 1 HR) rfl) Az (A6 _)) (Al (AN (A2 lR lS (Aa 0 Rv) Y.d A1 (Ac (Aa 1 HR) Af)))) A5)
    (Aj (Bm (A2 dX dY (Aa 1 HR) Y.d A1 (Ac Az Af)))
    (Al (AN (BE (Ac Az (Ac (Ax (Aa 1 HR) rfl) Af)))))))),?_⟩
  try dsimp only [aC,aD]
  walk_at"";refine A4 X.h X.dx _ rfl t.t.aB rfl ?_;walk_at"";refine AX X R j y rfl t h hd (λH1 D B I dZ d2 eW dw cP p1=>?_);have J:D.lines[j]?=some B:=by rw [eW];exact Bd h
  have est:B.l.st=y.l.st:=by rw [cP]
  have gK:B.l.num=y.l.num:=by rw [cP]
  rw [<- dw,<- dZ];walk_at"";refine AI B.p a.Line B.dx _ _ rfl (I.t.ax J) T.lc.cls T.lc.st rfl ?_;walk_at"";rw [est];by_cases ht:y.l.st="talks"
  .rw [ht];walk_at"";refine A4 D.h D.dx _ rfl I.t.aB rfl ?_;walk_at"";have qz1:D.q.length<1000:=by
    have:D.S.q=X.q:=by rw [d2];exact EX ..
    rw [show D.q=D.S.q from rfl,this];exact qz
   refine AX D R j B rfl I J qz1 (λH2 X2 y2 b L cf cH lT ir el2 p2 eb=>?_);have O:Bv X.S j y.l=(.tuple [.str "waits",.str y.l.num],CF (CW X.S j y.l) j { y.l with held:=[] }):=if_pos ht;refine q H2 X2 b y2 L (cf.trans dZ) ?_ (by rw [lT,eW,Vp]) (ir.trans dw) (p1.trans p2) ?_
   .rw [O,cH,d2,cP];rfl
   .rw [O];exact .tup (.of eb) (.cons (.str _) (.cons (by rw [gK];exact .str _) .nil))
  .rw [decide_eq_false (λz=>ht (V.str.inj z))];walk_at"";refine A4 B.p B.dx _ rfl (I.t.ax J) rfl ?_;walk_at"";refine GZ B.p B.dx B.l.num B.i B.h ("rests") _ rfl ⟨I.t.ax J,.inr ⟨_,_,_,_,_,rfl⟩,?_⟩;obtain ⟨L,p2⟩:=I.turn J "rests";have h2:(D.lines.set j { B with wv:=.aa,l:=AS B.l "rests" })[j]?=some { B with wv:=.aa,l:=AS B.l "rests" }:=Bd J;generalize upd H1 B.p (.ins a.Line B.dx (BV B.l.num B.i B.h "rests" "" 0 .aa .aa))=H2 at L p2 ⊢;have l2:H2 B.p=some (.ins a.Line B.dx (BV B.l.num B.i B.h "rests" "" 0 .aa .aa)):=by have z:=L.t.ax h2;exact z
   walk_at"";refine AI B.p a.Line B.dx _ _ rfl l2 T.lc.cls T.lc.nu rfl ?_;walk_at"";refine ⟨Aw,λb nb=>?_⟩;have s3:=(Ag.refl H2).upd (o:=.tup [.str "quiet",.str B.l.num]) nb;have O:Bv X.S j y.l=(.tuple [.str "quiet",.str y.l.num],{ CW X.S j y.l with lns:=X.S.lns.set j (AS { y.l with held:=[] } "rests") }):=if_neg ht;refine q _ _ b { B with wv:=.aa,l:=AS B.l "rests" } (L.same s3) dZ ?_ (by show D.lines.set j _=_;rw [eW,Vp]) dw (p1.trans (p2.trans (.of s3))) ?_
   .rw [O];have:=HX.gJ (X:=D) (i:=j) (y:={ B with wv:=.aa,l:=AS B.l "rests" });rw [this,d2,cP];show ({ CW X.S j y.l with lns:=(X.S.lns.set j { y.l with held:=[] }).set j (AS { y.l with held:=[] } "rests") }:PS)=_;rw [Vp]
   .rw [O];exact .tup (.of Ai) (.cons (.str _) (.cons (by rw [gK];exact .str _) .nil))
theorem Mw {s t:TS}{D:Di}{σ:St}{H:Hp}(h:∀ C:St->Hp->Prop,C=(λσ' B=>t D σ' B)->s { D with nx:=C } σ H):KG s t D σ H:=h _ rfl
noncomputable def Cf (S:PS)(i:Nat)(ln:Ln):PyData×PS :=
 if ln.st="rests" then (.tuple [.str "waits",.str ln.num],CF S i ln)
 else match ln.ao with
  | none=>(.none,S)
  | some z=>match S.lns[A3 S.lns z]? with
   | none=>(.none,S)
   | some lc=>(.tuple [.str "talks",.str lc.num,.str ln.num],{ S with lns:=(S.lns.set (A3 S.lns z) { lc with st:="talks" }).set i { ln with st:="talks" } })
def HS (S:PS)(i:Nat)(ln:Ln):Prop:=ln.st="rests"\/(ln.st≠"rests"/\∃(j:Nat)(lc:Ln),ln.ao=some lc.num/\S.lns[j]?=some lc/\j≠i)
def Rw (K:TH)(a:Ak):Sp:=λvs H Q _=>∃(X:HX)(R:AK)(i:Nat)(x:LX),vs=[.ref X.h,.ref x.p]/\HT K a H X R/\X.lines[i]?=some x/\X.q.length<1000/\HS X.S i x.l /\
 ∀ H' X' r b,HT K a H' X' ((r,.lst [.ref b]) :: R)->X'.h=X.h->X'.S=(Cf X.S i x.l).2->Ah H H'->Is K H' (.ref b) (Cf X.S i x.l).1->Q (.ref r) H'
noncomputable def aE (S:PS)(ln:Ln):PS:=if ln.st="waits" then { S with q:=S.q.erase ln.num } else S
noncomputable def B2 (S:PS)(ln:Ln):List PyData×PS:=match ln.ao with
 | none=>([],S)
 | some z=>match S.lns[A3 S.lns z]? with
  | none=>([],S)
  | some lo=>([(Bv S (A3 S.lns z) lo).1],(Bv S (A3 S.lns z) lo).2)
noncomputable def cI (S:PS)(i:Nat)(ln:Ln):PS:={ CW S i ln with lns:=S.lns.set i (AS { ln with held:=[] } "rests") }
noncomputable def CY (S:PS)(i:Nat)(ln:Ln):List PyData×PS:=(.tuple [.str "rests",.str ln.num] :: (B2 (aE S ln) ln).1,cI (B2 (aE S ln) ln).2 i ln)
structure FI (S:PS)(i:Nat)(ln:Ln):Prop where
 w:ln.st="waits"->ln.num∈S.q
 f:∀ z,ln.ao=some z->∃(j:Nat)(lo:Ln),S.lns[j]?=some lo/\lo.num=z/\j≠i/\bM (aE S ln) lo.held
 h:bM (B2 (aE S ln) ln).2 ln.held
def Rx (K:TH)(a:Ak):Sp:=λvs H Q _=>∃(X:HX)(R:AK)(i:Nat)(x:LX),vs=[.ref X.h,.ref x.p]/\HT K a H X R/\X.lines[i]?=some x/\X.q.length<1000/\FI X.S i x.l /\
 ∀ H' X' r xs,HT K a H' X' ((r,.lst (xs.map V.ref)) :: R)->X'.h=X.h->X'.S=(CY X.S i x.l).2->Ah H H'->B0 K H' xs (CY X.S i x.l).1->Q (.ref r) H'
theorem Ry (S:PS)(j:Nat)(lo:Ln):Ce (Bv S j lo).1=true:=by unfold Bv;split<;>rfl
theorem D5 {α:Type}{l:List α}{i j:Nat}{x y:α}(h:l[i]?=some x)(n:j≠i):(l.set j y)[i]?=some x:=by rw [Ut n];exact h
theorem HT.jP {H:Hp}{X:HX}{R:AK}(t:HT K a H X R){j:Nat}{lc:Ln}(h:X.S.lns[j]?=some lc):A3 X.S.lns lc.num=j:=by refine Mt ?_ h;show ((X.lines.map (·.l)).map (·.num)).Nodup;rw [Uo];exact t.ok.num
theorem Rz:AR ["self","line","caller"] ["self","line"] (Ab (Ad (top 27) 4)):=.of
theorem RA:Nm (Ab (Ad (top 27) 4)) "self":=.of
theorem HV:Nm (Ab (Ad (top 27) 4)) "line":=.of
theorem Mx:Nm (Ab (Ad (top 27) 4)) "caller":=.of
theorem Age (F:AL K "lift" "Hall.lift" (Ad (top 27) 4) f fd)(T:TxtH P w K mg a)(lR:AO P w K mg base AA 2 a.ae "wait" ["self","line"] (Mr K a)):AE P w K mg base AA 3 f fd ["self","line"] (Rw K a):=by
 refine F.ok Rz λak A outer s H vs Q E hr h=>?_
 .obtain ⟨X,R,i,x,rfl,t,h,qz,ok,q⟩:=h;have lS:=T.hc.cls;have hu:=hr.units;have nd:=Rz.nd;refine ⟨_,(@Aj _ _ _ _ _ (AZ (A0 (CC hu) (Ax (Aa 1 HV) rfl) Az (A6 _)) (Al (AN (Bn (Ac (A2 lR lS (Aa 0 RA) hr.d A1 (Ac (Aa 1 HV) Af)) Af)))) A5)
    (Aj (Bb 2 nd Mx (BU P w K (Ax (Aa 0 RA) rfl) (Ax (Aa 1 HV) rfl)))
    (Aj (Bs (Aa 2 Mx) Az rfl)
    (Aj (Bs (Aa 1 HV) Az rfl)
    (Al (AN (Bn (Ac (BE (Ac Az (Ac (Ax (Aa 2 Mx) rfl) (Ac (Ax (Aa 1 HV) rfl) Af)))) Af)))))))),?_⟩
  try dsimp only [aC,aD]
  walk_at"";refine AI x.p a.Line x.dx _ _ rfl (t.t.ax h) T.lc.cls T.lc.st rfl ?_;walk_at"";rcases ok with J | ⟨J,j,lc,ef,ej,nj⟩
  .have eD:Cf X.S i x.l=(.tuple [.str "waits",.str x.l.num],CF X.S i x.l):=if_pos J;rw [eD] at q;refine DV (decide_eq_true (congrArg V.str J)) ?_;walk_at"";refine A4 X.h X.dx _ rfl t.t.aB rfl ?_;walk_at"";refine AX X R i x rfl t h qz (λB X1 y b D dZ d2 eW dw cP L eb=>?_);walk_at"";refine ⟨Aw,λr O=>?_⟩;have I:Ah B (upd B r (.lst [.ref b])):=.new O;exact q _ X1 r b (D.new O) dZ d2 (L.trans I) (.tup (.of (I.t eb)) (.cons (.str _) (.cons (.str _) .nil)))
  .have ei:=t.jP ej;have eD:Cf X.S i x.l=(.tuple [.str "talks",.str lc.num,.str x.l.num],{ X.S with lns:=(X.S.lns.set j { lc with st:="talks" }).set i { x.l with st:="talks" } }):=by
    simp only [Cf,if_neg J,ef,ei,ej]
   rw [eD] at q;obtain ⟨y,hy,rfl⟩:=t.at ej;have lU:Eo x.l.ao=.str y.l.num:=by rw [ef];rfl
   refine Dl (decide_eq_false (λz=>J (V.str.inj z))) ?_;walk_at"";refine AI X.h a.ae X.dx _ _ rfl t.t.aB T.hc.cls T.hc.li rfl ?_;walk_at"";refine AI x.p a.Line x.dx _ _ rfl (t.t.ax h) T.lc.cls T.lc.fa rfl ?_;refine AX X.ld _ (.inr y.l.num) _ rfl lU (.of t.t.ld) (t.ok.line hy) ?_;walk_at"";refine A9 y.p a.Line y.dx _ rfl (t.t.ax hy) T.lc.cls T.lc.st (UE rfl) ?_;have ly:=t.ok.lx j y hy;obtain ⟨D,L⟩:=t.bz hy { y with l:={ y.l with st:="talks" } } rfl rfl rfl rfl rfl rfl rfl ly.w ly.wt;change HT K a (upd H y.p (.ins a.Line y.dx (An "state" (.str "talks") y.fs))) _ _ at D;change Ah _ (upd H y.p (.ins a.Line y.dx (An "state" (.str "talks") y.fs))) at L;have h1:(X.lines.set j { y with l:={ y.l with st:="talks" } })[i]?=some x:=D5 h nj;generalize upd H y.p (.ins a.Line y.dx (An "state" (.str "talks") y.fs))=B at D L ⊢;have l1:B x.p=some (.ins a.Line x.dx x.fs):=by have z:=D.t.ax h1;exact z
   walk_at"";refine A9 x.p a.Line x.dx _ rfl l1 T.lc.cls T.lc.st (UE rfl) ?_;have lx:=D.ok.lx i x h1;obtain ⟨Y,I⟩:=D.bz h1 { x with l:={ x.l with st:="talks" } } rfl rfl rfl rfl rfl rfl rfl lx.w lx.wt;change HT K a (upd B x.p (.ins a.Line x.dx (An "state" (.str "talks") x.fs))) _ _ at Y;change Ah _ (upd B x.p (.ins a.Line x.dx (An "state" (.str "talks") x.fs))) at I;have h2:((X.lines.set j { y with l:={ y.l with st:="talks" } }).set i { x with l:={ x.l with st:="talks" } })[i]?=some { x with l:={ x.l with st:="talks" } }:=Bd h1;have g2:((X.lines.set j { y with l:={ y.l with st:="talks" } }).set i { x with l:={ x.l with st:="talks" } })[j]?=some { y with l:={ y.l with st:="talks" } }:=D5 (Bd hy) (Uj nj);generalize upd B x.p (.ins a.Line x.dx (An "state" (.str "talks") x.fs))=H2 at Y I ⊢;have l2:=Y.t.ax h2;have m2:=Y.t.ax g2;walk_at"";refine AI y.p a.Line y.dx _ _ rfl m2 T.lc.cls T.lc.nu rfl ?_;walk_at"";refine AI x.p a.Line x.dx _ _ rfl l2 T.lc.cls T.lc.nu rfl ?_;walk_at"";refine ⟨Aw,λb nb=>?_⟩;have s3:=(Ag.refl H2).upd (o:=.tup [.str "talks",.str y.l.num,.str x.l.num]) nb;have e3:(upd H2 b (.tup [.str "talks",.str y.l.num,.str x.l.num])) b=some (.tup [.str "talks",.str y.l.num,.str x.l.num]):=Ai;have t3:=Y.same s3;generalize hG:upd H2 b (.tup [.str "talks",.str y.l.num,.str x.l.num])=H3 at s3 e3 t3;refine ⟨Aw,λr O=>?_⟩;have p4:Ah H3 (upd H3 r (.lst [.ref b])):=.new O;refine q _ _ r b (t3.new O) rfl ?_ (L.trans (I.trans ((Ah.of s3).trans p4))) (.tup (.of (p4.t e3)) (.cons (.str _) (.cons (.str _) (.cons (.str _) .nil))));show (⟨X.long,((X.lines.set j _).set i _).map (·.l),_,_,_,_⟩:PS)=_;rw [Vb,Vb];rfl
theorem RB:AR ["self","line","told"] ["self","line"] (Ab (Ad (top 27) 11)):=.of
theorem JU:Nm (Ab (Ad (top 27) 11)) "self":=.of
theorem FJ:Nm (Ab (Ad (top 27) 11)) "line":=.of
theorem My:Nm (Ab (Ad (top 27) 11)) "told":=.of
theorem Agf (F:AL K "hang" "Hall.hang" (Ad (top 27) 11) f fd)(T:TxtH P w K mg a)(dX:AO P w K mg base AA 1 a.Line "turn" ["self","state"] (Gp a))(fQ:AO P w K mg base (AJ P w) 4 a.ae "release" ["self","line"] (HM K a))(aaZ:AO P w K mg base (AJ P w) 5 a.ae "left_alone" ["self","other"] (Ru K a)):AE P w K mg base (AJ P w) 6 f fd ["self","line"] (Rx K a):=by
 refine F.bf RB λak A outer s H vs Q E hr h=>?_
 .obtain ⟨X,R,i,x,rfl,t,h,qz,ok,q⟩:=h;have fR:=T.hc.cls;have aa0:=T.hc.cls;have dY:=T.lc.cls;have hu:=hr.units;have nd:=RB.nd;refine ⟨_,(@Aj _ _ _ _ _ (Bb 2 nd My (Bn (Ac (BE (Ac Az (Ac (Ax (Aa 1 FJ) rfl) Af))) Af)))
    (Aj (AZ (A0 (CC hu) (Ax (Aa 1 FJ) rfl) Az (A6 _)) (Al (Bm (DB VJ PySem.F.slot_list_remove PySem.F.type_list_remove AcQ (Ax (Aa 0 JU) rfl) (Ac (Ax (Aa 1 FJ) rfl) Af)))) A5)
    (Aj (AZ (A0 KP (Ax (Aa 1 FJ) rfl) B8 (A6 _)) (Al (Bm (DB VJ V6 V7 DU (Aa 2 My) (Ac (A2 aaZ aa0 (Aa 0 JU) hr.d By (Ac (BU P w K (Ax (Aa 0 JU) rfl) (Ax (Aa 1 FJ) rfl)) Af)) Af)))) A5)
    (Aj (Bm (A2 fQ fR (Aa 0 JU) hr.d By (Ac (Aa 1 FJ) Af)))
    (Aj (Bm (A2 dX dY (Aa 1 FJ) hr.d A1 (Ac Az Af)))
    (Al (AN (Aa 2 My)))))))),?_⟩
  try dsimp only [aC,aD]
  walk_at"";refine AI x.p a.Line x.dx _ _ rfl (t.t.ax h) T.lc.cls T.lc.nu rfl ?_;walk_at"";refine ⟨Aw,λB ntt=>?_⟩;have s0:=(Ag.refl H).upd (o:=.tup [.str "rests",.str x.l.num]) ntt;have e0:(upd H B (.tup [.str "rests",.str x.l.num])) B=some (.tup [.str "rests",.str x.l.num]):=Ai;generalize upd H B (.tup [.str "rests",.str x.l.num])=H0 at s0 e0 ⊢;walk_at"";refine ⟨Aw,λr nr=>?_⟩;have L:=(t.same s0).new (u:=.lst ([B].map V.ref)) nr;have p1:Ah H (upd H0 r (.lst ([B].map V.ref))):=(Ah.of s0).trans (.new nr);have e1:(upd H0 r (.lst ([B].map V.ref))) B=some (.tup [.str "rests",.str x.l.num]):=(Ah.new nr).t e0;change HT K a (upd H0 r (.lst [.ref B])) _ _ at L;change Ah H (upd H0 r (.lst [.ref B])) at p1;change (upd H0 r (.lst [.ref B])) B=_ at e1;generalize upd H0 r (.lst [.ref B])=H1 at L p1 e1 ⊢;clear e0 s0
  refine Lk.use (by assumption) ?_;refine Mw λC1 dq=>?_;have mid:∀(O:Hp)(D:HX),HT K a O D ((r,.lst ([B].map V.ref)) :: R)->D.h=X.h->D.S=aE X.S x.l->D.lines=X.lines->Ah H1 O->C1 [some (.ref X.h),some (.ref x.p),some (.ref r)] O:=by
   intro O D I cf Y lT p2;rw [dq];have h2:D.lines[i]?=some x:=by rw [lT];exact h
   refine Mw λC2 dr=>?_;have last:∀(H3:Hp)(J:HX)(xs:List Addr),HT K a H3 J ((r,.lst (xs.map V.ref)) :: R)->J.h=X.h->J.S=(B2 (aE X.S x.l) x.l).2->J.lines[i]?=some x->Ah O H3->B0 K H3 xs (CY X.S i x.l).1->C2 [some (.ref X.h),some (.ref x.p),some (.ref r)] H3:=by
    intro H3 J xs t3 bo bG h3 p3 td;rw [dr,<- bo];walk_at"";refine A4 J.h J.dx _ rfl t3.t.aB rfl ?_;walk_at"";refine AX J _ i x rfl t3 h3 (by rw [bG];exact ok.h) (λH4 X4 y t4 d4 gL eL4 ep4 el4 p4=>?_);have h4:X4.lines[i]?=some y:=by rw [eL4];exact Bd h3
    rw [<- ep4];walk_at"";refine A4 y.p y.dx _ rfl (t4.t.ax h4) rfl ?_;walk_at"";refine GZ y.p y.dx y.l.num y.i y.h ("rests") _ rfl ⟨t4.t.ax h4,.inr ⟨_,_,_,_,_,rfl⟩,?_⟩;obtain ⟨t5,p5⟩:=t4.turn h4 "rests";walk_at"";refine q _ _ r xs t5 (d4.trans bo) ?_ (p1.trans (p2.trans (p3.trans (p4.trans p5)))) (td.av (p4.trans p5));have:=HX.gJ (X:=X4) (i:=i) (y:={ y with wv:=.aa,l:=AS y.l "rests" });rw [this,gL,el4,bG];show ({ CW (B2 (aE X.S x.l) x.l).2 i x.l with lns:=((B2 (aE X.S x.l) x.l).2.lns.set i { x.l with held:=[] }).set i (AS { x.l with held:=[] } "rests") }:PS)=_;rw [Vp];rfl
   clear dr
   rw [<- cf];walk_at"";refine AI x.p a.Line x.dx _ _ rfl (I.t.ax h2) T.lc.cls T.lc.fa rfl ?_;have one:B0 K O [B] [.tuple [.str "rests",.str x.l.num]]:=.one (.tup (.of (p2.t e1)) (.cons (.str _) (.cons (.str _) .nil))) rfl;cases ef:x.l.ao with
   | none =>
    have e2:B2 (aE X.S x.l) x.l=([],aE X.S x.l):=by simp only [B2,ef]
    walk_at"";rw [cf];exact last O D [B] I cf (by rw [e2];exact Y) h2 .refl (by unfold CY;rw [e2];exact one)
   | some z =>
    obtain ⟨j,lo,ej,en,nj,ha⟩:=ok.f z ef;have eSl:D.S.lns=X.S.lns:=by rw [Y];unfold aE;split<;>rfl
    have eSq:D.S.q.length<=X.q.length:=by
     rw [Y];unfold aE;split
     .exact Zo
     .exact T3 _
    have gM:D.S.lns[j]?=some lo:=by rw [eSl];exact ej
    have fS:=I.jP gM;rw [en,Y] at fS;have e2:B2 (aE X.S x.l) x.l=([(Bv D.S j lo).1],(Bv D.S j lo).2):=by
     have ej3:(aE X.S x.l).lns[j]?=some lo:=by rw [<- Y];exact gM
     rw [Y];simp only [B2,ef,fS,ej3]
    obtain ⟨y,hy,rfl⟩:=I.at gM;have hv:=I.ok.line hy;rw [en] at hv;have qe:O r=some (.lst ([B].map V.ref)):=I.t.rest.hd;have lU:Eo x.l.ao=.str z:=by rw [ef];rfl
    walk_at"";refine ⟨.inl ⟨rfl,_,.of qe⟩,?_⟩;walk_at"";refine A4 D.h D.dx _ rfl I.t.aB rfl ?_;walk_at"";refine AI D.h a.ae D.dx _ _ rfl I.t.aB T.hc.cls T.hc.li rfl ?_;walk_at"";refine AI x.p a.Line x.dx _ _ rfl (I.t.ax h2) T.lc.cls T.lc.fa rfl ?_;refine AX D.ld _ (.inr z) _ rfl lU (.of I.t.ld) hv ?_;walk_at"";refine A9 D _ j y rfl I hy (by rw [Y];exact ha) (Xa eSq qz) (λH3 J b z3 t3 bo bG eL3 qp p3 eb=>?_);have hr3:H3 r=some (.lst ([B].map V.ref)):=t3.t.rest.hd;walk_at"";refine Cv r _ _ rfl rfl hr3 (by show 1<sizeLine;decide) ?_;obtain ⟨t4,p4⟩:=t3.jN (o':=.lst ([B,b].map V.ref)) rfl;rw [cf];refine last _ J [B,b] t4 (bo.trans cf) (by rw [e2];exact bG) (by rw [eL3];exact D5 h2 nj) (p3.trans p4) ?_;unfold CY;rw [e2];exact ⟨.cons (Is.av _ rfl (.tup (.of (p2.t e1)) (.cons (.str _) (.cons (.str _) .nil))) (p3.trans p4)) (.cons (Is.av _ (Ry _ _ _) eb p4) .nil),by show (true && (Ce _ && true))=true;rw [Ry];rfl⟩
  clear dq
  walk_at"";refine AI x.p a.Line x.dx _ _ rfl (L.t.ax h) T.lc.cls T.lc.st rfl ?_;walk_at"";by_cases aU:x.l.st="waits"
  .refine DV (decide_eq_true (congrArg V.str aU)) ?_;walk_at"";refine AI X.h a.ae X.dx _ _ rfl L.t.aB T.hc.cls T.hc.qu rfl ?_;refine ⟨.inl ⟨rfl,_,.of L.t.q⟩,?_⟩;walk_at"";refine AI x.p a.Line x.dx _ _ rfl (L.t.ax h) T.lc.cls T.lc.nu rfl ?_;walk_at"";refine T1 (Cv X.qa X.q x.l.num rfl rfl L.t.q (ok.w aU) ?_);obtain ⟨I,p2⟩:=L.dv (X.q.erase x.l.num);exact mid _ _ I rfl (by unfold aE;rw [if_pos aU];rfl) rfl p2
  .refine Dl (decide_eq_false (λz=>aU (V.str.inj z))) ?_;exact mid H1 X L rfl (by unfold aE;rw [if_neg aU]) rfl .refl
def BH (S:PS)(i:Nat)(ln:Ln)(d:PyData):PS:={ CW S i ln with lns:=S.lns.set i { ln with held:=[],st:="told",why:=d } }
def JV (K:TH)(a:Ak):Sp:=λvs H Q _=>∃(X:HX)(R:AK)(i:Nat)(x:LX)(wd:Str),vs=[.ref X.h,.ref x.p,.str wd]/\HT K a H X R/\X.lines[i]?=some x/\bM X.S x.l.held /\
 ∀ H' X' r b,HT K a H' X' ((r,.lst [.ref b]) :: R)->X'.h=X.h->X'.S=BH X.S i x.l (.tuple [.str wd,.str x.l.ai])->Ah H H'->Is K H' (.ref b) (.tuple [.str wd,.str x.l.num,.str x.l.ai])->Q (.ref r) H'
def Mz (K:TH)(a:Ak):Sp:=λvs H Q _=>∃(X:HX)(R:AK)(i:Nat)(x:LX)(v:V)(d:PyData),vs=[.ref X.h,.ref x.p,v]/\HT K a H X R/\X.lines[i]?=some x/\bM X.S x.l.held/\Is K H v d/\Ce d=true /\
 ∀ H' X' r b,HT K a H' X' ((r,.lst [.ref b]) :: R)->X'.h=X.h->X'.S=BH X.S i x.l d->Ah H H'->Is K H' (.ref b) (.tuple [.str "busy",.str x.l.num,d])->Q (.ref r) H'
theorem HT.told {H:Hp}{X:HX}{R:AK}{i:Nat}{x:LX}(t:HT K a H X R)(h:X.lines[i]?=some x){v:V}{d:PyData}(B:Is K H v d)(D:Ce d=true) :
  HT K a (upd H x.p (.ins a.Line x.dx (BV x.l.num x.i x.h "told" x.l.ai x.l.ag (Eo x.l.ao) v))) { X with lines:=X.lines.set i { x with wv:=v,l:={ x.l with st:="told",why:=d } } } R/\Ah H (upd H x.p (.ins a.Line x.dx (BV x.l.num x.i x.h "told" x.l.ai x.l.ag (Eo x.l.ao) v))) :=
 t.bz h { x with wv:=v,l:={ x.l with st:="told",why:=d } } rfl rfl rfl rfl rfl rfl rfl B D
theorem RC {X B:HX}{i:Nat}{x y:LX}{v:V}{d:PyData}(D:B.S=CW X.S i x.l)(H:y.l={ x.l with held:=[] }):({ B with lines:=B.lines.set i { y with wv:=v,l:={ y.l with st:="told",why:=d } } }:HX).S=BH X.S i x.l d:=by have:=HX.gJ (X:=B) (i:=i) (y:={ y with wv:=v,l:={ y.l with st:="told",why:=d } });rw [this,D,H];show ({ CW X.S i x.l with lns:=(X.S.lns.set i { x.l with held:=[] }).set i { x.l with held:=[],st:="told",why:=d } }:PS)=_;rw [Vp];rfl
theorem Agg:AR ["self","line","word"] ["self","line","word"] (Ab (Ad (top 27) 9)):=.of
theorem Agh:Nm (Ab (Ad (top 27) 9)) "self":=.of
theorem HW:Nm (Ab (Ad (top 27) 9)) "line":=.of
theorem RD:Nm (Ab (Ad (top 27) 9)) "word":=.of
theorem Agi (F:AL K "no_call" "Hall.no_call" (Ad (top 27) 9) f fd)(T:TxtH P w K mg a)(fQ:AO P w K mg base (AJ P w) 4 a.ae "release" ["self","line"] (HM K a))(lV:AO P w K mg base AA 1 a.Line "be_told" ["self","paper"] (Mo a)):AE P w K mg base (AJ P w) 5 f fd ["self","line","word"] (JV K a):=by
 refine F.bf Agg λak A outer s H vs Q E hr h=>?_
 .obtain ⟨X,R,i,x,B,rfl,t,h,hd,q⟩:=h;have fR:=T.hc.cls;have lX:=T.lc.cls;refine ⟨_,(@Aj _ _ _ _ _ (Bm (A2 fQ fR (Aa 0 Agh) hr.d By (Ac (Aa 1 HW) Af)))
    (Aj (Bm (A2 lV lX (Aa 1 HW) hr.d A1 (Ac (BE (Ac (Aa 2 RD) (Ac (Ax (Aa 1 HW) rfl) Af))) Af)))
    (Al (AN (Bn (Ac (BE (Ac (Aa 2 RD) (Ac (Ax (Aa 1 HW) rfl) (Ac (Ax (Aa 1 HW) rfl) Af)))) Af)))))),?_⟩
  try dsimp only [aC,aD]
  walk_at"";refine A4 X.h X.dx _ rfl t.t.aB rfl ?_;walk_at"";refine AX X R i x rfl t h hd (λI X1 y J dZ d2 eW dw L p1=>?_);have D:X1.lines[i]?=some y:=by rw [eW];exact Bd h
  have gK:y.l.num=x.l.num:=by rw [L]
  have qq:y.l.ai=x.l.ai:=by rw [L]
  rw [<- dw];walk_at"";refine A4 y.p y.dx _ rfl (J.t.ax D) rfl ?_;walk_at"";refine AI y.p a.Line y.dx _ _ rfl (J.t.ax D) T.lc.cls T.lc.di rfl ?_;walk_at"";refine ⟨Aw,λc nc=>?_⟩;have O:=(Ag.refl I).upd (o:=.tup [.str B,.str y.l.ai]) nc;have e2:(upd I c (.tup [.str B,.str y.l.ai])) c=some (.tup [.str B,.str y.l.ai]):=Ai;generalize upd I c (.tup [.str B,.str y.l.ai])=H2 at O e2 ⊢;have t2:=J.same O;walk_at"";refine ⟨t2.t.ax D,?_⟩;obtain ⟨V,p3⟩:=t2.told D (v:=.ref c) (d:=.tuple [.str B,.str x.l.ai]) (.tup (.of e2) (.cons (.str _) (.cons (by rw [qq];exact .str _) .nil))) rfl;have h3:(X1.lines.set i { y with wv:=.ref c,l:={ y.l with st:="told",why:=.tuple [.str B,.str x.l.ai] } })[i]?=some { y with wv:=.ref c,l:={ y.l with st:="told",why:=.tuple [.str B,.str x.l.ai] } }:=Bd D;generalize upd H2 y.p (.ins a.Line y.dx (BV y.l.num y.i y.h "told" y.l.ai y.l.ag (Eo y.l.ao) (.ref c)))=Y at V p3 ⊢;have l3:=V.t.ax h3;walk_at"";refine AI y.p a.Line y.dx _ _ rfl l3 T.lc.cls T.lc.nu rfl ?_;walk_at"";refine AI y.p a.Line y.dx _ _ rfl l3 T.lc.cls T.lc.di rfl ?_;walk_at"";refine ⟨Aw,λb nb=>?_⟩;have s4:=(Ag.refl Y).upd (o:=.tup [.str B,.str y.l.num,.str y.l.ai]) nb;have e4:(upd Y b (.tup [.str B,.str y.l.num,.str y.l.ai])) b=some (.tup [.str B,.str y.l.num,.str y.l.ai]):=Ai;have t4:=V.same s4;generalize hG:upd Y b (.tup [.str B,.str y.l.num,.str y.l.ai])=H4 at s4 e4 t4;refine ⟨Aw,λr nr=>?_⟩;have p5:Ah H4 (upd H4 r (.lst [.ref b])):=.new nr;refine q _ _ r b (t4.new nr) dZ (RC d2 L) (p1.trans ((Ah.of O).trans (p3.trans ((Ah.of s4).trans p5)))) (.tup (.of (p5.t e4)) (.cons (.str _) (.cons (by rw [gK];exact .str _) (.cons (by rw [qq];exact .str _) .nil))))
theorem Agj:AR ["self","line","paper"] ["self","line","paper"] (Ab (Ad (top 27) 10)):=.of
theorem Agk:Nm (Ab (Ad (top 27) 10)) "self":=.of
theorem MA:Nm (Ab (Ad (top 27) 10)) "line":=.of
theorem RE:Nm (Ab (Ad (top 27) 10)) "paper":=.of
theorem Agl (F:AL K "busy" "Hall.busy" (Ad (top 27) 10) f fd)(T:TxtH P w K mg a)(fQ:AO P w K mg base (AJ P w) 4 a.ae "release" ["self","line"] (HM K a))(lV:AO P w K mg base AA 1 a.Line "be_told" ["self","paper"] (Mo a)):AE P w K mg base (AJ P w) 5 f fd ["self","line","paper"] (Mz K a):=by
 refine F.bf Agj λak A outer s H vs Q E V h=>?_
 .obtain ⟨X,R,i,x,v,d,rfl,t,h,hd,Y,D,q⟩:=h;have fR:=T.hc.cls;have lX:=T.lc.cls;refine ⟨_,(@Aj _ _ _ _ _ (Bm (A2 fQ fR (Aa 0 Agk) V.d By (Ac (Aa 1 MA) Af)))
    (Aj (Bm (A2 lV lX (Aa 1 MA) V.d A1 (Ac (Aa 2 RE) Af)))
    (Al (AN (Bn (Ac (BE (Ac Az (Ac (Ax (Aa 1 MA) rfl) (Ac (Aa 2 RE) Af)))) Af)))))),?_⟩
  try dsimp only [aC,aD]
  walk_at"";refine A4 X.h X.dx _ rfl t.t.aB rfl ?_;walk_at"";refine AX X R i x rfl t h hd (λH1 X1 y I dZ d2 eW dw cP p1=>?_);have B:X1.lines[i]?=some y:=by rw [eW];exact Bd h
  have gK:y.l.num=x.l.num:=by rw [cP]
  rw [<- dw];walk_at"";refine A4 y.p y.dx _ rfl (I.t.ax B) rfl ?_;walk_at"";refine ⟨I.t.ax B,?_⟩;obtain ⟨J,p3⟩:=I.told B (v:=v) (d:=d) (Is.av _ D Y p1) D;have h3:(X1.lines.set i { y with wv:=v,l:={ y.l with st:="told",why:=d } })[i]?=some { y with wv:=v,l:={ y.l with st:="told",why:=d } }:=Bd B;generalize upd H1 y.p (.ins a.Line y.dx (BV y.l.num y.i y.h "told" y.l.ai y.l.ag (Eo y.l.ao) v))=L at J p3 ⊢;have l3:=J.t.ax h3;walk_at"";refine AI y.p a.Line y.dx _ _ rfl l3 T.lc.cls T.lc.nu rfl ?_;walk_at"";refine ⟨Aw,λb nb=>?_⟩;have O:=(Ag.refl L).upd (o:=.tup [.str "busy",.str y.l.num,v]) nb;have e4:(upd L b (.tup [.str "busy",.str y.l.num,v])) b=some (.tup [.str "busy",.str y.l.num,v]):=Ai;have t4:=J.same O;generalize hG:upd L b (.tup [.str "busy",.str y.l.num,v])=H4 at O e4 t4;refine ⟨Aw,λr nr=>?_⟩;have p5:Ah H4 (upd H4 r (.lst [.ref b])):=.new nr;have pp:=p1.trans (p3.trans ((Ah.of O).trans p5));refine q _ _ r b (t4.new nr) dZ (RC d2 cP) pp (.tup (.of (p5.t e4)) (.cons (.str _) (.cons (by rw [gK];exact .str _) (.cons (Is.av _ D Y pp) .nil))))
def CA (S:PS)(i:Nat)(ln:Ln)(z:Str):PyData×PS :=
 match S.lns[A3 S.lns z]? with
 | none=>(.tuple [.str "none",.str ln.num,.str ln.ai],BH S i ln (.tuple [.str "none",.str ln.ai]))
 | some lc=>if lc.st="rests" then (.tuple [.str "rings",.str ln.num,.str z],{ S with lns:=(S.lns.set i { ln with st:="rings",ao:=some lc.num }).set (A3 S.lns z) { lc with st:="rung",ao:=some ln.num } })
  else (.tuple [.str "busy",.str ln.num,.tuple [.str "line",.str z,.str lc.st]],BH S i ln (.tuple [.str "line",.str z,.str lc.st]))
def RF (K:TH)(a:Ak):Sp:=λvs H Q _=>∃(X:HX)(R:AK)(i:Nat)(x:LX)(z:Str),vs=[.ref X.h,.ref x.p,.str z]/\HT K a H X R/\X.lines[i]?=some x/\bM X.S x.l.held/\x.l.st≠"rests" /\
 ∀ H' X' r b,HT K a H' X' ((r,.lst [.ref b]) :: R)->X'.h=X.h->X'.S=(CA X.S i x.l z).2->Ah H H'->Is K H' (.ref b) (CA X.S i x.l z).1->Q (.ref r) H'
theorem RG {lns:List Ln}{z:Str}(h:z ∉ lns.map (·.num)):lns[A3 lns z]?=none:=by
 have:A3 lns z=lns.length:=by unfold A3;rw [List.idxOf_eq_length h,TU]
 rw [this];exact Yt (T3 _)
theorem HT.aa1 {H:Hp}{X:HX}{R:AK}(t:HT K a H X R){i j:Nat}{x y:LX}(B:X.lines[i]?=some x)(D:X.lines[j]?=some y)(n:i≠j):x.p≠y.p:=λe=>by
 have I:=t.t.ax B;rw [e,t.t.ax D] at I;have J:HO.ins a.Line y.dx y.fs=HO.ins a.Line x.dx x.fs:=Uk I;have L:y.fs=x.fs:=by injection J
 have O:V.str y.l.num=V.str x.l.num:=by have:=congrArg (λl:List (Str×V)=>(l[0]?).map (·.2)) L;exact Uk this
 exact D1 t.ok.num (i:=i) (j:=j) (by rw [T7,B];rfl) (by rw [T7,D];rfl) n (V.str.inj O).symm
theorem RH:AR ["self","line","figures","called"] ["self","line","figures"] (Ab (Ad (top 27) 8)):=.of
theorem JW:Nm (Ab (Ad (top 27) 8)) "self":=.of
theorem JY:Nm (Ab (Ad (top 27) 8)) "line":=.of
theorem JZ:Nm (Ab (Ad (top 27) 8)) "figures":=.of
theorem J0:Nm (Ab (Ad (top 27) 8)) "called":=.of
theorem Agm (F:AL K "to_line" "Hall.to_line" (Ad (top 27) 8) f fd)(T:TxtH P w K mg a)(iQ:AO P w K mg base (AJ P w) 5 a.ae "no_call" ["self","line","word"] (JV K a))(lY:AO P w K mg base (AJ P w) 5 a.ae "busy" ["self","line","paper"] (Mz K a))(aa2:AO P w K mg base AA 1 a.Line "ring" ["self","called"] (Q9 a)):AE P w K mg base (AJ P w) 6 f fd ["self","line","figures"] (RF K a):=by
 refine F.bf RH λak A outer s H vs Q E O h=>?_
 .obtain ⟨X,R,i,x,z,rfl,t,h,hd,nr0,q⟩:=h;have iR:=T.hc.cls;have lZ:=T.hc.cls;have aa3:=T.lc.cls;have hu:=O.units;have nd:=RH.nd;refine ⟨_,(@Aj _ _ _ _ _ (AZ (A0 (Hs (P:=P) (w:=w) (K:=K)) (Aa 2 JZ) (Ax (Aa 0 JW) rfl) (by with_unfolding_all rfl)) (Al (AN (A2 iQ iR (Aa 0 JW) O.d By (Ac (Aa 1 JY) (Ac Az Af))))) A5)
    (Aj (Bb 3 nd J0 (BU P w K (Ax (Aa 0 JW) rfl) (Aa 2 JZ)))
    (Aj (AZ (A0 (DC hu) (Ax (Aa 3 J0) rfl) Az (A6 _)) (Al (AN (A2 lY lZ (Aa 0 JW) O.d By (Ac (Aa 1 JY) (Ac (BE (Ac Az (Ac (Aa 2 JZ) (Ac (Ax (Aa 3 J0) rfl) Af)))) Af))))) A5)
    (Aj (Bm (A2 aa2 aa3 (Aa 1 JY) O.d A1 (Ac (Aa 3 J0) Af)))
    (Al (AN (Bn (Ac (BE (Ac Az (Ac (Ax (Aa 1 JY) rfl) (Ac (Aa 2 JZ) Af)))) Af)))))))),?_⟩
  try dsimp only [aC,aD]
  walk_at"";refine AI X.h a.ae X.dx _ _ rfl t.t.aB T.hc.cls T.hc.li rfl ?_;refine A4 X.ld _ (.inr z) rfl rfl (.of t.t.ld) ?_;by_cases m:z∈X.lines.map (·.l.num)
  .obtain ⟨j,y,hy,rfl⟩:=Q6 m;have hv:=t.ok.line hy;have ej:X.S.lns[j]?=some y.l:=by show (X.lines.map (·.l))[j]?=_;rw [T7,hy];rfl
   have ei:=t.jP ej;rw [hv];walk_at"";refine AI X.h a.ae X.dx _ _ rfl t.t.aB T.hc.cls T.hc.li rfl ?_;walk_at"";refine AX X.ld _ (.inr y.l.num) _ rfl rfl (.of t.t.ld) hv ?_;walk_at"";refine AI y.p a.Line y.dx _ _ rfl (t.t.ax hy) T.lc.cls T.lc.st rfl ?_;walk_at"";by_cases J:y.l.st="rests"
   .have L:CA X.S i x.l y.l.num=(.tuple [.str "rings",.str x.l.num,.str y.l.num],{ X.S with lns:=(X.S.lns.set i { x.l with st:="rings",ao:=some y.l.num }).set j { y.l with st:="rung",ao:=some x.l.num } }):=by
     simp only [CA,ei,ej,if_pos J]
    rw [L] at q;have nj:i≠j:=λe=>by subst e;rw [h] at hy;cases hy;exact nr0 J
    have np:=t.aa1 h hy nj;rw [decide_eq_true (congrArg V.str J)];refine BW ?_;walk_at"";refine A4 x.p x.dx _ rfl (t.t.ax h) rfl ?_;walk_at"";have lx:=t.ok.lx i x h;have ly:=t.ok.lx j y hy;refine ⟨np,t.t.ax h,t.t.ax hy,?_⟩;obtain ⟨t1,p1⟩:=t.bz h { x with l:={ x.l with st:="rings",ao:=some y.l.num } } rfl rfl rfl rfl rfl rfl rfl lx.w lx.wt;have h1:(X.lines.set i { x with l:={ x.l with st:="rings",ao:=some y.l.num } })[j]?=some y:=D5 hy nj;obtain ⟨B,p2⟩:=t1.bz h1 { y with l:={ y.l with st:="rung",ao:=some x.l.num } } rfl rfl rfl rfl rfl rfl rfl (Is.av _ ly.wt ly.w p1) ly.wt;have g2:((X.lines.set i { x with l:={ x.l with st:="rings",ao:=some y.l.num } }).set j { y with l:={ y.l with st:="rung",ao:=some x.l.num } })[i]?=some { x with l:={ x.l with st:="rings",ao:=some y.l.num } }:=D5 (Bd h) (Uj nj);generalize upd (upd H x.p (.ins a.Line x.dx { x with l:={ x.l with st:="rings",ao:=some y.l.num } }.fs)) y.p (.ins a.Line y.dx { y with l:={ y.l with st:="rung",ao:=some x.l.num } }.fs)=Y at B p2 ⊢;have l2:=B.t.ax g2;walk_at"";refine AI x.p a.Line x.dx _ _ rfl l2 T.lc.cls T.lc.nu rfl ?_;walk_at"";refine ⟨Aw,λb nb=>?_⟩;have s3:=(Ag.refl Y).upd (o:=.tup [.str "rings",.str x.l.num,.str y.l.num]) nb;have e3:(upd Y b (.tup [.str "rings",.str x.l.num,.str y.l.num])) b=some (.tup [.str "rings",.str x.l.num,.str y.l.num]):=Ai;have D:=B.same s3;generalize hG:upd Y b (.tup [.str "rings",.str x.l.num,.str y.l.num])=I at s3 e3 D;refine ⟨Aw,λr nr=>?_⟩;have p4:Ah I (upd I r (.lst [.ref b])):=.new nr;refine q _ _ r b (D.new nr) rfl ?_ (p1.trans (p2.trans ((Ah.of s3).trans p4))) (.tup (.of (p4.t e3)) (.cons (.str _) (.cons (.str _) (.cons (.str _) .nil))));show (⟨X.long,((X.lines.set i _).set j _).map (·.l),_,_,_,_⟩:PS)=_;rw [Vb,Vb];rfl
   .have L:CA X.S i x.l y.l.num=(.tuple [.str "busy",.str x.l.num,.tuple [.str "line",.str y.l.num,.str y.l.st]],BH X.S i x.l (.tuple [.str "line",.str y.l.num,.str y.l.st])):=by
     simp only [CA,ei,ej,if_neg J]
    rw [L] at q;rw [decide_eq_false (λe=>J (V.str.inj e))];refine BQ ?_;walk_at"";refine A4 X.h X.dx _ rfl t.t.aB rfl ?_;walk_at"";refine AI y.p a.Line y.dx _ _ rfl (t.t.ax hy) T.lc.cls T.lc.st rfl ?_;walk_at"";refine ⟨Aw,λc nc=>?_⟩;have s2:=(Ag.refl H).upd (o:=.tup [.str "line",.str y.l.num,.str y.l.st]) nc;have e2:(upd H c (.tup [.str "line",.str y.l.num,.str y.l.st])) c=some (.tup [.str "line",.str y.l.num,.str y.l.st]):=Ai;have B:=t.same s2;generalize hG:upd H c (.tup [.str "line",.str y.l.num,.str y.l.st])=Y at s2 e2 B;refine ⟨X,R,i,x,.ref c,.tuple [.str "line",.str y.l.num,.str y.l.st],rfl,B,h,hd,.tup (.of e2) (.cons (.str _) (.cons (.str _) (.cons (.str _) .nil))),rfl,λI X3 r b D bo bG p3 ib=>?_⟩;exact q I X3 r b D bo bG ((Ah.of s2).trans p3) ib
  .have en:X.S.lns[A3 X.S.lns z]?=none:=RG (by show z ∉ (X.lines.map (·.l)).map (·.num);rw [Uo];exact m);have L:CA X.S i x.l z=(.tuple [.str "none",.str x.l.num,.str x.l.ai],BH X.S i x.l (.tuple [.str "none",.str x.l.ai])):=by
    simp only [CA,en]
   rw [L] at q;rw [t.ok.gI m];walk_at"";refine A4 X.h X.dx _ rfl t.t.aB rfl ?_;walk_at"";exact ⟨X,R,i,x,"none",rfl,t,h,hd,λI X3 r b D bo bG p3 ib=>q I X3 r b D bo bG p3 ib⟩
noncomputable def Bo (S:PS)(z:Str):Option Gr:=S.aj.find? λg=>decide (g.pre=z)
theorem J1 {l:List Gr}(D:(l.map (·.pre)).Nodup){i:Nat}{g:Gr}(h:l[i]?=some g):l.find? (λy=>decide (y.pre=g.pre))=some g:=by
 induction l generalizing i with
 | nil=>simp at h
 | cons y l ih =>
  have B:=Uv.mp D;cases i with
  | zero =>
   have e:y=g:=by simpa using h
   subst e;rw [VI,decide_eq_true rfl]
  | succ i =>
   have h:l[i]?=some g:=by simpa using h
   rw [VI,decide_eq_false (λe=>B.1 (by show y.pre∈_;rw [e];exact Ua.mpr ⟨g,Ue h,rfl⟩))];exact ih B.2 h
theorem Gu {l:List Gr}{z:Str}(h:z ∉ l.map (·.pre)):l.find? (λy=>decide (y.pre=z))=none:=by rw [ZK];intro y B e;exact h (by rw [<- of_decide_eq_true e];exact Ua.mpr ⟨y,B,rfl⟩)
def Dz:V->PyData
 | .str z=>.str z
 | _=>.none
def CZ (g:Gr):List PyData:=(BY g.hs (λk=>g.js.getD k false) g.hs.length).map Dz
def bA (g:Gr)(k:Int)(bj:Str):Gr:={ g with hs:=g.hs.set k.toNat (.str bj),ts:=g.ts.set k.toNat (g.ts.getD k.toNat 0+1) }
def BN (S:PS)(i:Nat)(ln:Ln)(z:Str):PyData×PS :=
 match Bo S z with
 | none=>(.tuple [.str "none",.str ln.num,.str ln.ai],BH S i ln (.tuple [.str "none",.str ln.ai]))
 | some g=>match BF g.hs g.js 0 with
  | none=>(.tuple [.str "busy",.str ln.num,.tuple [.str "group",.str z,.tuple (CZ g)]],BH S i ln (.tuple [.str "group",.str z,.tuple (CZ g)]))
  | some k=>(.tuple [.str "takes",.str ln.num,.str z,.int k],{ S with aj:=S.aj.map (λy=>if y.pre=z then bA y k ln.num else y),lns:=S.lns.set i { ln with held:=ln.held++[(z,k)] } })
def MB (g:Gr):Prop:=∀ v∈g.hs,v=.aa\/∃ z,v=.str z
theorem J2 {K:TH}{H:Hp}:∀{vs:List V},(∀ v∈vs,∃ z,v=.str z)->aW K H vs (vs.map Dz)
 | [],_=>.nil
 | v :: vs,h=>by
  obtain ⟨z,rfl⟩:=h v UC;exact .cons (.str z) (J2 λu m=>h u (Uu _ m))
theorem MC:∀(vs:List V),bX (vs.map Dz)=true
 | []=>rfl
 | v :: vs=>by
  show (Ce (Dz v) && bX (vs.map Dz))=true;rw [MC vs,Bool.and_true];cases v<;>rfl
theorem Agn {hs:List V}{st:Nat->Bool}{n:Nat}(h:∀ v∈hs,v=.aa\/∃ z,v=.str z):∀ v∈BY hs st n,∃ z,v=.str z:=by
 intro v B;obtain ⟨k,_,rfl⟩:=Ua.mp B;by_cases e:hs.getD k .aa=.aa
 .rw [if_pos e];split
  .exact ⟨_,rfl⟩
  .exact ⟨_,rfl⟩
 .rw [if_neg e];rw [UO] at e ⊢;cases hk:hs[k]? with
  | none=>rw [hk] at e;exact absurd rfl e
  | some u =>
   rw [hk] at e;exact (h u (Ue hk)).resolve_left e
def RI (K:TH)(a:Ak):Sp:=λvs H Q _=>∃(X:HX)(R:AK)(i:Nat)(x:LX)(z:Str),vs=[.ref X.h,.ref x.p,.str z]/\HT K a H X R/\X.lines[i]?=some x/\bM X.S x.l.held/\z≠TK ""/\(∀ g∈X.S.aj,MB g)/\x.l.held.length<=9 /\
 ∀ H' X' r b,HT K a H' X' ((r,.lst [.ref b]) :: R)->X'.h=X.h->X'.S=(BN X.S i x.l z).2->Ah H H'->Is K H' (.ref b) (BN X.S i x.l z).1->Q (.ref r) H'
theorem RJ:AR ["self","line","figures","group","k"] ["self","line","figures"] (Ab (Ad (top 27) 7)):=.of
theorem J3:Nm (Ab (Ad (top 27) 7)) "self":=.of
theorem HY:Nm (Ab (Ad (top 27) 7)) "line":=.of
theorem HZ:Nm (Ab (Ad (top 27) 7)) "figures":=.of
theorem MD:Nm (Ab (Ad (top 27) 7)) "group":=.of
theorem J4:Nm (Ab (Ad (top 27) 7)) "k":=.of
theorem Ago (F:AL K "into_group" "Hall.into_group" (Ad (top 27) 7) f fd)(T:TxtH P w K mg a)(iQ:AO P w K mg base (AJ P w) 5 a.ae "no_call" ["self","line","word"] (JV K a))(lY:AO P w K mg base (AJ P w) 5 a.ae "busy" ["self","line","paper"] (Mz K a))(lK:AO P w K mg base AA 2 a.aK "take" ["self","who"] (Q1 K a))(l8:AO P w K mg base AA 2 a.aK "paper" ["self"] (Q2 K a)):AE P w K mg base (AJ P w) 6 f fd ["self","line","figures"] (RI K a):=by
 refine F.bf RJ λak A outer s H vs Q E Y h=>?_
 .obtain ⟨X,R,i,x,z,rfl,t,h,hd,z0,hg,aJ,q⟩:=h;have iR:=T.hc.cls;have lZ:=T.hc.cls;have lL:=T.gc.cls;have md:=T.gc.cls;have hu:=Y.units;have nd:=RJ.nd;have fT:(X.S.aj.map (·.pre)).Nodup:=by show ((X.groups.map (·.g)).map (·.pre)).Nodup;rw [Uo];exact t.ok.pre
  refine ⟨_,(@Aj _ _ _ _ _ (AZ (A0 (Hs (P:=P) (w:=w) (K:=K)) (Aa 2 HZ) (Ax (Aa 0 J3) rfl) (by with_unfolding_all rfl)) (Al (AN (A2 iQ iR (Aa 0 J3) Y.d By (Ac (Aa 1 HY) (Ac Az Af))))) A5)
    (Aj (Bb 3 nd MD (BU P w K (Ax (Aa 0 J3) rfl) (Aa 2 HZ)))
    (Aj (Bb 4 nd J4 (A2 lK lL (Aa 3 MD) Y.d A1 (Ac (Ax (Aa 1 HY) rfl) Af)))
    (Aj (AZ (A0 EF (Aa 4 J4) B8 (A6 _)) (Al (AN (A2 lY lZ (Aa 0 J3) Y.d By (Ac (Aa 1 HY) (Ac (BE (Ac Az (Ac (Aa 2 HZ) (Ac (Jd l8 md (Aa 3 MD) Y.d A1) Af)))) Af))))) A5)
    (Aj (Bm (DB VJ V6 V7 DU (Ax (Aa 1 HY) rfl) (Ac (BE (Ac (Aa 2 HZ) (Ac (Aa 4 J4) Af))) Af)))
    (Al (AN (Bn (Ac (BE (Ac Az (Ac (Ax (Aa 1 HY) rfl) (Ac (Aa 2 HZ) (Ac (Aa 4 J4) Af))))) Af))))))))),?_⟩
  try dsimp only [aC,aD]
  have bw:AQ ["self","line","figures","group","k"] [V.ref X.h,V.ref x.p,V.str z]=[some (.ref X.h),some (.ref x.p),some (.str z),none,none]:=rfl;simp only [bw,UW,UX];walk_at"";refine AI X.h a.ae X.dx _ _ rfl t.t.aB T.hc.cls T.hc.sw rfl ?_;refine A4 X.sd _ (.inr z) rfl rfl (.of t.t.sd) ?_;by_cases m:z∈X.groups.map (·.g.pre)
  .obtain ⟨j,g,I,rfl⟩:=HL m;have hv:=t.ok.lF I;have ej:X.S.aj[j]?=some g.g:=by show (X.groups.map (·.g))[j]?=_;rw [T7,I];rfl
   have eg:Bo X.S g.g.pre=some g.g:=J1 fT ej;have gk:=t.ok.gr g (Ue I);have rk:=t.t.jI I T.gc gk;obtain ⟨gdx,gfs,ge,gF⟩:=rk.ins;rw [hv];walk_at"";refine AI X.h a.ae X.dx _ _ rfl t.t.aB T.hc.cls T.hc.sw rfl ?_;walk_at"";refine AX X.sd _ (.inr g.g.pre) _ rfl rfl (.of t.t.sd) hv ?_;walk_at"";refine Dv ge (gF.m _ (by decide)) ?_;walk_at"";refine AI x.p a.Line x.dx _ _ rfl (t.t.ax h) T.lc.cls T.lc.nu rfl ?_;walk_at"";refine EK g.p x.l.num a.aK g.ra g.rb g.rc g.g.hs g.g.js g.g.ts rfl ⟨rk,?_⟩;cases ff:BF g.g.hs g.g.js 0 with
   | none =>
    have eD:BN X.S i x.l g.g.pre=(.tuple [.str "busy",.str x.l.num,.tuple [.str "group",.str g.g.pre,.tuple (CZ g.g)]],BH X.S i x.l (.tuple [.str "group",.str g.g.pre,.tuple (CZ g.g)])):=by simp only [BN,eg,ff]
    rw [eD] at q;intro B s1;have L:=t.same s1;have iS:=rk.same s1;obtain ⟨adS,adT,ge1,gF1⟩:=iS.ins;walk_at"";refine A4 X.h X.dx _ rfl L.t.aB rfl ?_;walk_at"";refine Dv ge1 (gF1.m _ (by decide)) ?_;refine F6 g.p a.aK g.ra g.rb g.rc g.g.hs g.g.js g.g.ts rfl ⟨iS,λH2 tp J ntp mf=>?_⟩;walk_at"";refine ⟨Aw,λc nc=>?_⟩;have s3:=(Ag.refl H2).upd (o:=.tup [.str "group",.str g.g.pre,.ref tp]) nc;have e3:(upd H2 c (.tup [.str "group",.str g.g.pre,.ref tp])) c=some (.tup [.str "group",.str g.g.pre,.ref tp]):=Ai;have D:=(L.same J).same s3;generalize hG:upd H2 c (.tup [.str "group",.str g.g.pre,.ref tp])=O at s3 e3 D;have td:Ce (.tuple [.str "group",.str g.g.pre,.tuple (CZ g.g)])=true:=by show (true && (true && (bX (CZ g.g) && true)))=true;rw [show bX (CZ g.g)=true from MC _];rfl
    refine ⟨X,R,i,x,.ref c,.tuple [.str "group",.str g.g.pre,.tuple (CZ g.g)],rfl,D,h,hd,.tup (.of e3) (.cons (.str _) (.cons (.str _) (.cons (.tup (.of (s3 _ _ mf)) (J2 (Agn (hg g.g (Ue ej))))) .nil))),td,λH4 X4 r b t4 d4 gL p4 ib=>?_⟩;exact q H4 X4 r b t4 d4 gL ((Ah.of s1).trans ((Ah.of J).trans ((Ah.of s3).trans p4))) ib
   | some k =>
    have eD:BN X.S i x.l g.g.pre=(.tuple [.str "takes",.str x.l.num,.str g.g.pre,.int k],{ X.S with aj:=X.S.aj.map (λy=>if y.pre=g.g.pre then bA y k x.l.num else y),lns:=X.S.lns.set i { x.l with held:=x.l.held++[(g.g.pre,k)] } }):=by simp only [BN,eg,ff]
    rw [eD] at q;intro B sx ea ec;have eb1:B g.rb=some (.lst (g.g.js.map V.bl)):=sx _ _ (by
     intro m;simp only [T8,UT,or_false] at m;rcases m with e | e
     .exact rk.ab e.symm
     .exact rk.bc e) rk.hb
    obtain ⟨a1,p1⟩:=t.t.setG (g':={ g with g:=bA g.g k x.l.num }) I sx (λw m=>by simp only [T8,UT,or_false] at m;exact m.elim .inl λz=>.inr (.inr z)) rfl rfl ea eb1 ec;have L:HT K a B { X with groups:=X.groups.set j { g with g:=bA g.g k x.l.num } } R:=⟨a1,t.ok.setG p1 I rfl ⟨by show _=(g.g.hs.set _ _).length;rw [Ud];exact gk.lj,by show (g.g.ts.set _ _).length=(g.g.hs.set _ _).length;rw [Ud,Ud];exact gk.lt,by show (g.g.hs.set _ _).length<=_;rw [Ud];exact gk.z⟩⟩;have l1:B x.p=some (.ins a.Line x.dx x.fs):=by have z:=L.t.ax h;exact z
    have qr:B x.h=some (.lst (x.hv.map V.ref)):=by have z:=L.t.iJ h;exact z
    have hvl:x.hv.length<=9:=by rw [(t.ok.lx i x h).pr.len];exact aJ
    walk_at"";refine AI x.p a.Line x.dx _ _ rfl l1 T.lc.cls T.lc.he rfl ?_;refine ⟨.inl ⟨rfl,_,.of qr⟩,?_⟩;walk_at"";refine ⟨Aw,λu nu=>?_⟩;have J:=(Ag.refl B).upd (o:=.tup [.str g.g.pre,.int k]) nu;have e2:(upd B u (.tup [.str g.g.pre,.int k])) u=some (.tup [.str g.g.pre,.int k]):=Ai;have t2:=L.same J;generalize upd B u (.tup [.str g.g.pre,.int k])=H2 at J e2 t2 ⊢;walk_at"";refine Cv x.h _ _ rfl rfl (J _ _ qr) (by rw [TU,TY];omega) ?_;obtain ⟨D,p3⟩:=t2.jG h e2 aJ;have h3:(X.lines.set i { x with hv:=x.hv++[u],l:={ x.l with held:=x.l.held++[(g.g.pre,k)] } })[i]?=some { x with hv:=x.hv++[u],l:={ x.l with held:=x.l.held++[(g.g.pre,k)] } }:=Bd h;generalize upd H2 x.h (.lst (x.hv.map V.ref++[V.ref u]))=O at D p3 ⊢;have l3:=D.t.ax h3;walk_at"";refine AI x.p a.Line x.dx _ _ rfl l3 T.lc.cls T.lc.nu rfl ?_;walk_at"";refine ⟨Aw,λb nb=>?_⟩;have s4:=(Ag.refl O).upd (o:=.tup [.str "takes",.str x.l.num,.str g.g.pre,.int k]) nb;have e4:(upd O b (.tup [.str "takes",.str x.l.num,.str g.g.pre,.int k])) b=some (.tup [.str "takes",.str x.l.num,.str g.g.pre,.int k]):=Ai;have t4:=D.same s4;generalize hG:upd O b (.tup [.str "takes",.str x.l.num,.str g.g.pre,.int k])=H4 at s4 e4 t4;refine ⟨Aw,λr nr=>?_⟩;have p5:Ah H4 (upd H4 r (.lst [.ref b])):=.new nr;refine q _ _ r b (t4.new nr) rfl ?_ (p1.trans ((Ah.of J).trans (p3.trans ((Ah.of s4).trans p5)))) (.tup (.of (p5.t e4)) (.cons (.str _) (.cons (.str _) (.cons (.str _) (.cons (.int _) .nil)))));have e5:=HX.lH (X:=X) (i:=j) (g:=g) (g':={ g with g:=bA g.g k x.l.num }) (h:=λy=>bA y k x.l.num) t.ok.pre I rfl;have e6:=HX.gJ (X:={ X with groups:=X.groups.set j { g with g:=bA g.g k x.l.num } }) (i:=i) (y:={ x with hv:=x.hv++[u],l:={ x.l with held:=x.l.held++[(g.g.pre,k)] } });exact e6.trans (by rw [e5])
  .have en:Bo X.S z=none:=Gu (by show z ∉ (X.groups.map (·.g)).map (·.pre);rw [Uo];exact m);have eD:BN X.S i x.l z=(.tuple [.str "none",.str x.l.num,.str x.l.ai],BH X.S i x.l (.tuple [.str "none",.str x.l.ai])):=by
    simp only [BN,en]
   rw [eD] at q;rw [t.ok.qi z0 m];walk_at"";refine A4 X.h X.dx _ rfl t.t.aB rfl ?_;walk_at"";exact ⟨X,R,i,x,"none",rfl,t,h,hd,λO X3 r b D bo bG p3 ib=>q O X3 r b D bo bG p3 ib⟩
noncomputable def EY:List Str:=["1","2","3","4","5","6","7","8","9","0"]
noncomputable def Dc (n:Int):Str:=EY.getD (n - 1).toNat ""
theorem Agp {n:Int}(h:1<=n/\n<=10):BA (EY.map V.str) (n - 1)=some (.str (Dc n)):=by
 have B:∀ m:Nat,m<10->BA (EY.map V.str) (m:Int)=some (.str (EY.getD m "")):=by decide +kernel
 have e:n - 1=((n - 1).toNat:Int):=by omega
 rw [e];exact B _ (by omega)
theorem ME {n:Int}(h:1<=n/\n<=10):(Dc n).length=1:=by
 have B:∀ m:Nat,m<10->(EY.getD m "").length=1:=by decide +kernel
 exact B _ (by omega)
structure TxtG (P:TV)(w:TM)(K:TH)(mg:Str->Option Value)(a:Ak):Prop extends TxtH P w K mg a where
 gN:mg "FIGURES"=some (.ref a.fI)
 jQ:∀ H,Bl K H a.fI (EY.map V.str)
 jR:mg "NoFigure"=some (.ref a.iw)
 qv:Vn K a.iw [.type "ValueError",.type "Exception",.type "BaseException",.type "object"] "ValueError.__new__"=true
def RK (a:Ak):Sp:=λvs H Q E=>∃ n:Int,vs=[.int n]/\if 1<=n/\n<=10 then Q (.str (Dc n)) H else E (.ref a.iw) none H
def CO (S:PS)(i:Nat)(ln:Ln):List PyData×PS :=
 if ln.ag+1<=10 then ([],{ S with lns:=S.lns.set i { ln with ag:=ln.ag+1 } })
 else ([.tuple [.str "over",.str ln.num,.str ln.ai]],BH { S with lns:=S.lns.set i { ln with ag:=ln.ag+1 } } i { ln with ag:=ln.ag+1 } (.tuple [.str "over",.str ln.ai]))
def RL (K:TH)(a:Ak):Sp:=λvs H Q _=>∃(X:HX)(R:AK)(i:Nat)(x:LX),vs=[.ref X.h,.ref x.p]/\HT K a H X R/\X.lines[i]?=some x/\bM { X.S with lns:=X.S.lns.set i { x.l with ag:=x.l.ag+1 } } x.l.held /\
 ∀ H' X' r xs,HT K a H' X' ((r,.lst (xs.map V.ref)) :: R)->X'.h=X.h->X'.S=(CO X.S i x.l).2->Ah H H'->B0 K H' xs (CO X.S i x.l).1->Q (.ref r) H'
noncomputable def Ar (ln:Ln):Ln:={ ln with ai:=ln.ai++Dc ln.ag,ag:=0 }
def Cq (S:PS)(i:Nat)(ln:Ln):PyData×PS :=
 let S1:PS:={ S with lns:=S.lns.set i (Ar ln) }
 if ((Ar ln).ai.length:Int)<=S.long - 2 then BN S1 i (Ar ln) (Ar ln).ai
 else if ((Ar ln).ai.length:Int)<S.long then (.tuple [.str "figure",.str ln.num,.str (Ar ln).ai],S1)
 else CA S1 i (Ar ln) (Ar ln).ai
structure Ia (S:PS)(i:Nat)(ln:Ln):Prop where
 p1:ln.ag<=10
 p0:0<=ln.ag
 st:ln.st≠"rests"
 f:ln.ai.length<=100
 hg:∀ g∈S.aj,MB g
 aJ:ln.held.length<=9
 h:bM { S with lns:=S.lns.set i (Ar ln) } ln.held
def RM (K:TH)(a:Ak):Sp:=λvs H Q E=>∃(X:HX)(R:AK)(i:Nat)(x:LX),vs=[.ref X.h,.ref x.p]/\HT K a H X R/\X.lines[i]?=some x/\Ia X.S i x.l /\
 (x.l.ag=0->E (.ref a.fE) none H) /\
 (x.l.ag≠0->∀ H' X' r b,HT K a H' X' ((r,.lst [.ref b]) :: R)->X'.h=X.h->X'.S=(Cq X.S i x.l).2->Ah H H'->Is K H' (.ref b) (Cq X.S i x.l).1->Q (.ref r) H')
theorem RN:AR ["many"] ["many"] (Ab (top 14)):=.of
theorem RO:Nm (Ab (top 14)) "many":=.of
theorem RP:Gm (Ab (top 14)) "FIGURES":=.of
theorem Agq:Gm (Ab (top 14)) "within":=.of
theorem Agr:Gm (Ab (top 14)) "len":=.of
theorem Ags:Gm (Ab (top 14)) "NoFigure":=.of
theorem Agt (F:AL K "figure_of" "figure_of" (top 14) f fd)(T:TxtG P w K mg a)(D:BX P w K mg base AA 1 "within" ["number","least","most"] Gk):AE P w K mg base (AJ P w) 2 f fd ["many"] (RK a):=by
 refine F.bf RN λI A outer s H vs Q E B h=>?_
 .obtain ⟨n,rfl,q⟩:=h;have hu:=B.units;have J:=RN.nd;refine ⟨_,(@Aj _ _ _ _ _ (AZ (Dr (Dj (BS D Agq B.d A1 (Ac (Aa 0 RO) (Ac Aq (Ac (BR Cw Agr T.n_len Cn (Ac (Fz (v:=.ref a.fI) RP T.gN rfl) Af)) Af)))))) (Al (CN CM Ags rfl T.qv T.jR (Ac Az Af))) A5)
    (Al (AN (Bi Bx (Fz (v:=.ref a.fI) RP T.gN rfl) (AD F2 (Aa 0 RO) Aq) (λ_ _=>rfl))))),?_⟩
  try dsimp only [aC,aD]
  walk_at"";refine T1 (BL _ _ rfl (.inr (T.jQ _)) ?_);refine B5 n 1 _ rfl ?_;walk_at"";have e:((VU V.str EY).length:Int)=10:=rfl;rw [e];by_cases h:1<=n/\n<=10
  .rw [decide_eq_true h.1,decide_eq_true h.2];refine BW ?_;walk_at"";rw [if_pos h] at q;exact T1 (T9 (OO _ _ _ _ rfl ⟨rfl,T.jQ _,Agp h,q⟩))
  .rw [if_neg h] at q;have e:(decide (1<=n) && decide (n<=10))=false:=by
    rw [Bool.and_eq_false_iff,decide_eq_false_iff_not,decide_eq_false_iff_not];omega
   rw [e];refine BQ ?_;exact ⟨by decide,q⟩
theorem Agu:AR ["self","line"] ["self","line"] (Ab (Ad (top 27) 5)):=.of
theorem Agv:Nm (Ab (Ad (top 27) 5)) "self":=.of
theorem MF:Nm (Ab (Ad (top 27) 5)) "line":=.of
theorem Agw:Gm (Ab (Ad (top 27) 5)) "len":=.of
theorem Agx:Gm (Ab (Ad (top 27) 5)) "FIGURES":=.of
theorem Agy (F:AL K "pulse" "Hall.pulse" (Ad (top 27) 5) f fd)(T:TxtG P w K mg a)(iQ:AO P w K mg base (AJ P w) 5 a.ae "no_call" ["self","line","word"] (JV K a)):AE P w K mg base (AJ P w) 6 f fd ["self","line"] (RL K a):=by
 refine F.bf Agu λak A outer s H vs Q E hr h=>?_
 .obtain ⟨X,R,i,x,rfl,t,h,hd,q⟩:=h;have iR:=T.hc.cls;have O:=t.ok.lx i x h;refine ⟨_,(@Aj _ _ _ _ _ (Ot (Aa 1 MF) Aq Abg)
    (Aj (AZ (A0 IG (Ax (Aa 1 MF) rfl) (BR Cw Agw T.n_len Cn (Ac (Fz (v:=.ref a.fI) Agx T.gN rfl) Af)) (A6 _)) (Al (AN (Bn Af))) A5)
    (Al (AN (A2 iQ iR (Aa 0 Agv) hr.d By (Ac (Aa 1 MF) (Ac Az Af))))))),?_⟩
  try dsimp only [aC,aD]
  walk_at"";refine AI x.p a.Line x.dx _ _ rfl (t.t.ax h) T.lc.cls T.lc.pu rfl ?_;walk_at"";refine ⟨x.dx,_,t.t.ax h,(UE rfl),?_⟩;obtain ⟨B,D⟩:=t.bz h { x with l:={ x.l with ag:=x.l.ag+1 } } rfl rfl rfl rfl rfl rfl rfl O.w O.wt;change HT K a (upd H x.p (.ins a.Line x.dx (An "pulses" (.int (x.l.ag+1)) x.fs))) _ _ at B;change Ah _ (upd H x.p (.ins a.Line x.dx (An "pulses" (.int (x.l.ag+1)) x.fs))) at D;have Y:(X.lines.set i { x with l:={ x.l with ag:=x.l.ag+1 } })[i]?=some { x with l:={ x.l with ag:=x.l.ag+1 } }:=Bd h;generalize upd H x.p (.ins a.Line x.dx (An "pulses" (.int (x.l.ag+1)) x.fs))=H1 at B D ⊢;have l1:=B.t.ax Y;have J:=HX.gJ (X:=X) (i:=i) (y:={ x with l:={ x.l with ag:=x.l.ag+1 } });walk_at"";refine AI x.p a.Line x.dx _ _ rfl l1 T.lc.cls T.lc.pu rfl ?_;walk_at"";refine T1 (BL _ _ rfl (.inr (T.jQ _)) ?_);have e:((VU V.str EY).length:Int)=10:=rfl;rw [e];walk_at"";by_cases I:x.l.ag+1<=10
  .have L:CO X.S i x.l=([],{ X.S with lns:=X.S.lns.set i { x.l with ag:=x.l.ag+1 } }):=if_pos I;rw [L] at q;refine DV (decide_eq_true I) ?_;walk_at"";refine ⟨Aw,λr nr=>?_⟩;exact q _ _ r [] (B.new nr) rfl J (D.trans (.new nr)) .nil
  .have L:CO X.S i x.l=([.tuple [.str "over",.str x.l.num,.str x.l.ai]],BH { X.S with lns:=X.S.lns.set i { x.l with ag:=x.l.ag+1 } } i { x.l with ag:=x.l.ag+1 } (.tuple [.str "over",.str x.l.ai])):=if_neg I;rw [L] at q;refine Dl (decide_eq_false I) ?_;walk_at"";refine A4 X.h X.dx _ rfl B.t.aB rfl ?_;walk_at"";refine Fu { X with lines:=X.lines.set i { x with l:={ x.l with ag:=x.l.ag+1 } } } R i { x with l:={ x.l with ag:=x.l.ag+1 } } ("over") rfl ⟨B,Y,by rw [J];exact hd,λH3 X3 r b t3 bo bG p3 ib=>?_⟩;rw [J] at bG;exact q H3 X3 r [b] t3 bo bG (D.trans p3) (.one ib rfl)
theorem RQ:AR ["self","line","many"] ["self","line"] (Ab (Ad (top 27) 6)):=.of
theorem J5:Nm (Ab (Ad (top 27) 6)) "self":=.of
theorem DK:Nm (Ab (Ad (top 27) 6)) "line":=.of
theorem MI:Nm (Ab (Ad (top 27) 6)) "many":=.of
theorem Agz:Gm (Ab (Ad (top 27) 6)) "len":=.of
theorem AgA:Gm (Ab (Ad (top 27) 6)) "figure_of":=.of
theorem AgB:Gm (Ab (Ad (top 27) 6)) "NotSo":=.of
theorem AgC (F:AL K "gap" "Hall.gap" (Ad (top 27) 6) f fd)(T:TxtG P w K mg a)(mi:BX P w K mg base (AJ P w) 2 "figure_of" ["many"] (RK a))(aa4:AO P w K mg base (AJ P w) 6 a.ae "into_group" ["self","line","figures"] (RI K a))(aa5:AO P w K mg base (AJ P w) 6 a.ae "to_line" ["self","line","figures"] (RF K a)):AE P w K mg base (AJ P w) 7 f fd ["self","line"] (RM K a):=by
 refine F.bf RQ λak A outer s H vs Q E hr h=>?_
 .obtain ⟨X,R,i,x,rfl,t,h,ok,q0,q⟩:=h;have aa6:=T.hc.cls;have aa7:=T.hc.cls;have hu:=hr.units;have nd:=RQ.nd;have lx:=t.ok.lx i x h;refine ⟨_,(@Aj _ _ _ _ _ (AZ (A0 (CC hu) (Ax (Aa 1 DK) rfl) Aq (A6 _)) (Al (CN CM AgB rfl T.lG T.iM (Ac Az Af))) A5)
    (Aj (Ot (Aa 1 DK) (BS mi AgA hr.d By (Ac (Ax (Aa 1 DK) rfl) Af)) Ad5)
    (Aj (Bs (Aa 1 DK) Aq rfl)
    (Aj (Bb 2 nd MI (BR Cw Agz T.n_len Cn (Ac (Ax (Aa 1 DK) rfl) Af)))
    (Aj (AZ (A0 IG (Aa 2 MI) (AD F2 (Ax (Aa 0 J5) rfl) Aq) (A6 _)) (Al (AN (A2 aa4 aa6 (Aa 0 J5) hr.d By (Ac (Aa 1 DK) (Ac (Ax (Aa 1 DK) rfl) Af))))) A5)
    (Aj (AZ (A0 Oe (Aa 2 MI) (Ax (Aa 0 J5) rfl) (A6 _)) (Al (AN (Bn (Ac (BE (Ac Az (Ac (Ax (Aa 1 DK) rfl) (Ac (Ax (Aa 1 DK) rfl) Af)))) Af)))) A5)
    (Al (AN (A2 aa5 aa7 (Aa 0 J5) hr.d By (Ac (Aa 1 DK) (Ac (Ax (Aa 1 DK) rfl) Af))))))))))),?_⟩
  try dsimp only [aC,aD]
  walk_at"";refine AI x.p a.Line x.dx _ _ rfl (t.t.ax h) T.lc.cls T.lc.pu rfl ?_;walk_at"";by_cases hp:x.l.ag=0
  .refine DV (decide_eq_true (congrArg V.int hp)) ?_;exact ⟨Aw,q0 hp⟩
  .have q:=q hp;refine Dl (decide_eq_false (λe=>hp (V.int.inj e))) ?_;have pr:1<=x.l.ag/\x.l.ag<=10:=⟨by have:=ok.p0;omega,ok.p1⟩;have fl:=ME pr;walk_at"";refine AI x.p a.Line x.dx _ _ rfl (t.t.ax h) T.lc.cls T.lc.di rfl ?_;walk_at"";refine AI x.p a.Line x.dx _ _ rfl (t.t.ax h) T.lc.cls T.lc.pu rfl ?_;walk_at"";rw [if_pos pr];walk_at"";refine ⟨(by rw [fl,TY];have:=ok.f;omega),?_⟩;refine ⟨x.dx,_,t.t.ax h,(UE rfl),?_⟩;walk_at"";refine A9 x.p a.Line x.dx _ rfl Ai T.lc.cls T.lc.pu (UE rfl) ?_;rw [Eb];obtain ⟨B,I⟩:=t.bz h { x with l:=Ar x.l } rfl rfl rfl rfl rfl rfl rfl lx.w lx.wt;change HT K a (upd H x.p (.ins a.Line x.dx (An "pulses" (.int 0) (An "dialled_so_far" (.str (x.l.ai++Dc x.l.ag)) x.fs)))) _ _ at B;change Ah _ (upd H x.p (.ins a.Line x.dx (An "pulses" (.int 0) (An "dialled_so_far" (.str (x.l.ai++Dc x.l.ag)) x.fs)))) at I;have h1:(X.lines.set i { x with l:=Ar x.l })[i]?=some { x with l:=Ar x.l }:=Bd h;generalize upd H x.p (.ins a.Line x.dx (An "pulses" (.int 0) (An "dialled_so_far" (.str (x.l.ai++Dc x.l.ag)) x.fs)))=J at B I ⊢;have L:J x.p=some (.ins a.Line x.dx (BV x.l.num x.i x.h x.l.st (Ar x.l).ai 0 (Eo x.l.ao) x.wv)):=by have z:=B.t.ax h1;exact z
   have x1:J X.h=some (.ins a.ae X.dx (EV X.long X.ld X.sd X.qa X.da)):=B.t.aB;have D:=HX.gJ (X:=X) (i:=i) (y:={ x with l:=Ar x.l });have gl:(Ar x.l).ai.length=x.l.ai.length+1:=by show (x.l.ai++Dc x.l.ag).length=_;rw [Ba,fl]
   walk_at"";refine AI x.p a.Line x.dx _ _ rfl L T.lc.cls T.lc.di rfl ?_;refine T9 (DW ((Ar x.l).ai) rfl (by rw [TY,gl];have:=ok.f;omega) ?_);walk_at"";refine AI X.h a.ae X.dx _ _ rfl x1 T.hc.cls T.hc.lo rfl ?_;walk_at"";by_cases O:((Ar x.l).ai.length:Int)<=X.long - 2
   .have Y:Cq X.S i x.l=BN { X.S with lns:=X.S.lns.set i (Ar x.l) } i (Ar x.l) (Ar x.l).ai:=if_pos O;rw [Y] at q;refine DV (decide_eq_true O) ?_;walk_at"";refine A4 X.h X.dx _ rfl x1 rfl ?_;walk_at"";refine AI x.p a.Line x.dx _ _ rfl L T.lc.cls T.lc.di rfl ?_;walk_at"";refine Fu { X with lines:=X.lines.set i { x with l:=Ar x.l } } R i { x with l:=Ar x.l } ((Ar x.l).ai) rfl ⟨B,h1,by rw [D];exact ok.h,?_,by rw [D];exact ok.hg,ok.aJ,λH3 X3 r b t3 bo bG p3 ib=>?_⟩
    .intro e;rw [e] at gl;have:(TK "").length=0:=rfl;omega
    .rw [D] at bG ib;exact q H3 X3 r b t3 bo bG (I.trans p3) ib
   .refine Dl (decide_eq_false O) ?_;walk_at"";refine AI X.h a.ae X.dx _ _ rfl x1 T.hc.cls T.hc.lo rfl ?_;walk_at"";by_cases c2:((Ar x.l).ai.length:Int)<X.long
    .have Y:Cq X.S i x.l=(.tuple [.str "figure",.str x.l.num,.str (Ar x.l).ai],{ X.S with lns:=X.S.lns.set i (Ar x.l) }):=(if_neg O).trans (if_pos c2);rw [Y] at q;refine DV (decide_eq_true c2) ?_;walk_at"";refine AI x.p a.Line x.dx _ _ rfl L T.lc.cls T.lc.nu rfl ?_;walk_at"";refine AI x.p a.Line x.dx _ _ rfl L T.lc.cls T.lc.di rfl ?_;walk_at"";refine ⟨Aw,λb nb=>?_⟩;have s4:=(Ag.refl J).upd (o:=.tup [.str "figure",.str x.l.num,.str (Ar x.l).ai]) nb;have e4:(upd J b (.tup [.str "figure",.str x.l.num,.str (Ar x.l).ai])) b=some (.tup [.str "figure",.str x.l.num,.str (Ar x.l).ai]):=Ai;have t4:=B.same s4;generalize upd J b (.tup [.str "figure",.str x.l.num,.str (Ar x.l).ai])=H4 at s4 e4 t4 ⊢;refine ⟨Aw,λr nr=>?_⟩;have p5:Ah H4 (upd H4 r (.lst [.ref b])):=.new nr;exact q _ _ r b (t4.new nr) rfl D (I.trans ((Ah.of s4).trans p5)) (.tup (.of (p5.t e4)) (.cons (.str _) (.cons (.str _) (.cons (.str _) .nil))))
    .have Y:Cq X.S i x.l=CA { X.S with lns:=X.S.lns.set i (Ar x.l) } i (Ar x.l) (Ar x.l).ai:=(if_neg O).trans (if_neg c2);rw [Y] at q;refine Dl (decide_eq_false c2) ?_;walk_at"";refine A4 X.h X.dx _ rfl x1 rfl ?_;walk_at"";refine AI x.p a.Line x.dx _ _ rfl L T.lc.cls T.lc.di rfl ?_;walk_at"";refine AI { X with lines:=X.lines.set i { x with l:=Ar x.l } } R i { x with l:=Ar x.l } ((Ar x.l).ai) rfl B h1 (by rw [D];exact ok.h) ok.st (λH3 X3 r b t3 bo bG p3 ib=>?_);rw [D] at bG ib;exact q H3 X3 r b t3 bo bG (I.trans p3) ib
noncomputable def Ep (b:Bool):Str:=if b then "stick" else "mend"
noncomputable def BI (S:PS)(w:Str):Option (List V):=if w=TK "" then some S.sk.hs else (Bo S w).map (·.hs)
noncomputable def Be (S:PS)(b:Bool)(w:Str)(k:Int):PS :=
 if w=TK "" then { S with sk:={ S.sk with js:=S.sk.js.set k.toNat b } }
 else { S with aj:=S.aj.map λg=>if g.pre=w then { g with js:=g.js.set k.toNat b } else g }
def RR (K:TH)(a:Ak):Sp:=λvs H Q E=>∃(X:HX)(R:AK)(b:Bool)(z:Str)(k:Int),vs=[.ref X.h,.str (Ep b),.str z,.int k]/\HT K a H X R/\Ok z /\
 match BI X.S z with
 | none=>E (.ref a.cb) none H
 | some hs=>if CD k hs=true then ∀ H' X' r,HT K a H' X' ((r,.lst (([]:List Addr).map V.ref)) :: R)->X'.h=X.h->X'.S=Be X.S b z k->Ah H H'->Q (.ref r) H' else E (.ref a.cb) none H
section
variable {K:TH}{a:Ak}{H:Hp}{X:HX}{R:AK}
theorem HT.aa8 (t:HT K a H X R)(sc:ET K a a.aM)(gc:El K a a.aK){z:Str}{hs:List V}(e:BI X.S z=some hs) :
  ∃ p C L D O js ts,C∈a.bx/\(∃ dx fs,H p=some (.ins C dx fs)/\Fs fs L D O)/\Co K a H p C L D O hs js ts/\((z=TK ""/\X.sk.p=p)\/∃(i:Nat)(g:RX),X.groups[i]?=some g/\g.g.pre=z/\g.p=p) /\
   ∀(b:Bool)(k:Int),∃ I:HX,I.S=Be X.S b z k/\I.h=X.h/\HT K a (upd H D (.lst ((js.set k.toNat b).map V.bl))) I R/\Ah H (upd H D (.lst ((js.set k.toNat b).map V.bl))):=by
 by_cases B:z=TK ""
 .have s:=t.t.jK sc t.ok.sk;obtain ⟨dx,Y⟩:=s.ins;have J:X.sk.k.hs=hs:=by
   unfold BI at e;rw [if_pos B] at e;exact Uk e
  subst J;refine ⟨X.sk.p,a.aM,X.sk.ra,X.sk.rb,X.sk.rc,X.sk.k.js,X.sk.k.ts,sc.c.mem,⟨dx,_,Y,JB ..⟩,s.r,.inl ⟨B,rfl⟩,λb k=>⟨{ X with sk:={ X.sk with k:={ X.sk.k with js:=X.sk.k.js.set k.toNat b } } },?_,rfl,t.aaV (js':=X.sk.k.js.set k.toNat b) (by rw [Ud]),.chg s.hb rfl⟩⟩;unfold Be;rw [if_pos B];rfl
 .have fT:(X.S.aj.map (·.pre)).Nodup:=by show ((X.groups.map (·.g)).map (·.pre)).Nodup;rw [Uo];exact t.ok.pre
  have m:z∈X.groups.map (·.g.pre):=by apply Yj;intro m;unfold BI at e;rw [if_neg B,show Bo X.S z=none from Gu (by show z ∉ (X.groups.map (·.g)).map (·.pre);rw [Uo];exact m)] at e;cases e
  obtain ⟨i,g,h,rfl⟩:=HL m;have ej:X.S.aj[i]?=some g.g:=by show (X.groups.map (·.g))[i]?=_;rw [T7,h];rfl
  have J:g.g.hs=hs:=by unfold BI at e;rw [if_neg B,show Bo X.S g.g.pre=some g.g from J1 fT ej] at e;exact Uk e
  subst J;have r:=t.t.jI h gc (t.ok.gr g (Ue h));refine ⟨g.p,a.aK,g.ra,g.rb,g.rc,g.g.js,g.g.ts,gc.mem,r.ins,r,.inr ⟨i,g,h,rfl,rfl⟩,λb k=>⟨{ X with groups:=X.groups.set i { g with g:={ g.g with js:=g.g.js.set k.toNat b } } },?_,rfl,t.aaX h (js':=g.g.js.set k.toNat b) (by rw [Ud]),.chg r.hb rfl⟩⟩;unfold Be;rw [if_neg B];exact HX.lH (h:=λy=>{ y with js:=y.js.set k.toNat b }) t.ok.pre h rfl
theorem RS {S:PS}{z:Str}(e:BI S z=none):z≠TK ""/\z ∉ S.aj.map (·.pre):=by
 unfold BI at e;by_cases B:z=TK ""
 .rw [if_pos B] at e;cases e
 .rw [if_neg B] at e;refine ⟨B,λm=>?_⟩;obtain ⟨g,mg,D⟩:=Ua.mp m;unfold Bo at e;rw [uR,ZK] at e;exact e g mg (decide_eq_true D)
end
theorem RT:AR ["self","word","where","k"] ["self","word","where","k"] (Ab (Ad (top 27) 2)):=.of
theorem RV:Nm (Ab (Ad (top 27) 2)) "self":=.of
theorem AgD:Nm (Ab (Ad (top 27) 2)) "word":=.of
theorem RW:Nm (Ab (Ad (top 27) 2)) "where":=.of
theorem RY:Nm (Ab (Ad (top 27) 2)) "k":=.of
theorem AgE (F:AL K "at_switch" "Hall.at_switch" (Ad (top 27) 2) f fd)(T:TxtH P w K mg a)(V:AO P w K mg base (AJ P w) 1 a.ae "switches_of" ["self","where"] (FG K a))(mn:∀ C∈a.bx,AO P w K mg base (AJ P w) 3 C "stick" ["self","k"] (Jv K a true))(mB:∀ C∈a.bx,AO P w K mg base (AJ P w) 3 C "mend" ["self","k"] (Jv K a false)):AE P w K mg base (AJ P w) 4 f fd ["self","word","where","k"] (RR K a):=by
 refine F.bf RT λak A outer s H vs Q E J h=>?_
 .obtain ⟨X,R,b,z,k,rfl,t,Y,q⟩:=h;have cA:=T.cA;have gP:=T.hc.cls;have hu:=J.units;have nd:=RT.nd;refine ⟨_,(@Aj _ _ _ _ _ (AZ (A0 (CC hu) (Aa 1 AgD) Az (A6 _)) (Al (Bm (LJ mn cA (A2 V gP (Aa 0 RV) J.d By (Ac (Aa 2 RW) Af)) J.d By (Ac (Aa 3 RY) Af)))) (Al (Bm (LJ mB cA (A2 V gP (Aa 0 RV) J.d By (Ac (Aa 2 RW) Af)) J.d By (Ac (Aa 3 RY) Af)))))
    (Al (AN (Bn Af)))),?_⟩
  try dsimp only [aC,aD]
  have D:X.S.aj.map (·.pre)=X.groups.map (·.g.pre):=by show (X.groups.map (·.g)).map (·.pre)=_;rw [Uo];rfl
  cases eh:BI X.S z with
  | none =>
   rw [eh] at q;obtain ⟨z0,zn⟩:=RS eh;rw [D] at zn;cases b;all_goals
    walk_at"";refine A4 X.h X.dx _ rfl t.t.aB rfl ?_;walk_at"";exact ⟨X,R,z,rfl,t,Y,λe=>absurd e z0,λi g L e=>absurd (Ua.mpr ⟨g,Ue L,e⟩) zn,λ_ _=>q⟩
  | some hs =>
   rw [eh] at q;dsimp only at q;obtain ⟨p,C,ra,rb,rc,js,ts,mC,⟨dx,fs,ep,F3⟩,rk,O,aZ⟩:=t.aa8 T.sc T.gc eh;have go:∀(cont:VK),cont (.ref p) H->FG K a [.ref X.h,.str z] H cont E:=λcont c=>by
    refine B5 X R z rfl ⟨t,Y,λe=>?_,λi g L e=>?_,λn0 n=>?_⟩
    .rcases O with ⟨_,rfl⟩ | ⟨j,g,I,B,_⟩
     .exact c
     .exact absurd (B.trans e) (t.ok.ne g (Ue I))
    .rcases O with ⟨B,_⟩ | ⟨j,g2,I,B,rfl⟩
     .exact absurd (e.trans B) (t.ok.ne g (Ue L))
     .by_cases ij:i=j
      .subst ij;rw [L] at I;cases I;exact c
      .exact absurd (e.trans B.symm) (D1 t.ok.pre (i:=i) (j:=j) (by rw [T7,L];rfl) (by rw [T7,I];rfl) ij)
    .rcases O with ⟨B,_⟩ | ⟨j,g2,I,B,_⟩
     .exact absurd B n0
     .exact absurd (Ua.mpr ⟨g2,Ue I,B⟩) n
   cases b;all_goals
    walk_at"";refine A4 X.h X.dx _ rfl t.t.aB rfl ?_;walk_at"";dsimp only [BJ];refine go _ ?_;refine AX p C dx fs rfl mC ep (F3.m _ (by decide)) ?_;walk_at"";refine EK p k C ra rb rc hs js ts rfl ⟨rk,?_⟩;by_cases hk:CD k hs=true
    .rw [if_pos hk] at q ⊢;obtain ⟨X',e1,B,t2,p2⟩:=aZ _ k;walk_at"";refine ⟨Aw,λr nr=>?_⟩;exact q _ X' r (t2.new nr) B e1 (p2.trans (.new nr))
    .rw [if_neg hk] at q ⊢;exact q
inductive LW where
 | lift | bp | gap | bq
noncomputable def LW.wo:LW->Str
 | .lift=>"lift" | .bp=>"pulse" | .gap=>"gap" | .bq=>"hang"
noncomputable def LW.cO:LW->List Str
 | .lift=>["rests","rung"] | .bp=>["dials"] | .gap=>["dials"] | .bq=>["waits","dials","rings","talks","told"]
noncomputable def LW.fits (d:LW)(ln:Ln):Bool:=decide (ln.st∈d.cO) && (match d with | .gap=>decide (ln.ag≠0) | _=>true)
def LW.ok (d:LW)(S:PS)(i:Nat)(ln:Ln):Prop:=match d with
 | .lift=>HS S i ln
 | .bp=>bM { S with lns:=S.lns.set i { ln with ag:=ln.ag+1 } } ln.held
 | .gap=>Ia S i ln
 | .bq=>FI S i ln
noncomputable def LW.go (d:LW)(S:PS)(i:Nat)(ln:Ln):List PyData×PS:=match d with
 | .lift=>([(Cf S i ln).1],(Cf S i ln).2)
 | .bp=>CO S i ln
 | .gap=>([(Cq S i ln).1],(Cq S i ln).2)
 | .bq=>CY S i ln
def RZ (K:TH)(a:Ak):Sp:=λvs H Q E=>∃(X:HX)(R:AK)(d:LW)(z:Str),vs=[.ref X.h,.str d.wo,.str z]/\HT K a H X R/\Ok z/\X.q.length<1000 /\
 (z ∉ X.S.lns.map (·.num)->E (.ref a.eT) none H) /\
 ∀(i:Nat)(ln:Ln),X.S.lns[i]?=some ln->ln.num=z->Ok ln.st/\(d.fits ln=false->(d=.gap->ln.st∈d.cO->Ia X.S i ln)/\E (.ref a.fE) none H) /\
  (d.fits ln=true->d.ok X.S i ln/\∀ H' X' r xs,HT K a H' X' ((r,.lst (xs.map V.ref)) :: R)->X'.h=X.h->X'.S=(d.go X.S i ln).2->Ah H H'->B0 K H' xs (d.go X.S i ln).1->Q (.ref r) H')
theorem AgF (z:Str)(ks:List Str):EJ (.str z) (ks.map V.str)=decide (z∈ks):=by
 unfold EJ;rw [List.any_map,We,uL,decide_eq_true_eq];constructor
 .intro B;obtain ⟨k,hk,e⟩:=B;have D:decide (k=z)=true:=by simpa [DT] using e
  rw [<- of_decide_eq_true D];exact hk
 .exact λh=>⟨z,h,by simp [DT]⟩
theorem AgG {S:PS}{i:Nat}{ln:Ln}:Ce (Cf S i ln).1=true:=by
 unfold Cf;split
 .rfl
 .split
  .rfl
  .split<;>rfl
theorem AgH {S:PS}{i:Nat}{ln:Ln}{z:Str}:Ce (CA S i ln z).1=true:=by
 unfold CA;split
 .rfl
 .split<;>rfl
theorem AgI {S:PS}{i:Nat}{ln:Ln}{z:Str}:Ce (BN S i ln z).1=true:=by
 unfold BN;split
 .rfl
 .split
  .rename_i g _ _ _
   show (true && (true && ((true && (true && (bX (CZ g) && true))) && true)))=true;rw [show bX (CZ g)=true from MC _];rfl
  .rfl
theorem AgJ {S:PS}{i:Nat}{ln:Ln}:Ce (Cq S i ln).1=true:=by
 unfold Cq;dsimp only;split
 .exact AgI
 .split
  .rfl
  .exact AgH
theorem R4:AR ["self","word","number","line"] ["self","word","number"] (Ab (Ad (top 27) 3)):=.of
theorem Ib:Nm (Ab (Ad (top 27) 3)) "self":=.of
theorem Ic:Nm (Ab (Ad (top 27) 3)) "word":=.of
theorem AgK:Nm (Ab (Ad (top 27) 3)) "number":=.of
theorem FK:Nm (Ab (Ad (top 27) 3)) "line":=.of
theorem AgL:Gm (Ab (Ad (top 27) 3)) "WAYS":=.of
theorem AgM:Gm (Ab (Ad (top 27) 3)) "NotSo":=.of
theorem AgN (F:AL K "at_line" "Hall.at_line" (Ad (top 27) 3) f fd)(T:TxtG P w K mg a)(mD:AO P w K mg base (AJ P w) 1 a.ae "line_of" ["self","number"] (Ml K a))(aa9:AO P w K mg base AA 3 a.ae "lift" ["self","line"] (Rw K a))(aba:AO P w K mg base (AJ P w) 6 a.ae "hang" ["self","line"] (Rx K a))(abb:AO P w K mg base (AJ P w) 6 a.ae "pulse" ["self","line"] (RL K a))(abc:AO P w K mg base (AJ P w) 7 a.ae "gap" ["self","line"] (RM K a)):AE P w K mg base (AJ P w) 8 f fd ["self","word","number"] (RZ K a):=by
 refine F.bf R4 λak A outer s H vs Q E Y h=>?_
 .obtain ⟨X,R,d,z,rfl,t,zk,qz,q0,q⟩:=h;have abd:=T.hc.cls;have abe:=T.hc.cls;have abf:=T.hc.cls;have abg:=T.hc.cls;have mE:=T.hc.cls;have hu:=Y.units;have nd:=R4.nd;obtain ⟨w1,w2,w3,w4,kd,sq1,sq2,sq3,sq4⟩:=T.cO;have B:X.S.lns.map (·.num)=X.lines.map (·.l.num):=by show (X.lines.map (·.l)).map (·.num)=_;rw [Uo];rfl
  rw [B] at q0;refine ⟨_,(@Aj _ _ _ _ _ (Bb 3 nd FK (A2 mD mE (Aa 0 Ib) Y.d By (Ac (Aa 2 AgK) Af)))
    (Aj (AZ (A0 Acw (Ax (Aa 3 FK) rfl) (BU P w K (Fz (v:=.ref a.fH) AgL T.jL rfl) (Aa 1 Ic)) (by with_unfolding_all rfl)) (Al (CN CM AgM rfl T.lG T.iM (Ac (Fy (Ck Az (Ck (Hn (Aa 1 Ic)) (Ck Az (Ck (Hh (Ax (Aa 3 FK) rfl)) Fx))))) Af))) A5)
    (Aj (AZ (A0 (CC hu) (Aa 1 Ic) Az (A6 _)) (Al (AN (A2 aa9 abd (Aa 0 Ib) Y.d A1 (Ac (Aa 3 FK) Af)))) A5)
    (Aj (AZ (A0 (CC hu) (Aa 1 Ic) Az (A6 _)) (Al (AN (A2 abb abf (Aa 0 Ib) Y.d By (Ac (Aa 3 FK) Af)))) A5)
    (Aj (AZ (A0 (CC hu) (Aa 1 Ic) Az (A6 _)) (Al (AN (A2 abc abg (Aa 0 Ib) Y.d By (Ac (Aa 3 FK) Af)))) A5)
    (Al (AN (A2 aba abe (Aa 0 Ib) Y.d By (Ac (Aa 3 FK) Af))))))))),?_⟩
  try dsimp only [aC,aD]
  have bw:AQ ["self","word","number","line"] [V.ref X.h,V.str d.wo,V.str z]=[some (.ref X.h),some (.str d.wo),some (.str z),none]:=rfl;simp only [bw,UW,UX];walk_at"";refine A4 X.h X.dx _ rfl t.t.aB rfl ?_;walk_at"";refine B5 X R z rfl ⟨t,zk,λi x h ez=>?_,q0⟩;have ej:X.S.lns[i]?=some x.l:=by show (X.lines.map (·.l))[i]?=_;rw [T7,h];rfl
  obtain ⟨sk,qf,qt⟩:=q i x.l ej ez;have gD:=HH sk;have e0:UI.length=0:=rfl;have e1:(TK "no ").length=3:=by decide +kernel
  have e2:(TK " of a line in the way ").length=22:=by decide +kernel
  have lw:d.wo.length<=10:=by cases d<;>decide +kernel
  walk_at"";refine AI x.p a.Line x.dx _ _ rfl (t.t.ax h) T.lc.cls T.lc.st rfl ?_;walk_at"";have key:∃ tw,Bj [((.inr "lift":Av),V.ref w1),(.inr "pulse",.ref w2),(.inr "gap",.ref w3),(.inr "hang",.ref w4)] (.inr d.wo)=some (.ref tw)/\∀ H,Bl K H tw (d.cO.map V.str):=by
   cases d
   .exact ⟨w1,rfl,sq1⟩
   .exact ⟨w2,rfl,sq2⟩
   .exact ⟨w3,rfl,sq3⟩
   .exact ⟨w4,rfl,sq4⟩
  obtain ⟨tw,ev,sqw⟩:=key;refine AX a.fH _ (.inr d.wo) _ rfl rfl (.inr kd) ev ?_;refine T1 (IW tw _ rfl (.inr (sqw _)) rfl (by cases d<;>rfl) ?_);rw [AgF];by_cases hw:x.l.st∈d.cO
  .rw [decide_eq_true hw];cases d with
   | lift =>
    obtain ⟨ok,q⟩:=qt (by unfold LW.fits;rw [decide_eq_true hw];rfl);walk_at"";refine A4 X.h X.dx _ rfl t.t.aB rfl ?_;walk_at"";exact ⟨X,R,i,x,rfl,t,h,qz,ok,λD I r b J L O p ib=>q D I r [b] J L O p (.one ib AgG)⟩
   | bp =>
    obtain ⟨ok,q⟩:=qt (by unfold LW.fits;rw [decide_eq_true hw];rfl);walk_at"";refine A4 X.h X.dx _ rfl t.t.aB rfl ?_;walk_at"";exact ⟨X,R,i,x,rfl,t,h,ok,λD I r xs J L O p td=>q D I r xs J L O p td⟩
   | gap =>
    walk_at"";refine A4 X.h X.dx _ rfl t.t.aB rfl ?_;walk_at"";by_cases hp:x.l.ag=0
    .obtain ⟨ok,e⟩:=qf (by unfold LW.fits;rw [decide_eq_true hw];dsimp only;rw [decide_eq_false (λn=>n hp)];rfl);exact ⟨X,R,i,x,rfl,t,h,ok rfl hw,λ_=>e,λn=>absurd hp n⟩
    .obtain ⟨ok,q⟩:=qt (by unfold LW.fits;rw [decide_eq_true hw];dsimp only;rw [decide_eq_true hp];rfl);exact ⟨X,R,i,x,rfl,t,h,ok,λn=>absurd n hp,λ_ D I r b J L O p ib=>q D I r [b] J L O p (.one ib AgJ)⟩
   | bq =>
    obtain ⟨ok,q⟩:=qt (by unfold LW.fits;rw [decide_eq_true hw];rfl);walk_at"";refine A4 X.h X.dx _ rfl t.t.aB rfl ?_;walk_at"";exact ⟨X,R,i,x,rfl,t,h,qz,ok,λD I r xs J L O p td=>q D I r xs J L O p td⟩
  .rw [decide_eq_false hw];obtain ⟨_,e⟩:=qf (by unfold LW.fits;rw [decide_eq_false hw];rfl);walk_at"";refine ⟨(by simp only [Ba,e0,e1,e2,TY];omega),?_⟩;walk_at"";refine T1 (Dm _ rfl ⟨(by rw [TY];omega),_,rfl,?_⟩);refine ⟨(by simp only [Ba,e0,e1,e2,TY];omega),?_⟩;walk_at"";refine ⟨(by simp only [Ba,e0,e1,e2,TY];omega),?_⟩;walk_at"";refine AI x.p a.Line x.dx _ _ rfl (t.t.ax h) T.lc.cls T.lc.st rfl ?_;walk_at"";refine ⟨(by rw [TY];omega),?_⟩;walk_at"";refine ⟨(by simp only [Ba,e0,e1,e2,TY];omega),?_⟩;refine ⟨(by simp only [Ba,e0,e1,e2,TY];omega),?_⟩;exact ⟨Aw,e⟩
inductive Bf where
 | aZ (b:Bool) (w:Str) (k:Int)
 | line (d:LW) (z:Str)
noncomputable def Bf.vals:Bf->List V
 | .aZ b w k=>[.str (Ep b),.str w,.int k]
 | .line d z=>[.str d.wo,.str z]
inductive Er where
 | gI | iT | mF
noncomputable def Er.adr (a:Ak):Er->Addr
 | .gI=>a.eT | .iT=>a.cb | .mF=>a.fE
noncomputable def Bf.res (S:PS):Bf->Er ⊕ (List PyData×PS)
 | .aZ b w k=>match BI S w with
  | none=>.inl .iT
  | some hs=>if CD k hs=true then .inr ([],Be S b w k) else .inl .iT
 | .line d z=>match S.lns[A3 S.lns z]? with
  | none=>.inl .gI
  | some ln=>if d.fits ln=true then .inr (d.go S (A3 S.lns z) ln) else .inl .mF
def Bf.pre (S:PS):Bf->Prop
 | .aZ _ w _=>Ok w
 | .line d z=>Ok z/\∀ ln,S.lns[A3 S.lns z]?=some ln->Ok ln.st/\(d=.gap->ln.st∈d.cO->Ia S (A3 S.lns z) ln)/\(d.fits ln=true->d.ok S (A3 S.lns z) ln)
noncomputable def aA (S:PS)(dd:Addr):PS:={ S with dn:=S.dn++[.ref dd] }
def J6 (K:TH)(a:Ak):Sp:=λvs H Q E=>∃(X:HX)(R:AK)(d:Bf)(dd:Addr),vs=[.ref X.h,.ref dd]/\HT K a H X R/\H dd=some (.tup d.vals)/\d.pre X.S/\X.q.length<1000 /\
 match d.res X.S with
 | .inl e=>∀ H',Ag H H'->E (.ref (e.adr a)) none H'
 | .inr r=>Dy r.2/\r.2.dn.length<1000000/\r.1.length<=10/\∀ H' X' p xs,HT K a H' X' ((p,.lst (xs.map V.ref)) :: R)->X'.h=X.h->X'.S=(B1 (aA r.2 dd)).2->Ah H H'->B0 K H' xs (r.1++(B1 (aA r.2 dd)).1)->Q (.ref p) H'
theorem At.sub {H:Hp}{C C':AK}(t:At H C)(s:C'.Sublist C):At H C':=⟨λc m=>t.at_ c (s.subset m),(s.map _).nodup t.nd⟩
theorem HT.sub {K:TH}{a:Ak}{H:Hp}{X:HX}{R R':AK}(t:HT K a H X R)(s:R'.Sublist R):HT K a H X R':=⟨t.t.sub ((Yz _).append ((Yz _).append ((Yz _).append ((Yz _).append s)))),t.ok⟩
theorem R5:∀(n:Nat)(S:PS),(aS n S).1.length<=n
 | 0,_=>T3 0
 | n+1,S=>by
  unfold aS;split
  .exact UH _
  .exact Ya (R5 n _)
theorem HT.lA {H:Hp}{X:HX}{R:AK}(t:HT K a H X R)(d':List V):HT K a (upd H X.da (.lst d')) { X with dn:=d' } R/\Ah H (upd H X.da (.lst d')):=by have B:Ah H (upd H X.da (.lst d')):=.chg t.t.dn rfl;exact ⟨⟨t.t.lA,⟨t.ok.num,t.ok.pre,t.ok.ne,λi x h=>(t.ok.lx i x h).av B,t.ok.gr,t.ok.sk⟩⟩,B⟩
theorem R6:AR ["self","deed","answer"] ["self","deed"] (Ab (Ad (top 27) 1)):=.of
theorem J7:Nm (Ab (Ad (top 27) 1)) "self":=.of
theorem FL:Nm (Ab (Ad (top 27) 1)) "deed":=.of
theorem MJ:Nm (Ab (Ad (top 27) 1)) "answer":=.of
theorem AgO (F:AL K "do" "Hall.do" (Ad (top 27) 1) f fd)(T:TxtG P w K mg a)(abh:AO P w K mg base (AJ P w) 4 a.ae "at_switch" ["self","word","where","k"] (RR K a))(abi:AO P w K mg base (AJ P w) 8 a.ae "at_line" ["self","word","number"] (RZ K a))(abj:AO P w K mg base AA 3 a.ae "tones" ["self"] (Rp K a)):AE P w K mg base (AJ P w) 9 f fd ["self","deed"] (J6 K a):=by
 refine F.bf R6 λak A outer s H vs Q E hr h=>?_
 .obtain ⟨X,R,d,D,rfl,t,iU,pre,qz,q⟩:=h;have abk:=T.hc.cls;have abl:=T.hc.cls;have abm:=T.hc.cls;have hu:=hr.units;have nd:=R6.nd;refine ⟨_,(@Aj _ _ _ _ _ (AZ (A0 K0 (Bi Bx (Aa 1 FL) Aq (λ_ _=>rfl)) (BE (Ac Az (Ac Az Af))) (by with_unfolding_all rfl)) (Al (Bb 2 nd MJ (A2 abh abk (Aa 0 J7) hr.d By (Ac (Bi Bx (Aa 1 FL) Aq (λ_ _=>rfl)) (Ac (Bi Bx (Aa 1 FL) Aq (λ_ _=>rfl)) (Ac (Bi Bx (Aa 1 FL) Aq (λ_ _=>rfl)) Af)))))) (Al (Bb 2 nd MJ (A2 abi abl (Aa 0 J7) hr.d By (Ac (Bi Bx (Aa 1 FL) Aq (λ_ _=>rfl)) (Ac (Bi Bx (Aa 1 FL) Aq (λ_ _=>rfl)) Af))))))
    (Aj (Bm (DB VJ V6 V7 DU (Ax (Aa 0 J7) rfl) (Ac (Aa 1 FL) Af)))
    (Al (AN (AD Cr (Aa 2 MJ) (Jd abj abm (Aa 0 J7) hr.d A1)))))),?_⟩
  try dsimp only [aC,aD]
  have bw:AQ ["self","deed","answer"] [V.ref X.h,V.ref D]=[some (.ref X.h),some (.ref D),none]:=rfl;simp only [bw,UW,UX];refine Mw λC hC=>?_;have rest:∀(rr:List PyData×PS),d.res X.S=.inr rr->∀(L:Hp)(B:HX)(r:Addr)(O:List Addr),HT K a L B ((r,.lst (O.map V.ref)) :: R)->B.h=X.h->B.S=rr.2->Ah H L->B0 K L O rr.1->C [some (.ref X.h),some (.ref D),some (.ref r)] L:=by
   intro rr J L B r O t2 eh eS p2 td;rw [J] at q;obtain ⟨cJ,dz,tz,q⟩:=q;rw [hC,<- eh];have eSd:B.dn=rr.2.dn:=by rw [<- eS];rfl
   walk_at"";refine AI B.h a.ae B.dx _ _ rfl t2.t.aB T.hc.cls T.hc.dn rfl ?_;refine ⟨.inl ⟨rfl,_,.of t2.t.dn⟩,?_⟩;walk_at"";refine Cv B.da _ _ rfl rfl t2.t.dn (by rw [TY,eSd];omega) ?_;obtain ⟨t3,p3⟩:=t2.lA (B.dn++[.ref D]);have e3:({ B with dn:=B.dn++[.ref D] }:HX).S=aA rr.2 D:=by show ({ B.S with dn:=B.S.dn++[.ref D] }:PS)=_;rw [eS];rfl
   have q3:Dy (aA rr.2 D):=⟨cJ.nd,cJ.ln,cJ.num,cJ.m0,cJ.m1,cJ.pl,cJ.aJ⟩;generalize upd L B.da (.lst (B.dn++[.ref D]))=H3 at t3 p3 ⊢;have x3:=t3.t.aB;walk_at"";refine A4 B.h B.dx _ rfl x3 rfl ?_;dsimp only [BJ];refine C6 { B with dn:=B.dn++[.ref D] } _ rfl t3 (by rw [e3];exact q3) (λH4 X4 r4 iV d4 gL t4 p4 mG=>?_);rw [e3] at gL mG;have hr4:H4 r4=some (.lst (iV.map V.ref)):=t4.t.rest.hd;have gD:H4 r=some (.lst (O.map V.ref)):=t4.t.rest.tl.hd;have qw:=td.av (p3.trans p4);have f1:=qw.len;have f2:=mG.len;have f3:(B1 (aA rr.2 D)).1.length<=100:=UM (R5 _ _) cJ.aJ;walk_at"";refine T1 (T1 (A9 r r4 _ _ rfl rfl gD hr4 (by rw [TU,TU,TY];omega) (λp np=>?_)));rw [<- Um];have t5:=(t4.new (u:=.lst ((O++iV).map V.ref)) np).sub (R':=(p,.lst ((O++iV).map V.ref)) :: R) (.cons₂ _ (.cons _ (.cons _ (.refl _))));have p5:Ah H4 (upd H4 p (.lst ((O++iV).map V.ref))):=.new np;exact q _ X4 p (O++iV) t5 (d4.trans eh) gL (p2.trans (p3.trans (p4.trans p5))) ((qw.app mG).av p5)
  clear hC
  have atd:∀{H1:Hp}{n:Nat}{v:V},Ag H H1->d.vals[n]?=some v->Bl K H1 D d.vals/\BA d.vals (n:Int)=some v:=λI e=>⟨.of (I _ _ iU),EI e⟩;cases d with
  | aZ b z k =>
   have Y:=q;walk_at"";refine T1 (T9 (AX D _ _ _ rfl rfl (.of iU) rfl ?_));walk_at"";refine ⟨Aw,λu nu=>?_⟩;have I:=(Ag.refl H).upd (o:=.tup [.str "stick",.str "mend"]) nu;have eu:(upd H u (.tup [.str "stick",.str "mend"])) u=some (.tup [.str "stick",.str "mend"]):=Ai;generalize upd H u (.tup [.str "stick",.str "mend"])=H1 at I eu ⊢;refine T1 (IW u _ rfl (.inr (.of eu)) rfl rfl ?_);have ei:EJ (.str (Ep b)) [V.str "stick",V.str "mend"]=true:=by cases b<;>rfl
   rw [ei];have t1:=t.same I;have d1:=I _ _ iU;walk_at"";refine A4 X.h X.dx _ rfl t1.t.aB rfl ?_;walk_at"";refine T1 (T9 (AX D _ _ _ rfl rfl (.of d1) rfl ?_));walk_at"";refine T1 (T9 (AX D _ _ _ rfl rfl (.of d1) rfl ?_));walk_at"";refine T1 (T9 (AX D _ _ _ rfl rfl (.of d1) rfl ?_));dsimp only [BJ];refine Fu X R b z k rfl ⟨t1,pre,?_⟩;cases eh:BI X.S z with
   | none =>
    have J:Bf.res X.S (.aZ b z k)=.inl .iT:=by simp only [Bf.res,eh]
    rw [J] at Y;exact Y H1 I
   | some hs =>
    dsimp only;by_cases hk:CD k hs=true
    .have J:Bf.res X.S (.aZ b z k)=.inr ([],Be X.S b z k):=by simp only [Bf.res,eh,if_pos hk]
     rw [if_pos hk];intro L B r t2 cf cH p2;exact rest _ J L B r [] t2 cf cH ((Ah.of I).trans p2) .nil
    .have J:Bf.res X.S (.aZ b z k)=.inl .iT:=by simp only [Bf.res,eh,if_neg hk]
     rw [J] at Y;rw [if_neg hk];exact Y H1 I
  | line d z =>
   have Y:=q;walk_at"";refine T1 (T9 (AX D _ _ _ rfl rfl (.of iU) rfl ?_));walk_at"";refine ⟨Aw,λu nu=>?_⟩;have I:=(Ag.refl H).upd (o:=.tup [.str "stick",.str "mend"]) nu;have eu:(upd H u (.tup [.str "stick",.str "mend"])) u=some (.tup [.str "stick",.str "mend"]):=Ai;generalize upd H u (.tup [.str "stick",.str "mend"])=H1 at I eu ⊢;refine T1 (IW u _ rfl (.inr (.of eu)) rfl rfl ?_);have ei:EJ (.str d.wo) [V.str "stick",V.str "mend"]=false:=by cases d<;>rfl
   rw [ei];have t1:=t.same I;have d1:=I _ _ iU;walk_at"";refine A4 X.h X.dx _ rfl t1.t.aB rfl ?_;walk_at"";refine T1 (T9 (AX D _ _ _ rfl rfl (.of d1) rfl ?_));walk_at"";refine T1 (T9 (AX D _ _ _ rfl rfl (.of d1) rfl ?_));dsimp only [BJ];refine A9 X R d z rfl t1 pre.1 qz (λzn=>?_) (λi ln ej ez=>?_)
   .have J:Bf.res X.S (.line d z)=.inl .gI:=by simp only [Bf.res,RG zn]
    rw [J] at Y;exact Y H1 I
   .have fS:=t.jP ej;rw [ez] at fS;have gM:X.S.lns[A3 X.S.lns z]?=some ln:=by rw [fS];exact ej
    obtain ⟨k1,k2,k3⟩:=pre.2 ln gM;rw [fS] at k2 k3;refine ⟨k1,λhf=>⟨k2,?_⟩,λhf=>⟨k3 hf,λL B r O t2 cf cH p2 td=>?_⟩⟩
    .have J:Bf.res X.S (.line d z)=.inl .mF:=by simp only [Bf.res,gM,if_neg (show ¬ d.fits ln=true by rw [hf];exact UG)]
     rw [J] at Y;exact Y H1 I
    .have J:Bf.res X.S (.line d z)=.inr (d.go X.S i ln):=by simp only [Bf.res,fS,ej,if_pos hf]
     exact rest _ J L B r O t2 cf cH ((Ah.of I).trans p2) td
def R7 (K:TH)(a:Ak)(sel:LX->V):Sp:=λvs H Q E=>∃(X:HX)(R:AK)(z:Str),vs=[.ref X.h,.str z]/\HT K a H X R/\Ok z /\
 (∀(i:Nat)(x:LX),X.lines[i]?=some x->x.l.num=z->Q (sel x) H)/\(z ∉ X.lines.map (·.l.num)->E (.ref a.eT) none H)
theorem AgP:AR ["self","line"] ["self","line"] (Ab (Ad (top 27) 18)):=.of
theorem AgQ:Nm (Ab (Ad (top 27) 18)) "self":=.of
theorem AgR:Nm (Ab (Ad (top 27) 18)) "line":=.of
theorem AgS (F:AL K "way" "Hall.way" (Ad (top 27) 18) f fd)(T:TxtH P w K mg a)(B:AO P w K mg base (AJ P w) 1 a.ae "line_of" ["self","number"] (Ml K a)):AE P w K mg base (AJ P w) 2 f fd ["self","line"] (R7 K a λx=>.str x.l.st):=by
 refine F.bf AgP λV A outer s H vs Q E D h=>?_
 .obtain ⟨X,R,z,rfl,t,I,q,J⟩:=h;have L:=T.hc.cls;refine ⟨_,(@Al _ _ _ (AN (Ax (A2 B L (Aa 0 AgQ) D.d By (Ac (Aa 1 AgR) Af)) rfl))),?_⟩;try dsimp only [aC,aD]
  walk_at"";refine A4 X.h X.dx _ rfl t.t.aB rfl ?_;walk_at"";refine B5 X R z rfl ⟨t,I,λi x h O=>?_,J⟩;exact ⟨x.p,a.Line,x.dx,_,_,rfl,t.t.ax h,T.lc.cls,T.lc.st,rfl,q i x h O⟩
noncomputable def Ay (S:PS)(z:Str):Option (List V×List Bool×List Int):=if z=TK "" then some (S.sk.hs,S.sk.js,S.sk.ts) else (Bo S z).map λg=>(g.hs,g.js,g.ts)
noncomputable def Gv (S:PS):V->V
 | .int i=>match S.lns[i.toNat]? with
  | none=>.aa
  | some ln=>.str ln.num
 | _=>.aa
def Ie (S:PS):Prop:=∀ v∈S.sk.hs,v=.aa\/∃ i:Nat,v=.int i/\i<S.lns.length
noncomputable def J8 (S:PS)(z:Str)(r:List V×List Bool×List Int):List V:=BY (if z=TK "" then r.1.map (Gv S) else r.1) (λk=>r.2.1.getD k false) r.1.length
section
variable {K:TH}{a:Ak}{H:Hp}{X:HX}{R:AK}
theorem HT.rk (t:HT K a H X R)(sc:ET K a a.aM)(gc:El K a a.aK){z:Str}(J:Ok z){r:List V×List Bool×List Int}(e:Ay X.S z=some r) :
  ∃ p C Y rb rc,C∈a.bx/\Co K a H p C Y rb rc r.1 r.2.1 r.2.2/\∀(c:VK)(E:XK),c (.ref p) H->FG K a [.ref X.h,.str z] H c E:=by
 have eh:BI X.S z=some r.1:=by
  unfold Ay at e;unfold BI;by_cases B:z=TK ""
  .rw [if_pos B] at e ⊢;cases e;rfl
  .rw [if_neg B] at e ⊢;obtain ⟨g,e1,D⟩:=UU.mp e;rw [e1,<- D];rfl
 by_cases B:z=TK ""
 .have s:=t.t.jK sc t.ok.sk;have I:r=(X.sk.k.hs,X.sk.k.js,X.sk.k.ts):=by
   unfold Ay at e;rw [if_pos B] at e;exact (Uk e).symm
  subst I;refine ⟨X.sk.p,a.aM,_,_,_,sc.c.mem,s.r,λc E h=>⟨X,R,z,rfl,t,J,λ_=>h,λi g hi D=>absurd (D.trans B) (t.ok.ne g (Ue hi)),λn0 _=>absurd B n0⟩⟩
 .have fT:(X.S.aj.map (·.pre)).Nodup:=by show ((X.groups.map (·.g)).map (·.pre)).Nodup;rw [Uo];exact t.ok.pre
  have m:z∈X.groups.map (·.g.pre):=by apply Yj;intro m;unfold Ay at e;rw [if_neg B,show Bo X.S z=none from Gu (by show z ∉ (X.groups.map (·.g)).map (·.pre);rw [Uo];exact m)] at e;cases e
  obtain ⟨i,g,h,rfl⟩:=HL m;have ej:X.S.aj[i]?=some g.g:=by show (X.groups.map (·.g))[i]?=_;rw [T7,h];rfl
  have I:r=(g.g.hs,g.g.js,g.g.ts):=by unfold Ay at e;rw [if_neg B,show Bo X.S g.g.pre=some g.g from J1 fT ej] at e;exact (Uk e).symm
  subst I;have rk:=t.t.jI h gc (t.ok.gr g (Ue h));refine ⟨g.p,a.aK,_,_,_,gc.mem,rk,λc E hc=>⟨X,R,g.g.pre,rfl,t,J,λe0=>absurd e0 B,λj g2 L D=>?_,λ_ n=>absurd m n⟩⟩;by_cases O:j=i
  .subst O;rw [L] at h;cases h;exact hc
  .exact absurd D (D1 t.ok.pre (i:=j) (j:=i) (by rw [T7,L];rfl) (by rw [T7,h];rfl) O)
theorem MK {S:PS}{z:Str}(e:Ay S z=none):z≠TK ""/\z ∉ S.aj.map (·.pre):=by
 refine RS ?_;unfold Ay at e;unfold BI;by_cases B:z=TK ""
 .rw [if_pos B] at e;cases e
 .rw [if_neg B] at e ⊢;rw [uR] at e ⊢;exact e
theorem HT.qx (t:HT K a H X R){z:Str}(I:Ok z)(e:Ay X.S z=none)(c:VK){E:XK}(h:E (.ref a.cb) none H):FG K a [.ref X.h,.str z] H c E:=by
 obtain ⟨J,D⟩:=MK e;have B:X.S.aj.map (·.pre)=X.groups.map (·.g.pre):=by show (X.groups.map (·.g)).map (·.pre)=_;rw [Uo];rfl
 rw [B] at D;exact ⟨X,R,z,rfl,t,I,λe=>absurd e J,λi g L e=>absurd (Ua.mpr ⟨g,Ue L,e⟩) D,λ_ _=>h⟩
end
def R8 (K:TH)(a:Ak):Sp:=λvs H Q E=>∃(X:HX)(R:AK)(z:Str),vs=[.ref X.h,.str z]/\HT K a H X R/\Ok z /\
 match Ay X.S z with
 | none=>E (.ref a.cb) none H
 | some r=>∀ l,H l=none->Q (.ref l) (upd H l (.lst (r.2.2.map V.int)))
def R9 (K:TH)(a:Ak):Sp:=λvs H Q E=>∃(X:HX)(R:AK)(z:Str),vs=[.ref X.h,.str z]/\HT K a H X R/\Ok z/\Ie X.S /\
 match Ay X.S z with
 | none=>E (.ref a.cb) none H
 | some r=>∀ H' t,Ag H H'->H' t=some (.tup (J8 X.S z r))->Q (.ref t) H'
theorem AgT:AR ["self","where"] ["self","where"] (Ab (Ad (top 27) 24)):=.of
theorem AgU:Nm (Ab (Ad (top 27) 24)) "self":=.of
theorem AgV:Nm (Ab (Ad (top 27) 24)) "where":=.of
theorem AgW (F:AL K "shares" "Hall.shares" (Ad (top 27) 24) f fd)(T:TxtH P w K mg a)(I:AO P w K mg base (AJ P w) 1 a.ae "switches_of" ["self","where"] (FG K a))(J:∀ C∈a.bx,AO P w K mg base AA 1 C "shares" ["self"] (P9 K a)):AE P w K mg base (AJ P w) 2 f fd ["self","where"] (R8 K a):=by
 refine F.bf AgT λak A outer s H vs Q E B h=>?_
 .obtain ⟨X,R,z,rfl,t,D,q⟩:=h;have cA:=T.cA;have L:=T.hc.cls;refine ⟨_,(@Al _ _ _ (AN (LK J cA (A2 I L (Aa 0 AgU) B.d By (Ac (Aa 1 AgV) Af)) B.d A1))),?_⟩;try dsimp only [aC,aD]
  walk_at"";refine A4 X.h X.dx _ rfl t.t.aB rfl ?_;walk_at"";dsimp only [BJ];cases er:Ay X.S z with
  | none=>rw [er] at q;exact t.qx D er _ q
  | some r =>
   rw [er] at q;obtain ⟨p,C,O,V,Y,mC,rk,go⟩:=t.rk T.sc T.gc D er;obtain ⟨dx,fs,ep,F3⟩:=rk.ins;refine go _ _ ?_;refine AX p C dx fs rfl mC ep (F3.m _ (by decide)) ?_;exact ⟨p,C,O,V,Y,_,_,_,rfl,rk,q⟩
theorem AgX (X:HX):(X.fO.map λkv=>kV kv.1)=X.S.lns.map λln=>V.str ln.num:=by show ((X.lines.map _).map _)=((X.lines.map (·.l)).map _);rw [Uo,Uo];rfl
theorem Sa:AR ["self","where","switches","holders","numbers"] ["self","where"] (Ab (Ad (top 27) 23)):=.of
theorem Sb:Nm (Ab (Ad (top 27) 23)) "self":=.of
theorem Sd:Nm (Ab (Ad (top 27) 23)) "where":=.of
theorem MM:Nm (Ab (Ad (top 27) 23)) "switches":=.of
theorem J9:Nm (Ab (Ad (top 27) 23)) "holders":=.of
theorem AgY:Hm (Ab (Ad (top 27) 23)) "numbers":=by walk_at "k"
theorem AgZ:Gm (Ab (Ad (top 27) 23)) "paper_of":=.of
theorem Ag0:Gm (Ab (Ad (top 27) 23)) "AT_SEEKERS":=.of
theorem Ag1:Gm (Ab (Ad (top 27) 23)) "list":=.of
noncomputable def MN:Scope:={ kind:=.function,names:=[(".0",.local),("place",.local),("numbers",.free)],isGenerator:=false,isCoroutine:=false,more:=[] }
theorem Se:Bh MN (Ab (Ad (top 27) 23)) ["place","numbers"] ["self","where","switches","holders","numbers"] [none,some 4]:=Bh.mk' rfl (by decide +kernel) (by decide +kernel) (by decide +kernel) (by decide +kernel) rfl (by decide +kernel)
theorem MO:Nm MN "place":=.of
theorem Ag2:EO MN "numbers":=by walk_at "k"
theorem Ag3 (F:AL K "paper" "Hall.paper" (Ad (top 27) 23) f fd)(T:TxtH P w K mg a)(gO:AO P w K mg base (AJ P w) 1 a.ae "switches_of" ["self","where"] (FG K a))(gE:∀ C∈a.bx,AO P w K mg base AA 1 C "holders" ["self"] (LQ K a))(gG:∀ C∈a.bx,AO P w K mg base AA 1 C "stuck" ["self"] (L4 K a))(gH:BX P w K mg base AA 1 "paper_of" ["holders","stuck"] (JA K)):AE P w K mg base (AJ P w) 2 f fd ["self","where"] (R9 K a):=by
 refine F.bf Sa λak A outer s H vs Q E hr h=>?_
 .obtain ⟨X,R,z,rfl,t,zk,ho,q⟩:=h;have cA:=T.cA;have gP:=T.hc.cls;have hu:=hr.units;have nd:=Sa.nd;refine ⟨_,(@Aj _ _ _ _ _ (Bb 2 nd MM (A2 gO gP (Aa 0 Sb) hr.d By (Ac (Aa 1 Sd) Af)))
    (Aj (Bb 3 nd J9 (LK gE cA (Aa 2 MM) hr.d A1))
    (Aj (AZ (A0 (CC hu) (Aa 1 Sd) (Hr Ag0 T.iL) (A6 _)) (Aj (O8 4 nd AgY (Cy (Ad3 rfl) Ag1 T.fJ Hi (Ac (Ax (Aa 0 Sb) rfl) Af)))
     (Al (O1 (j:=3) rfl nd rfl (T9 J9.loc) Se (Ds (Aa 3 J9)) (λcl C fp pins s₂ H₂=>(Bt 0 Se.nd MO.comp)) (λcl C fp pins s₂ H₂=>DD) (λcl C fp pins s₂ H₂=>(KD (A0 EF (Aa 0 MO.comp) B8 (A6 _)) B8 (Bi (ER K rfl) (EN 1 Ag2.comp) (Aa 0 MO.comp) (λ_ _=>rfl)))) (by rfl) (by intro _;rfl) (T9 rfl)))) A5)
    (Al (AN (BS gH AgZ hr.d A1 (Ac (Aa 3 J9) (Ac (LK gG cA (Aa 2 MM) hr.d A1) Af)))))))),?_⟩
  try dsimp only [aC,aD]
  have bw:AQ ["self","where","switches","holders","numbers"] [V.ref X.h,V.str z]=[some (.ref X.h),some (.str z),none,none,none]:=rfl;simp only [bw,UW,UX];walk_at"";refine A4 X.h X.dx _ rfl t.t.aB rfl ?_;walk_at"";dsimp only [BJ];cases er:Ay X.S z with
  | none=>rw [er] at q;exact t.qx zk er _ q
  | some r =>
   rw [er] at q;dsimp only at q;obtain ⟨p,C,ra,rb,rc,mC,rk,go⟩:=t.rk T.sc T.gc zk er;obtain ⟨dx,fs,ep,F3⟩:=rk.ins;refine go _ _ ?_;walk_at"";refine AX p C dx fs rfl mC ep (F3.m _ (by decide)) ?_;refine F6 p C ra rb rc _ _ _ rfl ⟨rk,λl nl=>?_⟩;have s1:=(Ag.refl H).upd (o:=.lst r.1) nl;have e1:(upd H l (.lst r.1)) l=some (.lst r.1):=Ai;generalize upd H l (.lst r.1)=H1 at s1 e1 ⊢;have t1:=t.same s1;walk_at"";have last:∀(B:Hp)(D:Addr)(I:List V),Ag H B->B D=some (.lst I)->I=(if z=TK "" then r.1.map (Gv X.S) else r.1)->∀(L:Hp)(u:Addr),Ag B L->L u=some (.lst ((DI r.2.1 r.2.1.length).map V.int))->JA K [.ref D,.ref u] L Q E0:=by
    intro B D I s3 e3 eh L u Y e4;have hl:I.length=r.1.length:=by rw [eh];split<;>simp
    refine AX D u I _ rfl (Y _ _ e3) e4 (by rw [hl];exact rk.z) (λH5 tt s5 nt e5=>?_);refine q H5 tt (s3.trans (Y.trans s5)) ?_;rw [e5,hl];unfold J8;rw [<- eh];exact congrArg (λy=>some (HO.tup y)) (Q0 λk hk=>Qt (by rw [rk.lj];exact hk))
   by_cases z0:z=TK ""
   .have ehs:r.1=X.sk.k.hs:=by
     unfold Ay at er;rw [if_pos z0] at er;rw [<- Uk er];rfl
    have ho1:∀ v∈r.1,v=.aa\/∃ i:Nat,v=.int i/\i<X.S.lns.length:=by rw [ehs];exact ho
    refine DV (decide_eq_true (congrArg V.str z0)) ?_;walk_at"";refine AI X.h a.ae X.dx _ _ rfl t1.t.aB T.hc.cls T.hc.li rfl ?_;walk_at"";refine BL X.ld _ rfl (.of t1.t.ld) (λnm nnm=>?_);rw [AgX];have s2:=(Ag.refl H1).upd (o:=.lst (X.S.lns.map λJ=>V.str J.num)) nnm;have e2:(upd H1 nm (.lst (X.S.lns.map λJ=>V.str J.num))) nm=some (.lst (X.S.lns.map λJ=>V.str J.num)):=Ai;generalize upd H1 nm (.lst (X.S.lns.map λJ=>V.str J.num))=H2 at s2 e2 ⊢;have cD:=s2 _ _ e1;walk_at"";refine ⟨⟨_,.of cD⟩,λD nD=>?_⟩;refine Jg (K:=K) (a:=l) (xs:=r.1) (λi σ B=>∃ x,σ=[x,some (.ref nm)]/\Ag H2 B/\B D=some (.lst ((r.1.take i).map (Gv X.S)))) ⟨none,rfl,(Ag.refl H2).upd nD,Ai⟩ (λi σ B _ ⟨_,_,O,_⟩=>.of (O _ _ cD)) ?_ ?_
    .intro i x σ B hi zq;obtain ⟨x0,rfl,O,hL⟩:=zq;have et:r.1.take (i+1)=r.1.take i++[x]:=by rw [VB,hi];rfl
     have len:((r.1.take i).map (Gv X.S)).length<sizeLine:=by rw [TU,Vt,TY];have:=rk.z;omega
     rcases ho1 x (Ue hi) with rfl | ⟨j,rfl,jl⟩
     .walk_at"";refine ⟨_,hL,len,_,rfl,O.bI nD,?_⟩;rw [Ai,et,Um];rfl
     .have hj:X.S.lns[j]?=some X.S.lns[j]:=Ug jl;have ej:Gv X.S (.int j)=.str X.S.lns[j].num:=by
       show (match X.S.lns[((j:Nat):Int).toNat]? with | none=>V.aa | some J=>.str J.num)=_;rw [Vo,hj]
      walk_at"";refine T9 (AX nm _ _ _ rfl rfl (.of (O _ _ e2)) (EI (j:=j) (by rw [T7,hj];rfl)) ?_);refine ⟨_,hL,len,_,rfl,O.bI nD,?_⟩;rw [Ai,et,Um];show some (HO.lst (_++[_]))=some (HO.lst (_++[Gv X.S (.int j)]));rw [ej]
    .intro σ B zq;obtain ⟨x0,rfl,O,hL⟩:=zq;rw [VC] at hL;have s3:Ag H B:=s1.trans (s2.trans O);have qy:=rk.same s3;obtain ⟨lP,fs3,qp,F33⟩:=qy.ins;walk_at"";refine AX p C lP fs3 rfl mC qp (F33.m _ (by decide)) ?_;refine F6 p C ra rb rc _ _ _ rfl ⟨qy,λL u Y nu e4=>?_⟩;dsimp only [BJ];exact last B D _ s3 hL (by rw [if_pos z0]) L u Y e4
   .refine Dl (decide_eq_false (λe=>z0 (V.str.inj e))) ?_;have iS:=rk.same s1;obtain ⟨dx1,fs1,dw,F31⟩:=iS.ins;walk_at"";refine AX p C dx1 fs1 rfl mC dw (F31.m _ (by decide)) ?_;refine F6 p C ra rb rc _ _ _ rfl ⟨iS,λL u Y nu e4=>?_⟩;dsimp only [BJ];exact last H1 l r.1 s1 e1 (by rw [if_neg z0]) L u Y e4
noncomputable def AV (S:PS)(p:Str×Int):Option V:=(BI S p.1).bind λhs=>if 0<=p.2 then hs[p.2.toNat]? else none
noncomputable def D6 (w:Str)(i:Nat)(z:Str):V:=if w=TK "" then .int i else .str z
theorem Ag4 {w:Str}{i j:Nat}{y z:Str}(n:i≠j)(m:y≠z):D6 w i y≠D6 w j z:=by
 unfold D6;split
 .exact λe=>n (Int.ofNat.inj (V.int.inj e))
 .exact λe=>m (V.str.inj e)
theorem FN {w:Str}{i:Nat}{z:Str}:D6 w i z≠.aa:=by unfold D6;split<;>exact λe=>nomatch e
theorem Sf {S:PS}{p:Str×Int}{v:V}(e:AV S p=some v):0<=p.2:=by
 unfold AV at e;cases h:BI S p.1 with
 | none=>rw [h] at e;cases e
 | some hs =>
  rw [h] at e;by_cases z:0<=p.2
  .exact z
  .rw [YA,if_neg z] at e;cases e
theorem MQ {S:PS}{z:Str}{g:Gr}(e:Bo S z=some g):g∈S.aj/\g.pre=z:=⟨uM e,by have:=uN (show S.aj.find? (λg=>decide (g.pre=z))=some g from e);exact of_decide_eq_true this⟩
theorem Sg {hs:List V}{k:Int}{v:V}(e:(if 0<=k then hs[k.toNat]? else none)=some v):CD k hs=true/\hs.getD k.toNat .aa=v:=by
 by_cases z:0<=k
 .rw [if_pos z] at e;have l:=(Uy.mp e).1;exact ⟨Hx.mpr ⟨z,by omega⟩,by rw [UO,e];rfl⟩
 .rw [if_neg z] at e;cases e
theorem Ag5 {S:PS}{p:Str×Int}{v:V}(e:AV S p=some v)(n:v≠.aa):EW S p.1 p.2:=by
 unfold AV BI at e;unfold EW;by_cases z:p.1=TK ""
 .rw [if_pos z] at e ⊢;obtain ⟨a,b⟩:=Sg e;exact ⟨a,by rw [b];exact n⟩
 .rw [if_neg z] at e ⊢;cases h:Bo S p.1 with
  | none=>rw [h] at e;cases e
  | some g =>
   rw [h] at e;obtain ⟨a,b⟩:=Sg (hs:=g.hs) e;exact ⟨g,(MQ h).1,(MQ h).2,a,by rw [b];exact n⟩
theorem FO {S:PS}{w z:Str}{h:Gr->Gr}(B:∀ g,(h g).pre=g.pre):Bo { S with aj:=S.aj.map λg=>if g.pre=w then h g else g } z=(Bo S z).map λg=>if z=w then h g else g:=by
 show (S.aj.map _).find? _=(S.aj.find? _).map _;induction S.aj with
 | nil=>rfl
 | cons y l ih =>
  rw [U4,VI,VI];have e:(if y.pre=w then h y else y).pre=y.pre:=by split;exact B y;rfl
  rw [e];by_cases c:y.pre=z
  .rw [decide_eq_true c,<- c];rfl
  .rw [decide_eq_false c];exact ih
theorem Sh {S:PS}{p t:Str×Int}(g:0<=t.2)(n:p≠t):AV (aT S t.1 t.2) p=AV S p:=by
 have B:∀ hs:List V,p.1=t.1->(if 0<=p.2 then (hs.set t.2.toNat .aa)[p.2.toNat]? else none)=(if 0<=p.2 then hs[p.2.toNat]? else none):=λhs e=>by
  by_cases z:0<=p.2
  .rw [if_pos z,if_pos z,Ut];intro D;exact n (XI e (by omega))
  .rw [if_neg z,if_neg z]
 unfold AV BI aT;by_cases z:p.1=TK ""
 .rw [if_pos z,if_pos z];by_cases y:t.1=TK ""
  .rw [if_pos y];exact B _ (z.trans y.symm)
  .rw [if_neg y]
 .rw [if_neg z,if_neg z];by_cases y:t.1=TK ""
  .rw [if_pos y];rfl
  .rw [if_neg y,FO (h:=λg=>{ g with hs:=g.hs.set t.2.toNat .aa }) λ_=>rfl];cases Bo S p.1 with
   | none=>rfl
   | some g =>
    rw [U7,U7,YA,U7,YA];by_cases e:p.1=t.1
    .rw [if_pos e];exact B _ e
    .rw [if_neg e]
theorem EZ:∀{ts:List (Str×Int)}{S:PS}{p:Str×Int},(∀ t∈ts,0<=t.2)->p ∉ ts->AV (aF S ts) p=AV S p
 | [],_,_,_,_=>rfl
 | t :: ts,S,p,g,n=>(EZ (λt m=>g t (Uu _ m)) (λm=>n (Uu _ m))).trans (Sh (g t UC) λe=>n (e▸UC))
theorem Gw:∀{ts:List (Str×Int)}{S:PS},ts.Nodup->(∀ p∈ts,∃ v,AV S p=some v/\v≠.aa)->bM S ts
 | [],_,_,_=>trivial
 | t :: ts,S,B,h=>by
  obtain ⟨v,e,n⟩:=h t UC;have B:=Uv.mp B;refine ⟨Ag5 e n,Gw B.2 λp m=>?_⟩;obtain ⟨u,f,k⟩:=h p (Uu _ m);exact ⟨u,by rw [Sh (Sf e) (λz=>B.1 (z▸m))];exact f,k⟩
def FP (ns:List Str)(g:Gr):Prop:=∀ v∈g.hs,v=.aa\/∃ z∈ns,v=.str z
theorem FP.s {ns:List Str}{g:Gr}(h:FP ns g):MB g:=λv m=>(h v m).imp id λ⟨z,_,e⟩=>⟨z,e⟩
structure WG (S:PS):Prop where
 num:(S.lns.map (·.num)).Nodup
 pre:(S.aj.map (·.pre)).Nodup
 ne:∀ g∈S.aj,g.pre≠TK ""
 aJ:S.lns.length<=60
 pos:0<S.lns.length
 cZ:S.q.Nodup
 dy:∀ z∈S.q,z∈S.lns.map (·.num)
 m0:0<=S.sk.mark
 m1:S.sk.mark<S.sk.hs.length
 pl:S.sk.places=S.lns.length
 hs:Ie S
 hg:∀ g∈S.aj,FP (S.lns.map (·.num)) g
 go:∀ g∈S.aj,FE g
 so:Gq S.sk
 tx:∀ z∈S.lns.map (·.num),Ok z/\0<z.length
 px:∀ g∈S.aj,Ok g.pre
 lo:2<=S.long
 hi:S.long<=9
 tl:∀ z∈S.lns.map (·.num),(z.length:Int)=S.long
 pz:∀ g∈S.aj,(g.pre.length:Int)<=S.long - 2
theorem Ie.num {S S':PS}(h:Ie S)(e:S'.sk.hs=S.sk.hs)(l:S'.lns.length=S.lns.length):Ie S':=λv m=>by rw [l];exact h v (e▸m)
theorem Ig {l B:List Ln}(e:B.map (·.num)=l.map (·.num)):B.length=l.length:=by have:=congrArg WQ e;rwa [TU,TU] at this
theorem WG.lns {S:PS}(w:WG S){l:List Ln}(e:l.map (·.num)=S.lns.map (·.num)):WG { S with lns:=l } :=
 ⟨by show (l.map _).Nodup;rw [e];exact w.num,w.pre,w.ne,by show l.length<=60;rw [Ig e];exact w.aJ,by show 0<l.length;rw [Ig e];exact w.pos,w.cZ,λz m=>by show z∈l.map _;rw [e];exact w.dy z m,w.m0,w.m1,by show S.sk.places=(l.length:Int);rw [Ig e];exact w.pl,w.hs.num rfl (Ig e),(by show ∀ g∈S.aj,FP (l.map (·.num)) g;rw [e];exact w.hg),w.go,w.so,(by show ∀ z∈l.map (·.num),_;rw [e];exact w.tx),w.px,w.lo,w.hi,(by show ∀ z∈l.map (·.num),_;rw [e];exact w.tl),w.pz⟩
theorem WG.dv {S:PS}(w:WG S){q:List Str}(B:q.Nodup)(i:∀ z∈q,z∈S.lns.map (·.num)):WG { S with q:=q }:=⟨w.num,w.pre,w.ne,w.aJ,w.pos,B,i,w.m0,w.m1,w.pl,w.hs,w.hg,w.go,w.so,w.tx,w.px,w.lo,w.hi,w.tl,w.pz⟩
theorem WG.abn {S:PS}(w:WG S){d:List V}:WG { S with dn:=d }:=⟨w.num,w.pre,w.ne,w.aJ,w.pos,w.cZ,w.dy,w.m0,w.m1,w.pl,w.hs,w.hg,w.go,w.so,w.tx,w.px,w.lo,w.hi,w.tl,w.pz⟩
theorem WG.mI {S:PS}(w:WG S){k:Sk}(p:k.places=S.sk.places)(B:0<=k.mark)(D:k.mark<k.hs.length)(h:∀ v∈k.hs,v=.aa\/∃ i:Nat,v=.int i/\i<S.lns.length)(H:Gq k):WG { S with sk:=k }:=⟨w.num,w.pre,w.ne,w.aJ,w.pos,w.cZ,w.dy,B,D,p.trans w.pl,h,w.hg,w.go,H,w.tx,w.px,w.lo,w.hi,w.tl,w.pz⟩
theorem WG.mJ {S:PS}(w:WG S){z:Str}{h:Gr->Gr}(B:∀ g,(h g).pre=g.pre)(H:∀ g,FP (S.lns.map (·.num)) g->FP (S.lns.map (·.num)) (h g))(I:∀ g,FE g->FE (h g)):WG { S with aj:=S.aj.map λg=>if g.pre=z then h g else g }:=by
 have J:(S.aj.map λg=>if g.pre=z then h g else g).map (·.pre)=S.aj.map (·.pre):=by
  rw [Uo];refine WV λg _=>?_;show (if g.pre=z then h g else g).pre=g.pre;split
  .exact B g
  .rfl
 have all:∀{p:Gr->Prop},(∀ g,p g->p (h g))->(∀ g∈S.aj,p g)->∀ g∈(S.aj.map λg=>if g.pre=z then h g else g),p g:=λ{p} f a g m=>by
  obtain ⟨y,D,rfl⟩:=Ua.mp m;split
  .exact f y (a y D)
  .exact a y D
 exact ⟨w.num,by show (VU _ (S.aj.map _)).Nodup;rw [J];exact w.pre,all (p:=λg=>g.pre≠TK "") (λg n=>by rw [B];exact n) w.ne,w.aJ,w.pos,w.cZ,w.dy,w.m0,w.m1,w.pl,w.hs,all H w.hg,all I w.go,w.so,w.tx,all (p:=λg=>Ok g.pre) (λg n=>by rw [B];exact n) w.px,w.lo,w.hi,w.tl,all (p:=λg=>(g.pre.length:Int)<=S.long - 2) (λg n=>by rw [B];exact n) w.pz⟩
theorem Ka {α:Type}{l:List α}{i:Nat}{x y:α}(h:y∈l.set i x):y=x\/y∈l:=(Yx h).symm
theorem WG.aT {S:PS}(w:WG S)(z:Str)(k:Int):WG (aT S z k):=by
 unfold Lw.aT;split
 .exact w.mI rfl w.m0 (by show _<((S.sk.hs.set _ _).length:Int);rw [Ud];exact w.m1) (λv m=>(Ka m).elim .inl (w.hs v)) ⟨by rw [Ud];exact w.so.lj,by rw [Ud];exact w.so.lt,by rw [Ud];exact w.so.ls,by rw [Ud];exact w.so.lw,by rw [Ud];exact w.so.z⟩
 .exact w.mJ (h:=λg=>{ g with hs:=g.hs.set k.toNat .aa }) (λ_=>rfl) (λg a v m=>(Ka m).elim .inl (a v)) λg a=>⟨by rw [Ud];exact a.lj,by rw [Ud];exact a.lt,by rw [Ud];exact a.z⟩
theorem WG.aF:∀(ts:List (Str×Int)){S:PS},WG S->WG (aF S ts)
 | [],_,w=>w
 | t :: ts,_,w=>WG.aF ts (w.aT t.1 t.2)
theorem WG.aZ {S:PS}(w:WG S)(b:Bool)(z:Str)(k:Int):WG (Be S b z k):=by
 unfold Be;split
 .exact w.mI rfl w.m0 w.m1 w.hs ⟨by rw [Ud];exact w.so.lj,w.so.lt,w.so.ls,w.so.lw,w.so.z⟩
 .exact w.mJ (h:=λg=>{ g with js:=g.js.set k.toNat b }) (λ_=>rfl) (λg a=>a) λg a=>⟨by rw [Ud];exact a.lj,a.lt,a.z⟩
theorem WG.bA {S:PS}(w:WG S)(z B:Str)(k:Int)(D:B∈S.lns.map (·.num)):WG { S with aj:=S.aj.map λy=>if y.pre=z then bA y k B else y } :=
 w.mJ (h:=λg=>Lw.bA g k B) (λ_=>rfl) (λg a v m=>(Ka m).elim (λe=>.inr ⟨B,D,e⟩) (a v)) λg a=>⟨by show g.js.length=(g.hs.set _ _).length;rw [Ud];exact a.lj,by show (g.ts.set _ _).length=(g.hs.set _ _).length;rw [Ud,Ud];exact a.lt,by show (g.hs.set _ _).length<=1000;rw [Ud];exact a.z⟩
theorem WG.bS {S:PS}(w:WG S){k:Int}{i:Nat}(B:i<S.lns.length):WG { S with sk:=bS S.sk k i }:=by
 have lt:((S.sk.hs.set k.toNat (.int i)).length:Int)=S.sk.hs.length:=by rw [Ud]
 have D:=w.m0;have H:=w.m1;refine w.mI rfl (WX _ (by omega)) (by show (k+1) % (S.sk.hs.length:Int)<((S.sk.hs.set _ _).length:Int);rw [lt];exact WY _ (by omega)) (λv m=>(Ka m).elim (λe=>.inr ⟨i,e,B⟩) (w.hs v)) ⟨?_,?_,?_,?_,?_⟩
 .show S.sk.js.length=(S.sk.hs.set _ _).length;rw [Ud];exact w.so.lj
 .show (S.sk.ts.set _ _).length=(S.sk.hs.set _ _).length;rw [Ud,Ud];exact w.so.lt
 .show (S.sk.st.set _ _).length=(S.sk.hs.set _ _).length;rw [Ud,Ud];exact w.so.ls
 .show (S.sk.wt.set _ _).length=(S.sk.hs.set _ _).length;rw [Ud,Ud];exact w.so.lw
 .show (S.sk.hs.set _ _).length<=1000;rw [Ud];exact w.so.z
inductive Bu where
 | rests | cK | br | rings | dA | d7 | told
noncomputable def Bu.s:Bu->Str
 | .rests=>"rests" | .cK=>"waits" | .br=>"dials" | .rings=>"rings" | .dA=>"rung" | .d7=>"talks" | .told=>"told"
theorem Bu.ok (w:Bu):Ok w.s:=by cases w<;>exact ⟨by unfold C8;decide +kernel,by decide +kernel⟩
theorem Bu.inj {v w:Bu}(e:v.s=w.s):v=w:=by cases v<;>cases w<;>first | rfl | exact absurd e (by decide +kernel)
def Zr (ln:Ln):Prop:=ln.ai=""/\ln.ag=0/\ln.why=.none
def Ih (S:PS)(i:Nat)(ln:Ln)(o:Bu):Prop:=∃(j:Nat)(lo:Ln),S.lns[j]?=some lo/\j≠i/\ln.ao=some lo.num/\lo.ao=some ln.num/\lo.st=o.s
def Wy (S:PS)(i:Nat)(ln:Ln):Bu->Prop
 | .rests=>ln.held=[]/\ln.ao=none/\ln.num ∉ S.q/\Zr ln
 | .cK=>ln.held=[]/\ln.ao=none/\ln.num∈S.q/\Zr ln
 | .br=>ln.ao=none/\ln.num ∉ S.q/\(0<=ln.ag/\ln.ag<=10)/\(ln.ai.length:Int)<S.long/\ln.held.length<=ln.ai.length+1
 | .told=>ln.held=[]/\ln.ao=none/\ln.num ∉ S.q
 | .rings=>ln.num ∉ S.q/\Ih S i ln .dA
 | .dA=>ln.held=[]/\ln.num ∉ S.q/\Ih S i ln .rings
 | .d7=>ln.num ∉ S.q/\Ih S i ln .d7
structure Dd (S:PS)(i:Nat)(ln:Ln):Prop where
 nd:ln.held.Nodup
 ow:∀ p∈ln.held,AV S p=some (D6 p.1 i ln.num)
 wy:∃ w:Bu,ln.st=w.s/\Wy S i ln w
structure WF (S:PS):Prop where
 g:WG S
 l:∀(i:Nat)(ln:Ln),S.lns[i]?=some ln->Dd S i ln
section
variable {S S':PS}{i j:Nat}{ln lo lm:Ln}
theorem Dd.way {w:Bu}(h:Dd S i ln)(e:ln.st=w.s):Wy S i ln w:=by obtain ⟨v,B,D⟩:=h.wy;cases Bu.inj (e.symm.trans B);exact D
theorem WG.one (g:WG S)(D:S.lns[i]?=some ln)(B:S.lns[j]?=some lm)(e:ln.num=lm.num):i=j/\ln=lm:=by
 by_cases c:i=j
 .subst c;rw [D] at B;exact ⟨rfl,Uk B⟩
 .exact absurd e (FH g.num D B c)
theorem WF.bM (w:WF S)(h:S.lns[i]?=some ln):bM S ln.held:=Gw (w.l i ln h).nd λp m=>⟨_,(w.l i ln h).ow p m,FN⟩
theorem Dd.ge (h:Dd S i ln):∀ t∈ln.held,0<=t.2:=λt m=>Sf (h.ow t m)
theorem WF.apart (w:WF S)(B:S.lns[i]?=some ln)(D:S.lns[j]?=some lm)(n:j≠i){p:Str×Int}(m:p∈lm.held):p ∉ ln.held:=λH=>by
 have a:=(w.l i ln B).ow p H;rw [(w.l j lm D).ow p m] at a;exact Ag4 n (FH w.g.num D B n) (Uk a)
theorem WF.chg (w:WF S)(g:WG S')(I:Nat->Prop)(D:∀ j,¬ I j->S'.lns[j]?=S.lns[j]?)(H:∀ (i:Nat) (ln:Ln),I i->S.lns[i]?=some ln->∀ z,ln.ao=some z->∃ (j:Nat) (lo:Ln),I j/\S.lns[j]?=some lo/\lo.num=z)(hq:∀ (j:Nat) (lm:Ln),¬ I j->S.lns[j]?=some lm->(lm.num∈S'.q↔lm.num∈S.q))(J:∀ (j:Nat) (lm:Ln),¬ I j->S.lns[j]?=some lm->∀ p∈lm.held,AV S' p=AV S p)(hw:S'.long=S.long)(O:∀ (i:Nat) (y:Ln),I i->S'.lns[i]?=some y->Dd S' i y):WF S':=by
 refine ⟨g,λj lm B=>?_⟩;by_cases c:I j
 .exact O j lm c B
 rw [D j c] at B;have L:=w.l j lm B;obtain ⟨v,e,y⟩:=L.wy;have q:=hq j lm c B;have ao:∀ o,Ih S j lm o->Ih S' j lm o:=λo ⟨k,lo,hk,ne,f1,f2,V⟩=>by
  refine ⟨k,lo,(D k λY=>?_).trans hk,ne,f1,f2,V⟩;obtain ⟨i',lo',c',h',e'⟩:=H k lo Y hk lm.num f2;exact c (by rw [<- (w.g.one h' B e').1];exact c')
 refine ⟨L.nd,λp m=>(J j lm c B p m).trans (L.ow p m),v,e,?_⟩;cases v with
 | rests=>exact ⟨y.1,y.2.1,λz=>y.2.2.1 (q.mp z),y.2.2.2⟩
 | cK=>exact ⟨y.1,y.2.1,q.mpr y.2.2.1,y.2.2.2⟩
 | br=>exact ⟨y.1,λz=>y.2.1 (q.mp z),y.2.2.1,by rw [hw];exact y.2.2.2.1,y.2.2.2.2⟩
 | told=>exact ⟨y.1,y.2.1,λz=>y.2.2 (q.mp z)⟩
 | rings=>exact ⟨λz=>y.1 (q.mp z),ao _ y.2⟩
 | dA=>exact ⟨y.1,λz=>y.2.1 (q.mp z),ao _ y.2.2⟩
 | d7=>exact ⟨λz=>y.1 (q.mp z),ao _ y.2⟩
theorem WF.gQ (w:WF S)(g:WG S'){y:Ln}(h:S.lns[i]?=some ln)(fn:ln.ao=none)(B:S'.lns=S.lns.set i y)(hq:∀ z,z≠ln.num->(z∈S'.q↔z∈S.q))(D:∀ (j:Nat) (lm:Ln),j≠i->S.lns[j]?=some lm->∀ p∈lm.held,AV S' p=AV S p)(hw:S'.long=S.long)(hy:Dd S' i y):WF S':=by
 refine w.chg g (·=i) (λj n=>by rw [B,Ut (Uj n)]) (λk lk e hk z f=>?_) (λj lm n H=>hq _ (FH w.g.num H h n)) D hw λk z e hk=>?_
 .subst e;rw [h] at hk;cases hk;rw [fn] at f;cases f
 .subst e;rw [B,Bd h] at hk;cases hk;exact hy
theorem WF.mK (w:WF S)(g:WG S'){y z:Ln}(B:S.lns[i]?=some ln)(D:S.lns[j]?=some lo)(n:j≠i)(f1:∀ z,ln.ao=some z->z=lo.num)(f2:∀ z,lo.ao=some z->z=ln.num)(H:S'.lns=(S.lns.set i y).set j z)(hq:∀ x,x≠ln.num->x≠lo.num->(x∈S'.q↔x∈S.q))(I:∀ (k:Nat) (lm:Ln),k≠i->k≠j->S.lns[k]?=some lm->∀ p∈lm.held,AV S' p=AV S p)(hw:S'.long=S.long)(hy:Dd S' i y)(J:Dd S' j z):WF S':=by
 refine w.chg g (λk=>k=i\/k=j) (λk c=>by rw [H,Ut (λe=>c (.inr e.symm)),Ut (λe=>c (.inl e.symm))]) (λk lk e hk x f=>?_) (λk lm c hk=>hq _ (FH w.g.num hk B λe=>c (.inl e)) (FH w.g.num hk D λe=>c (.inr e))) (λk lm c hk=>I k lm (λe=>c (.inl e)) (λe=>c (.inr e)) hk) hw λk x e hk=>?_
 .rcases e with rfl | rfl
  .rw [B] at hk;cases hk;exact ⟨j,lo,.inr rfl,D,(f1 x f).symm⟩
  .rw [D] at hk;cases hk;exact ⟨i,ln,.inl rfl,B,(f2 x f).symm⟩
 .rcases e with rfl | rfl
  .rw [H,Ut n,Bd B] at hk;cases hk;exact hy
  .rw [H,Bd (x:=lo) (by rw [Ut (Uj n)];exact D)] at hk;cases hk;exact J
theorem BO {y:Ln}(h:S.lns[i]?=some ln)(e:y.num=ln.num):(S.lns.set i y).map (·.num)=S.lns.map (·.num):=Dx (f:=λx:Ln=>x.num) h e
theorem Gx:∀(ts:List (Str×Int))(S:PS),(aF S ts).long=S.long
 | [],_=>rfl
 | t :: ts,S=>(Gx ts _).trans (by unfold aT;split<;>rfl)
end
theorem Si:∀{l m:List Str},l.Nodup->(∀ z∈l,z∈m)->l.length<=m.length
 | [],_,_,_=>UH _
 | a :: l,m,B,h=>by
  have B:=Uv.mp B;have D:=h a UC;have:=Si (l:=l) (m:=m.erase a) B.2 λz H=>(ZA (λ(e:z=a)=>B.1 (e▸H))).mpr (h z (Uu _ H));rw [ZC D] at this;have:=uy D;rw [Vf];omega
section
variable {S:PS}{i j:Nat}{ln lo:Ln}
theorem Dd.mL (h:Dd S i ln)(m:ln.num∈S.q):ln.st=Bu.cK.s/\ln.held=[]/\ln.ao=none/\Zr ln:=by
 obtain ⟨v,e,y⟩:=h.wy;cases v with
 | rests=>exact absurd m y.2.2.1
 | cK=>exact ⟨e,y.1,y.2.1,y.2.2.2⟩
 | br=>exact absurd m y.2.1
 | told=>exact absurd m y.2.2
 | rings=>exact absurd m y.1
 | dA=>exact absurd m y.2.1
 | d7=>exact absurd m y.1
theorem WF.abo (w:WF S)(h:S.lns[i]?=some ln)(n:ln.st≠Bu.cK.s):ln.num ∉ S.q:=λm=>n ((w.l i ln h).mL m).1
theorem WG.at (g:WG S){z:Str}(m:z∈S.lns.map (·.num)):∃(i:Nat)(ln:Ln),S.lns[i]?=some ln/\ln.num=z:=by obtain ⟨ln,B,D⟩:=Rn m;exact ⟨_,ln,B,D⟩
theorem WG.qA (g:WG S):S.q.length<=60:=by have:=Si g.cZ g.dy;rw [TU] at this;exact UM this g.aJ
theorem WF.cJ (w:WF S):Dy S:=by refine ⟨w.g.cZ,λz m=>?_,w.g.num,w.g.m0,Yy w.g.m1,by rw [w.g.pl];exact Int.ofNat_lt.mpr w.g.pos,UM w.g.qA (by decide)⟩;obtain ⟨i,ln,h,rfl⟩:=w.g.at (w.g.dy z m);exact ⟨ln,Ue h,rfl,((w.l i ln h).mL m).2.1⟩
theorem WF.dn (w:WF S){d:List V}:WF { S with dn:=d }:=by refine ⟨w.g.abn,λi ln h=>⟨(w.l i ln h).nd,(w.l i ln h).ow,?_⟩⟩;obtain ⟨v,e,y⟩:=(w.l i ln h).wy;refine ⟨v,e,?_⟩;cases v<;>exact y
theorem Sj {q:List Str}{z:Str}(D:q.Nodup)(n:z ∉ q):(q++[z]).Nodup:=Wt.mpr ⟨D,Uv.mpr ⟨by simp,.nil⟩,λa H b B e=>n (by rw [UB] at B;rw [<- B,<- e];exact H)⟩
theorem Sl {q ns:List Str}{z:Str}(h:∀ y∈q,y∈ns)(m:z∈ns):∀ y∈q++[z],y∈ns:=λy B=>(U1.mp B).elim (h y) λe=>by rw [UB.mp e];exact m
theorem Sn {q:List Str}{x z:Str}(n:x≠z):x∈q++[z]↔x∈q:=by simp [n]
theorem E9 (h:S.lns[i]?=some ln):ln.num∈S.lns.map (·.num):=Ua.mpr ⟨ln,Ue h,rfl⟩
theorem Dd.none {y:Ln}(e:y.held=[])(w:∃ v:Bu,y.st=v.s/\Wy S i y v):Dd S i y:=⟨by rw [e];exact .nil,(λp m=>by rw [e] at m;cases m),w⟩
theorem WF.wait (w:WF S)(h:S.lns[i]?=some ln)(B:ln.held=[])(fn:ln.ao=none)(D:ln.num ∉ S.q):WF (CF S i ln) :=
 w.gQ (S':=CF S i ln) (y:=AS ln "waits") ((w.g.lns (BO (y:=AS ln "waits") h rfl)).dv (Sj w.g.cZ D) (Sl (λz m=>by show z∈(S.lns.set i (AS ln "waits")).map _;rw [BO (y:=AS ln "waits") h rfl];exact w.g.dy z m) (by show _∈(S.lns.set i (AS ln "waits")).map _;rw [BO (y:=AS ln "waits") h rfl];exact E9 h))) h fn rfl (λz n=>Sn n) (λ_ _ _ _ _ _=>rfl) rfl
  (.none B ⟨.cK,rfl,B,rfl,UD _ (UB.mpr rfl),rfl,rfl,rfl⟩)
theorem DL (w:WF S)(h:S.lns[j]?=some lo):A3 S.lns lo.num=j:=Mt w.g.num h
theorem MR {z:Str}(hs:ln.st≠"rests")(f:ln.ao=some z)(B:S.lns[A3 S.lns z]?=some lo):Cf S i ln=(.tuple [.str "talks",.str lo.num,.str ln.num],{ S with lns:=(S.lns.set (A3 S.lns z) { lo with st:="talks" }).set i { ln with st:="talks" } }):=by simp only [Cf,if_neg hs,f,B]
theorem Bu.ne {v u:Bu}(e:ln.st=v.s)(n:v≠u):ln.st≠u.s:=λz=>n (Bu.inj (e.symm.trans z))
theorem WF.lift (w:WF S)(h:S.lns[i]?=some ln)(f:ln.st=Bu.rests.s\/ln.st=Bu.dA.s):WF (Cf S i ln).2/\HS S i ln:=by
 have L:=w.l i ln h;rcases f with f | f
 .obtain ⟨J,H,y3,_⟩:=L.way f;refine ⟨?_,.inl f⟩;rw [show Cf S i ln=_ from if_pos f];exact w.wait h J H y3
 .obtain ⟨J,H,j,lo,B,D,f1,f2,f3⟩:=L.way f;have O:ln.st≠"rests":=Bu.ne (u:=.rests) f (λe=>nomatch e);refine ⟨?_,.inr ⟨O,j,lo,f1,B,D⟩⟩;have V:=DL w B;have I:=w.l j lo B;rw [MR O f1 (by rw [V];exact B),V];have Y:(S.lns.set j { lo with st:="talks" })[i]?=some ln:=D5 h D;refine w.mK (i:=j) (j:=i) (y:={ lo with st:="talks" }) (z:={ ln with st:="talks" }) (w.g.lns (by rw [Dx (f:=λx:Ln=>x.num) (y:={ ln with st:="talks" }) Y rfl];exact BO (y:={ lo with st:="talks" }) B rfl)) B h D.symm (λz e=>by rw [f2] at e;exact (Uk e).symm) (λz e=>by rw [f1] at e;exact (Uk e).symm) rfl (λ_ _ _=>.rfl) (λ_ _ _ _ _ _ _=>rfl) rfl ⟨I.nd,I.ow,.d7,rfl,(I.way (w:=.rings) f3).1,i,{ ln with st:="talks" },Bd Y,D.symm,f2,f1,rfl⟩ ⟨L.nd,L.ow,.d7,rfl,H,j,{ lo with st:="talks" },?_,D,f1,f2,rfl⟩;exact D5 (Bd B) D.symm
theorem WF.br (w:WF S)(h:S.lns[i]?=some ln)(fn:ln.ao=none)(H:ln.num ∉ S.q){y:Ln}(B:y.num=ln.num)(D:y.held=ln.held)(es:y.st=Bu.br.s)(I:y.ao=none)(ep:0<=y.ag/\y.ag<=10)(J:(y.ai.length:Int)<S.long)(L:y.held.length<=y.ai.length+1):WF { S with lns:=S.lns.set i y } :=
 w.gQ (w.g.lns (BO h B)) h fn rfl (λ_ _=>.rfl) (λ_ _ _ _ _ _=>rfl) rfl ⟨by rw [D];exact (w.l i ln h).nd,λp m=>by rw [B];exact (w.l i ln h).ow p (D▸m),.br,es,I,by rw [B];exact H,ep,J,L⟩
theorem WF.told (w:WF S)(h:S.lns[i]?=some ln)(fn:ln.ao=none)(H:ln.num ∉ S.q){y:Ln}(B:y.num=ln.num)(D:y.held=ln.held)(I:y.ao=none)(d:PyData):WF (BH { S with lns:=S.lns.set i y } i y d):=by
 have eq:(aF { S with lns:=S.lns.set i y } y.held).q=S.q:=EX ..;refine w.gQ (y:={ y with held:=[],st:="told",why:=d }) (((w.g.lns (BO h B)).aF y.held).lns ?_) h fn (Vp ..) (λz _=>by show z∈(aF { S with lns:=S.lns.set i y } y.held).q↔_;rw [eq]) (λk J n hk p m=>?_) (Gx ..) (.none rfl ⟨.told,rfl,rfl,I,?_⟩)
 .rw [HN];exact Dx (f:=λx:Ln=>x.num) (y:={ y with held:=[],st:="told",why:=d }) (Bd h) rfl
 .exact EZ (S:={ S with lns:=S.lns.set i y }) (by rw [D];exact (w.l i ln h).ge) (by rw [D];exact w.apart h hk n m)
 .show y.num ∉ (aF { S with lns:=S.lns.set i y } y.held).q;rw [eq,B];exact H
theorem WF.bp (w:WF S)(h:S.lns[i]?=some ln)(f:ln.st=Bu.br.s):WF (CO S i ln).2/\Lw.bM { S with lns:=S.lns.set i { ln with ag:=ln.ag+1 } } ln.held:=by
 have L:=w.l i ln h;obtain ⟨B,D,⟨J,O⟩,H,I⟩:=L.way f;refine ⟨?_,Gw L.nd λp m=>⟨_,L.ow p m,FN⟩⟩;unfold CO;split
 .exact w.br h B D rfl rfl f B ⟨by show 0<=ln.ag+1;omega,by assumption⟩ H I
 .exact w.told h B D (y:={ ln with ag:=ln.ag+1 }) rfl rfl B _
end
section
variable {S:PS}{i j:Nat}{ln lo:Ln}
theorem Kb {z:Str}{h:Gr->Gr}(B:∀ g,(h g).pre=g.pre)(D:z≠TK "")(p:Str×Int):AV { S with aj:=S.aj.map λg=>if g.pre=z then h g else g } p=if p.1=z then (Bo S z).bind λg=>if 0<=p.2 then (h g).hs[p.2.toNat]? else none else AV S p:=by
 unfold AV BI;by_cases c:p.1=z
 .rw [if_pos c,c,if_neg D,FO B];simp only [if_true];cases Bo S z<;>rfl
 .rw [if_neg c];by_cases y:p.1=TK ""
  .rw [if_pos y,if_pos y]
  .rw [if_neg y,if_neg y,FO B];simp only [if_neg c];cases Bo S p.1<;>rfl
theorem WF.takes (w:WF S)(h:S.lns[i]?=some ln)(fn:ln.ao=none)(nq:ln.num ∉ S.q){y:Ln}(D:y.num=ln.num)(eh:y.held=ln.held)(es:y.st=Bu.br.s)(ef:y.ao=none)(ep:0<=y.ag/\y.ag<=10)(el:(y.ai.length:Int)<S.long)(ek:y.held.length+1<=y.ai.length+1){z:Str}{g:Gr}{k:Int}(B:z≠TK "")(H:Bo S z=some g)(lQ:BF g.hs g.js 0=some k) :
  WF { S with aj:=S.aj.map (λg=>if g.pre=z then bA g k y.num else g),lns:=S.lns.set i { y with held:=y.held++[(z,k)] } }:=by
 have L:=w.l i ln h;obtain ⟨⟨k0,k1⟩,O⟩:=Em (Xg 0) (VW _) lQ;have V:k.toNat<g.hs.length:=by omega
 have free:AV S (z,k)=some .aa:=by unfold AV BI;rw [if_neg B,H];show (if 0<=k then g.hs[k.toNat]? else none)=_;unfold Cp at O;rw [Vu,decide_eq_true_eq,UO,Ug V] at O;rw [if_pos k0,Ug V];exact congrArg some O.1
 have own:∀ p:Str×Int,p≠(z,k)->AV { S with aj:=S.aj.map (λg=>if g.pre=z then bA g k y.num else g),lns:=S.lns.set i { y with held:=y.held++[(z,k)] } } p=AV S p:=λp n=>by
  refine (Kb (S:=S) (h:=λg=>bA g k y.num) (λ_=>rfl) B p).trans ?_;by_cases c:p.1=z
  .rw [if_pos c,H];unfold AV BI;rw [c,if_neg B,H];show (if 0<=p.2 then (g.hs.set k.toNat _)[p.2.toNat]? else none)=if 0<=p.2 then g.hs[p.2.toNat]? else none
   by_cases I:0<=p.2
   .rw [if_pos I,if_pos I,Ut];intro e;exact n (XI c (by show p.2=k;omega))
   .rw [if_neg I,if_neg I]
  .rw [if_neg c]
 have Y:∀{j:Nat}{J:Ln}{p:Str×Int},Dd S j J->p∈J.held->p≠(z,k):=λL m e=>by
  have a:=L.ow _ m;rw [e,free] at a;exact FN (Uk a).symm
 refine w.gQ ((w.g.bA z y.num k (by rw [D];exact E9 h)).lns (BO (y:={ y with held:=y.held++[(z,k)] }) h D)) h fn rfl (λ_ _=>.rfl) (λj J n hj p m=>own p (Y (w.l j J hj) m)) rfl ⟨?_,λp m=>?_,.br,es,ef,by show y.num ∉ S.q;rw [D];exact nq,ep,el,by show (y.held++[(z,k)]).length<=_;rw [UK];exact ek⟩
 .show (y.held++[(z,k)]).Nodup;rw [eh];exact Wt.mpr ⟨L.nd,Uv.mpr ⟨by simp,.nil⟩,λa ma b mb e=>Y L ma (by rw [e];exact UB.mp mb)⟩
 .have m:p∈y.held++[(z,k)]:=m;rw [eh] at m;rcases U1.mp m with m | m
  .rw [own p (Y L m)];show _=some (D6 p.1 i y.num);rw [D];exact L.ow p m
  .rw [UB.mp m];refine (Kb (S:=S) (h:=λg=>bA g k y.num) (λ_=>rfl) B (z,k)).trans ?_;rw [if_pos rfl,H];show (if 0<=k then (g.hs.set k.toNat (.str y.num))[k.toNat]? else none)=_;rw [if_pos k0,VD V];unfold D6;rw [if_neg B]
theorem So {n:Int}(h:1<=n/\n<=10)(x:Str):x++Dc n≠TK "":=λe=>by
 have:=congrArg WR e;rw [Ba,ME h] at this;have z:(TK "").length=0:=rfl;omega
theorem WF.gap (w:WF S)(h:S.lns[i]?=some ln)(f:ln.st=Bu.br.s)(p0:ln.ag≠0):WF (Cq S i ln).2:=by
 obtain ⟨B,D,⟨y3,y4⟩,y5,y6⟩:=(w.l i ln h).way f;have I:1<=ln.ag/\ln.ag<=10:=by omega
 have lf:(Ar ln).ai.length=ln.ai.length+1:=by show (ln.ai++Dc ln.ag).length=_;rw [Ba,ME I]
 have told:∀ d,WF (BH { S with lns:=S.lns.set i (Ar ln) } i (Ar ln) d):=λd=>w.told h B D (y:=Ar ln) rfl rfl B d;have hi:=w.g.hi;unfold Cq;dsimp only;split
 .rename_i c
  unfold BN;split
  .exact told _
  .rename_i g eg
   split
   .exact told _
   .rename_i k ef
    have:=w.takes h B D (y:=Ar ln) rfl rfl f B ⟨Xg 0,by show (0:Int)<=10;decide⟩ (by omega) (by show ln.held.length+1<=_;omega) (z:=(Ar ln).ai) (So I _) eg ef;rw [show (S.lns.set i (Ar ln)).set i { Ar ln with held:=(Ar ln).held++[((Ar ln).ai,k)] }=_ from Vp ..];exact this
 .split
  .rename_i c
   exact w.br h B D (y:=Ar ln) rfl rfl f B ⟨Xg 0,by show (0:Int)<=10;decide⟩ c (by show ln.held.length<=_;omega)
  .unfold CA;split
   .exact told _
   .rename_i lc hc
    split
    .rename_i hr
     have hc:(S.lns.set i (Ar ln))[A3 (S.lns.set i (Ar ln)) (Ar ln).ai]?=some lc:=hc;show WF { S with lns:=((S.lns.set i (Ar ln)).set i _).set (A3 (S.lns.set i (Ar ln)) (Ar ln).ai) _ };generalize A3 (S.lns.set i (Ar ln)) (Ar ln).ai=j at hc;have n:j≠i:=λe=>by
      rw [e,Bd h] at hc;rw [<- Uk hc] at hr;exact Bu.ne (u:=.rests) (ln:=Ar ln) f (λe=>nomatch e) hr
     rw [Ut n.symm] at hc;rw [Vp];have H:=w.l j lc hc;obtain ⟨O,V,Y,c4⟩:=H.way (w:=.rests) hr;have L:=w.l i ln h;have J:∀ y:Ln,(S.lns.set i y)[j]?=some lc:=λy=>D5 hc n.symm;refine w.mK (w.g.lns ?_) h hc n (λz e=>by rw [B] at e;cases e) (λz e=>by rw [V] at e;cases e) rfl (λ_ _ _=>.rfl) (λ_ _ _ _ _ _ _=>rfl) rfl ⟨L.nd,L.ow,.rings,rfl,D,j,{ lc with st:="rung",ao:=some ln.num },Bd (J _),n,rfl,rfl,rfl⟩ ⟨H.nd,H.ow,.dA,rfl,O,Y,i,{ Ar ln with st:="rings",ao:=some lc.num },D5 (Bd h) n,n.symm,rfl,rfl,rfl⟩;rw [Dx (f:=λx:Ln=>x.num) (y:={ lc with st:="rung",ao:=some (Ar ln).num }) (J _) rfl];exact BO (y:={ Ar ln with st:="rings",ao:=some lc.num }) h rfl
    .exact told _
theorem WF.qB (w:WF S)(h:S.lns[i]?=some ln)(f:ln.st=Bu.br.s):Ia S i ln:=by have L:=w.l i ln h;obtain ⟨H,I,⟨B,D⟩,J,O⟩:=L.way f;have V:=w.g.hi;exact ⟨D,B,Bu.ne (u:=.rests) f (λe=>nomatch e),by omega,(λg m=>(w.g.hg g m).s),by omega,Gw L.nd λp m=>⟨_,L.ow p m,FN⟩⟩
theorem MT (p:Str×Int):AV (aE S ln) p=AV S p:=by unfold aE;split<;>rfl
theorem Es:(aE S ln).lns=S.lns:=by unfold aE;split<;>rfl
theorem Ag6:(aE S ln).long=S.long:=by unfold aE;split<;>rfl
theorem WF.aE (w:WF S)(h:S.lns[i]?=some ln):WG (aE S ln)/\ln.num ∉ (Lw.aE S ln).q/\∀ z,z≠ln.num->(z∈(Lw.aE S ln).q↔z∈S.q):=by
 unfold Lw.aE;split
 .exact ⟨w.g.dv (w.g.cZ.erase _) λz m=>w.g.dy z (List.mem_of_mem_erase m),λm=>((w.g.cZ.mem_erase_iff).mp m).1 rfl,λz n=>ZA n⟩
 .rename_i c
  exact ⟨w.g,w.abo h c,λ_ _=>.rfl⟩
theorem WG.cI {T:PS}(g:WG T)(h:T.lns[i]?=some ln):WG (cI T i ln):=(g.aF ln.held).lns (by rw [HN];exact BO (y:=AS { ln with held:=[] } "rests") h rfl)
end
section
variable {S:PS}{i j:Nat}{ln lo:Ln}
theorem WF.mM (w:WF S)(h:S.lns[i]?=some ln)(fn:ln.ao=none)(hw:ln.st="waits"->ln.num∈S.q):WF (CY S i ln).2/\FI S i ln:=by
 have L:=w.l i ln h;obtain ⟨g1,D,H⟩:=w.aE h;have B:B2 (Lw.aE S ln) ln=([],Lw.aE S ln):=by simp only [B2,fn]
 have eq:(aF (Lw.aE S ln) ln.held).q=(Lw.aE S ln).q:=EX ..;refine ⟨?_,hw,λz e=>(by rw [fn] at e;cases e),by rw [B];exact Gw L.nd λp m=>⟨_,(MT p).trans (L.ow p m),FN⟩⟩;unfold CY;rw [B];refine w.gQ (S':=cI (Lw.aE S ln) i ln) (y:=AS { ln with held:=[] } "rests") (g1.cI (by rw [Es];exact h)) h fn (by show (Lw.aE S ln).lns.set i _=_;rw [Es]) (λz n=>by show z∈(aF (Lw.aE S ln) ln.held).q↔_;rw [eq];exact H z n) (λk I n hk p m=>?_) ((Gx ..).trans Ag6) (.none rfl ⟨.rests,rfl,rfl,rfl,by show ln.num ∉ (aF (Lw.aE S ln) ln.held).q;rw [eq];exact D,rfl,rfl,rfl⟩);exact (EZ L.ge (w.apart h hk n m)).trans (MT p)
theorem WF.left (w:WF S)(h:S.lns[j]?=some lo)(B:lo.num ∉ S.q):∃ y:Ln,y.num=lo.num/\y.held=[]/\y.ao=none/\(Bv S j lo).2.lns=S.lns.set j y/\(Bv S j lo).2.long=S.long/\WG (Bv S j lo).2/\(∀ p,p ∉ lo.held->AV (Bv S j lo).2 p=AV S p)/\(∀ x,x≠lo.num->(x∈(Bv S j lo).2.q↔x∈S.q))/\∀ U:PS,U.q=(Bv S j lo).2.q->∃ v:Bu,y.st=v.s/\Wy U j y v:=by
 have L:=w.l j lo h;have eq:(aF S lo.held).q=S.q:=EX ..;have D:WG (CW S j lo):=(w.g.aF lo.held).lns (by rw [HN];exact BO (y:={ lo with held:=[] }) h rfl);have H:(CW S j lo).lns[j]?=some { lo with held:=[] }:=Bd h;have own:∀ p,p ∉ lo.held->AV (aF S lo.held) p=AV S p:=λp n=>EZ L.ge n;unfold Bv;split
 .refine ⟨AS { lo with held:=[] } "waits",rfl,rfl,rfl,Vp ..,Gx ..,(D.lns (BO (y:=AS { lo with held:=[] } "waits") H rfl)).dv ?_ ?_,own,λx n=>?_,λU e=>⟨.cK,rfl,rfl,rfl,?_,rfl,rfl,rfl⟩⟩
  .show ((aF S lo.held).q++[lo.num]).Nodup;rw [eq];exact Sj w.g.cZ B
  .show ∀ z∈(aF S lo.held).q++[lo.num],z∈((CW S j lo).lns.set j (AS { lo with held:=[] } "waits")).map (·.num);rw [eq,BO (y:=AS { lo with held:=[] } "waits") H rfl,show (CW S j lo).lns.map (·.num)=S.lns.map (·.num) from BO (y:={ lo with held:=[] }) h rfl];exact Sl w.g.dy (E9 h)
  .show x∈(aF S lo.held).q++[lo.num]↔_;rw [eq];exact Sn n
  .rw [e];exact UD _ (UB.mpr rfl)
 .refine ⟨AS { lo with held:=[] } "rests",rfl,rfl,rfl,rfl,Gx ..,D.lns ?_,own,λx n=>?_,λU e=>⟨.rests,rfl,rfl,rfl,?_,rfl,rfl,rfl⟩⟩
  .rw [show (CW S j lo).lns.map (·.num)=S.lns.map (·.num) from BO (y:={ lo with held:=[] }) h rfl];exact BO (y:=AS { lo with held:=[] } "rests") h rfl
  .show x∈(aF S lo.held).q↔_;rw [eq]
  .rw [e];show lo.num ∉ (aF S lo.held).q;rw [eq];exact B
theorem WF.qC (w:WF S)(h:S.lns[i]?=some ln)(J:ln.st≠"waits")(B:S.lns[j]?=some lo)(D:j≠i)(f1:ln.ao=some lo.num)(f2:lo.ao=some ln.num)(nq:ln.num ∉ S.q)(mq:lo.num ∉ S.q):WF (CY S i ln).2/\FI S i ln:=by
 have L:=w.l i ln h;have H:Lw.aE S ln=S:=if_neg J;have ei:=DL w B;have O:B2 S ln=([(Bv S j lo).1],(Bv S j lo).2):=by simp only [B2,f1,ei,B]
 obtain ⟨y,y1,y2,y3,V,y5,y6,Y,y8,y9⟩:=w.left B mq;have eq:(aF (Bv S j lo).2 ln.held).q=(Bv S j lo).2.q:=EX ..;have hi:(Bv S j lo).2.lns[i]?=some ln:=by rw [V];exact D5 h D
 refine ⟨?_,λe=>absurd e J,λz e=>?_,?_⟩
 .unfold CY;rw [H,O];refine w.mK (S':=cI (Bv S j lo).2 i ln) (i:=j) (j:=i) (y:=y) (z:=AS { ln with held:=[] } "rests") (y6.cI hi) B h D.symm (λz e=>by rw [f2] at e;exact (Uk e).symm) (λz e=>by rw [f1] at e;exact (Uk e).symm) (by show (Bv S j lo).2.lns.set i _=_;rw [V]) (λx I n2=>by show x∈(aF (Bv S j lo).2 ln.held).q↔_;rw [eq];exact y8 x I) (λk lm I n2 hk p m=>(EZ L.ge (w.apart h hk n2 m)).trans (Y p (w.apart B hk I m))) ((Gx ..).trans y5) (.none y2 (y9 _ eq)) (.none rfl ⟨.rests,rfl,rfl,rfl,?_,rfl,rfl,rfl⟩);show ln.num ∉ (aF (Bv S j lo).2 ln.held).q;rw [eq];exact λm=>nq ((y8 _ (FH w.g.num h B D.symm)).mp m)
 .rw [f1] at e;cases e;exact ⟨j,lo,B,rfl,D,by rw [H];exact w.bM B⟩
 .rw [H,O];exact Gw L.nd λp m=>⟨_,(Y p (w.apart B h D.symm m)).trans (L.ow p m),FN⟩
theorem WF.bq (w:WF S)(h:S.lns[i]?=some ln)(f:ln.st∈LW.bq.cO):WF (CY S i ln).2/\FI S i ln:=by
 have L:=w.l i ln h;obtain ⟨v,e,y⟩:=L.wy;have no:∀ u:Bu,u.s ∉ LW.bq.cO->v≠u:=λu n z=>n (by rw [<- z,<- e];exact f);cases v with
 | rests=>exact absurd rfl (no .rests (by decide +kernel))
 | dA=>exact absurd rfl (no .dA (by decide +kernel))
 | cK=>exact w.mM h y.2.1 λ_=>y.2.2.1
 | br=>exact w.mM h y.1 λz=>absurd z (Bu.ne (u:=.cK) e λz=>nomatch z)
 | told=>exact w.mM h y.2.1 λz=>absurd z (Bu.ne (u:=.cK) e λz=>nomatch z)
 | rings =>
  obtain ⟨q,j,lo,B,D,f1,f2,H⟩:=y;exact w.qC h (Bu.ne (u:=.cK) e λz=>nomatch z) B D f1 f2 q ((w.l j lo B).way (w:=.dA) H).2.1
 | d7 =>
  obtain ⟨q,j,lo,B,D,f1,f2,H⟩:=y;exact w.qC h (Bu.ne (u:=.cK) e λz=>nomatch z) B D f1 f2 q ((w.l j lo B).way (w:=.d7) H).1
theorem WF.fU (w:WF S){x:PyData×PS}(e:DJ S=some x):WF x.2:=by
 obtain ⟨z,r,k,ln,H,e2,B,J,e5,rfl⟩:=JS w.cJ e;generalize A3 S.lns z=i at B ⊢;have il:=(Uy.mp B).1;obtain ⟨⟨k0,k1⟩,L⟩:=Em w.g.m0 (Yy w.g.m1) e2;have O:k.toNat<S.sk.hs.length:=by omega
 obtain ⟨l1,l2,l3,l4⟩:=(w.l i ln B).mL (by rw [J,H];exact UC);have nd:=w.g.cZ;rw [H] at nd;obtain ⟨zr,lJ⟩:=Uv.mp nd;have free:AV S ((TK ""),k)=some .aa:=by show (if 0<=k then S.sk.hs[k.toNat]? else none)=_;unfold Cp at L;rw [Vu,decide_eq_true_eq,UO,Ug O] at L;rw [if_pos k0,Ug O];exact congrArg some L.1
 have own:∀(T:PS),T.aj=S.aj->T.sk.hs=S.sk.hs.set k.toNat (.int i)->∀ p:Str×Int,p≠((TK ""),k)->AV T p=AV S p:=λT eg es p n=>by
  unfold AV BI Bo;rw [eg,es];by_cases c:p.1=TK ""
  .rw [if_pos c,if_pos c];show (if 0<=p.2 then (S.sk.hs.set k.toNat _)[p.2.toNat]? else none)=if 0<=p.2 then S.sk.hs[p.2.toNat]? else none
   by_cases I:0<=p.2
   .rw [if_pos I,if_pos I,Ut];intro e;exact n (XI c (by show p.2=k;omega))
   .rw [if_neg I,if_neg I]
  .rw [if_neg c,if_neg c]
 have nw:∀(j:Nat)(D:Ln),S.lns[j]?=some D->∀ p∈D.held,p≠((TK ""),k):=λj D V p m c=>by
  have a:=(w.l j D V).ow p m;rw [c,free] at a;exact FN (Uk a).symm
 dsimp only;refine w.gQ (y:={ AS ln "dials" with held:=ln.held++[((TK ""),k)] }) (((w.g.bS (k:=k) il).lns (BO (S:=S) (y:={ AS ln "dials" with held:=ln.held++[((TK ""),k)] }) B rfl)).dv lJ λy my=>?_) B l3 rfl (λx n=>?_) (λj D n V p m=>by refine own _ ?_ ?_ p λc=>?_;rfl;rfl;exact nw j D V p m c) rfl ?_
 .show y∈(S.lns.set i _).map _;rw [BO (y:={ AS ln "dials" with held:=ln.held++[((TK ""),k)] }) B rfl];exact w.g.dy y (by rw [H];exact Uu _ my)
 .show x∈r↔_;rw [J] at n;rw [H,T8];exact ⟨.inr,λc=>c.resolve_left n⟩
 .have Y:ln.held++[((TK ""),k)]=[((TK ""),k)]:=by rw [l2];rfl
  have lo:=w.g.lo;refine ⟨by show (ln.held++_).Nodup;rw [Y];exact Uv.mpr ⟨by simp,.nil⟩,λp m=>?_,.br,rfl,rfl,?_,⟨Xg 0,by show (0:Int)<=10;decide⟩,?_,?_⟩
  .have m:p∈ln.held++[((TK ""),k)]:=m;rw [Y] at m;rw [UB.mp m];show (if 0<=k then (S.sk.hs.set k.toNat (.int i))[k.toNat]? else none)=some (.int i);rw [if_pos k0,VD O]
  .show ln.num ∉ r;rw [J];exact zr
  .show ((TK "").length:Int)<S.long;have:(TK "").length=0:=rfl;omega
  .show (ln.held++_).length<=(TK "").length+1;rw [Y];exact Nat.le_add_left 1 _
theorem WF.aS:∀(n:Nat){S:PS},WF S->WF (aS n S).2
 | 0,_,w=>w
 | n+1,S,w=>by
  unfold Lw.aS;split
  .exact w
  .rename_i e
   exact WF.aS n (w.fU e)
theorem WF.mO (w:WF S):WF (B1 S).2:=WF.aS _ w
def Bf.txt:Bf->Prop
 | .aZ _ w _=>Ok w
 | .line _ z=>Ok z
theorem LW.in {d:LW}(f:d.fits ln=true):ln.st∈d.cO:=by unfold LW.fits at f;rw [Vu,decide_eq_true_eq] at f;exact f.1
theorem LW.qD (f:LW.gap.fits ln=true):ln.ag≠0:=by unfold LW.fits at f;rw [Vu] at f;exact of_decide_eq_true f.2
theorem LW.br {d:LW}(f:d.fits ln=true)(e:d.cO=[("dials":Str)]):ln.st=Bu.br.s:=by have:=LW.in f;rw [e] at this;exact UB.mp this
theorem WF.go (w:WF S)(h:S.lns[i]?=some ln){d:LW}(f:d.fits ln=true):WF (d.go S i ln).2/\d.ok S i ln:=by
 cases d with
 | lift =>
  refine w.lift h ?_;have:=LW.in f;rcases T8.mp this with e | e
  .exact .inl e
  .exact .inr (UB.mp e)
 | bp=>exact w.bp h (LW.br f rfl)
 | gap=>exact ⟨w.gap h (LW.br f rfl) (LW.qD f),w.qB h (LW.br f rfl)⟩
 | bq=>exact w.bq h (LW.in f)
end
noncomputable def CG (z:Str):Ln:=⟨z,"rests","",0,none,.none,[]⟩
noncomputable def BP (p:Str×Int):Gr:=⟨p.1,TX p.2.toNat .aa,TX p.2.toNat false,TX p.2.toNat 0⟩
noncomputable def FQ (n places:Int):Sk:=⟨TX n.toNat .aa,TX n.toNat false,TX n.toNat 0,places,0,TX n.toNat 0,TX n.toNat 0⟩
noncomputable def bY (long:Int)(zs:List Str)(n:Int)(gs:List (Str×Int)):PS:=⟨long,zs.map CG,gs.map BP,FQ n zs.length,[],[]⟩
theorem At.init {H B:Hp}{p:Addr}{o o':HO}{C N:AK}(t:At H ((p,o) :: C))(s:Cd [p] H B)(ep:B p=some o')(D:∀ c∈N,H c.1=none/\B c.1=some c.2)(V:(N.map (·.1)).Nodup):At B ((p,o') :: (N++C)):=by
 have I:=Uv.mp t.nd;refine ⟨λc m=>?_,Uv.mpr ⟨λm=>?_,?_⟩⟩
 .rcases T8.mp m with rfl | m
  .exact ep
  .rcases U1.mp m with m | m
   .exact (D c m).2
   .exact s _ _ (λz=>I.1 (Ua.mpr ⟨c,m,UB.mp z⟩)) (t.at_ c (Uu _ m))
 .obtain ⟨c,mc,L⟩:=Ua.mp m;rcases U1.mp mc with mc | mc
  .have:=(D c mc).1;rw [show c.1=p from L,t.hd] at this;cases this
  .exact I.1 (Ua.mpr ⟨c,mc,L⟩)
 .rw [Um];refine Wt.mpr ⟨V,I.2,λx hx y hy e=>?_⟩;obtain ⟨c,mc,rfl⟩:=Ua.mp hx;obtain ⟨Y,J,rfl⟩:=Ua.mp hy;have O:=(D c mc).1;rw [e,t.at_ Y (Uu _ J)] at O;cases O
structure Kc (a:Ak)(H:Hp)(D:Addr)(zs:List Str)(i:Nat)(L:List LX)(C:AK):Prop where
 t:At H ((D,.dK (L.map λx=>(.inr x.l.num,.ref x.p))) :: (L.flatMap (BZ a)++C))
 len:L.length=i
 l:L.map (·.l)=(zs.take i).map CG
 x:∀(j:Nat)(x:LX),L[j]?=some x->x.i=j/\x.hv=[]/\x.wv=.aa
theorem Kc.push {a:Ak}{H B:Hp}{D x dx l:Addr}{zs:List Str}{i:Nat}{L:List LX}{C:AK}{z:Str}(m:Kc a H D zs i L C)(O:zs[i]?=some z)(nd:zs.Nodup)(s:Ag H B)(nx:B x=none)(cQ:B dx=none)(d8:dx≠x)(nl:(upd (upd B dx (.own x)) x (.ins a.Line dx [])) l=none) :
  Kc a (upd (upd (upd (upd (upd B dx (.own x)) x (.ins a.Line dx [])) l (.lst [])) x (.ins a.Line dx (BV z i l "rests" "" 0 .aa .aa))) D (.dK (BD (L.map λx=>((.inr x.l.num:Av),V.ref x.p)) (.inr z) (.ref x)))) D zs (i+1) (L++[⟨x,dx,l,i,.aa,[],CG z⟩]) C:=by
 have no:z ∉ L.map (·.l.num):=λh=>by
  have e:L.map (·.l.num)=zs.take i:=by have:=congrArg (VU Ln.num) m.l;rw [Uo,Uo] at this;rw [show (λx:LX=>x.l.num)=Ln.num∘(λx:LX=>x.l) from rfl,this,show Ln.num∘CG=id from rfl,Wz]
  rw [e] at h;obtain ⟨j,I,J⟩:=Vd h;rw [Vt] at I;have bP:zs[j]?=some z:=by rw [ZL] at J;rw [Ug (by omega),J]
  exact D1 nd bP O (by omega) rfl
 have s1:Ag B (upd B dx (.own x)):=(Ag.refl B).upd cQ;have t1:=(m.t.same (λb o e=>s1 _ _ (s _ _ e))).new (b:=x) (u:=.ins a.Line dx []) (by rw [Ap d8.symm];exact nx);have t2:=t1.new (u:=.lst []) nl;have t3:=At.set (P:=[_]) (o':=.ins a.Line dx (BV z i l "rests" "" 0 .aa .aa)) t2;have t4:=At.set (P:=[_,_]) (o':=.dK (BD (L.map λx=>((.inr x.l.num:Av),V.ref x.p)) (.inr z) (.ref x))) t3;have t5:=At.perm (C':=(x,.ins a.Line dx (BV z i l "rests" "" 0 .aa .aa)) :: (l,.lst []) :: _) t4 (.swap _ _ _);have Y:=At.swap (P:=[_,_]) (M:=(D,_) :: L.flatMap (BZ a)) (R:=C) t5;refine ⟨?_,by rw [UK,m.len];rfl,?_,λj y I=>?_⟩
 .have ek:BD (L.map λx=>((.inr x.l.num:Av),V.ref x.p)) (.inr z) (.ref x)=(L.map λx=>((.inr x.l.num:Av),V.ref x.p))++[(.inr z,.ref x)]:=Jk _ (FF (f:=λx:LX=>x.l.num) (v:=λx=>V.ref x.p) no);rw [ek] at Y ⊢;rw [Yw,Um,Ur];exact Y
 .rw [Um,m.l,VB,O,Um];rfl
 .by_cases lt:j<L.length
  .rw [tf lt] at I;exact m.x j y I
  .have jl:=(Uy.mp I).1;rw [UK,U6] at jl;have J:j=L.length:=by omega
   subst J;rw [List.getElem?_concat_length] at I;cases I;exact ⟨m.len.symm,rfl,rfl⟩
structure Kd (a:Ak)(H:Hp)(G:Addr)(gs:List (Str×Int))(i:Nat)(L:List RX)(C:AK):Prop where
 t:At H ((G,.dK (L.map λx=>(.inr x.g.pre,.ref x.p))) :: (L.flatMap (Bz a)++C))
 len:L.length=i
 g:L.map (·.g)=(gs.take i).map BP
theorem Kd.push {a:Ak}{H J:Hp}{G p dx B D I:Addr}{O:List (Str×Int)}{i:Nat}{L:List RX}{C:AK}{q:Str×Int}(m:Kd a H G O i L C)(Y:O[i]?=some q)(nd:(O.map (·.1)).Nodup)(np:H p=none)(cQ:H dx=none)(d8:dx≠p)(s:Cd [p] (upd (upd H dx (.own p)) p (.ins a.aK dx [])) J)(ep:J p=some (.ins a.aK dx (FC B D I)))(na:(upd (upd H dx (.own p)) p (.ins a.aK dx [])) B=none)(nb:(upd (upd H dx (.own p)) p (.ins a.aK dx [])) D=none)(nc:(upd (upd H dx (.own p)) p (.ins a.aK dx [])) I=none)(ea:J B=some (.lst (BP q).hs))(eb:J D=some (.lst ((BP q).js.map V.bl)))(ec:J I=some (.lst ((BP q).ts.map V.int)))(ab:B≠D)(ac:B≠I)(bc:D≠I) :
  Kd a (upd J G (.dK (BD (L.map λx=>((.inr x.g.pre:Av),V.ref x.p)) (.inr q.1) (.ref p)))) G O (i+1) (L++[⟨p,dx,B,D,I,BP q⟩]) C:=by
 have no:q.1 ∉ L.map (·.g.pre):=λh=>by
  have e:L.map (·.g.pre)=(O.take i).map (·.1):=by have:=congrArg (VU Gr.pre) m.g;rw [Uo,Uo] at this;exact this
  rw [e,List.map_take] at h;obtain ⟨j,hj,ej⟩:=Vd h;rw [Vt,TU] at hj;have bP:(O.map (·.1))[j]?=some q.1:=by rw [ZL] at ej;rw [Ug (by rw [TU];omega),ej]
  exact D1 nd bP (j:=i) (y:=q.1) (by rw [T7,Y];rfl) (by omega) rfl
 have s1:Ag H (upd H dx (.own p)):=(Ag.refl H).upd cQ;have t1:=(m.t.same s1).new (b:=p) (u:=.ins a.aK dx []) (by rw [Ap d8.symm];exact np);have t2:=t1.init (N:=[(B,.lst (BP q).hs),(D,.lst ((BP q).js.map V.bl)),(I,.lst ((BP q).ts.map V.int))]) s ep (λc mc=>by
  simp only [T8,UT,or_false] at mc;rcases mc with rfl | rfl | rfl
  .exact ⟨na,ea⟩
  .exact ⟨nb,eb⟩
  .exact ⟨nc,ec⟩) (by simp [ab,ac,bc])
 have t3:=At.set (P:=[_,_,_,_]) (o':=.dK (BD (L.map λx=>((.inr x.g.pre:Av),V.ref x.p)) (.inr q.1) (.ref p))) t2;have t4:=At.swap (P:=[_,_,_,_]) (M:=(G,_) :: L.flatMap (Bz a)) (R:=C) t3;refine ⟨?_,by rw [UK,m.len];rfl,?_⟩
 .have ek:BD (L.map λx=>((.inr x.g.pre:Av),V.ref x.p)) (.inr q.1) (.ref p)=(L.map λx=>((.inr x.g.pre:Av),V.ref x.p))++[(.inr q.1,.ref p)]:=Jk _ (FF (f:=λx:RX=>x.g.pre) (v:=λx=>V.ref x.p) no);rw [ek] at t4 ⊢;rw [Yw,Um,Ur];exact t4
 .rw [Um,m.g,VB,Y,Um];rfl
def Sq (K:TH)(a:Ak):Sp:=λvs H Q _=>∃(h dx pl bB lt gt:Addr)(long n:Int)(zs:List Str)(ts:List Pr)(R:AK),vs=[.ref h,.ref pl]/\At H ((h,.ins a.ae dx []) :: R)/\(pl,.ins a.Plan bB (JL long lt n gt))∈R/\JK K a.Plan/\H lt=some (.tup (zs.map V.str))/\H gt=some (.tup (ts.map B9))/\DY H ts/\zs.Nodup/\(ts.map (·.2.1)).Nodup/\(∀ t∈ts,t.2.1≠TK ""/\0<=t.2.2/\t.2.2<=1000)/\ts.length<=1000/\zs.length<=60/\0<=n/\n<=60 /\
 ∀ H' X,X.h=h->X.S=bY long zs n (ts.map (·.2))->HT K a H' X R->Ah H H'->Q .aa H'
theorem Ag7:AR ["self","plan"] ["self","plan"] (Ab (Ad (top 27) 0)):=.of
theorem Gy:Nm (Ab (Ad (top 27) 0)) "self":=.of
theorem Ii:Nm (Ab (Ad (top 27) 0)) "plan":=.of
theorem Ag8:Gm (Ab (Ad (top 27) 0)) "AT_SEEKERS":=.of
theorem Ag9:Gm (Ab (Ad (top 27) 0)) "Seekers":=.of
theorem Aha:Gm (Ab (Ad (top 27) 0)) "len":=.of
theorem Ahb:Gm (Ab (Ad (top 27) 0)) "enumerate":=.of
noncomputable def Ke:Scope:={ kind:=.function,names:=[(".0",.local),("prefix",.local),("many",.local),("Group",.globalImplicit)],isGenerator:=false,isCoroutine:=false,more:=[] }
theorem MU:Bh Ke (Ab (Ad (top 27) 0)) ["prefix","many"] ["self","plan"] [none,none]:=Bh.mk' rfl (by decide +kernel) (by decide +kernel) (by decide +kernel) (by decide +kernel) rfl (by decide +kernel)
theorem Sr:Nm Ke "prefix":=.of
theorem Ss:Nm Ke "many":=.of
theorem Ahc:Gm Ke "Group":=.of
noncomputable def Kf:Scope:={ kind:=.function,names:=[(".0",.local),("place",.local),("number",.local),("Line",.globalImplicit)],isGenerator:=false,isCoroutine:=false,more:=[] }
theorem MV:Bh Kf (Ab (Ad (top 27) 0)) ["place","number"] ["self","plan"] [none,none]:=Bh.mk' rfl (by decide +kernel) (by decide +kernel) (by decide +kernel) (by decide +kernel) rfl (by decide +kernel)
theorem Su:Nm Kf "place":=.of
theorem MW:Nm Kf "number":=.of
theorem Ahd:Gm Kf "Line":=.of
theorem Ahe (F:AL K "__init__" "Hall.__init__" (Ad (top 27) 0) f fd)(T:TxtH P w K mg a)(abp:EM P w K mg base AA 2 a.Line "Line" ["self","number","place"] (QX a))(abq:EM P w K mg base AA 2 a.aK "Group" ["self","many"] (Jx K a))(abr:EM P w K mg base AA 2 a.aM "Seekers" ["self","many","places"] (Qu K a)):AE P w K mg base AA 4 f fd ["self","plan"] (Sq K a):=by
 refine F.ok Ag7 λak A outer s H vs Q E hr h=>?_
 .obtain ⟨h,dx,pl,bB,lt,gt,B,n,zs,ts,R,rfl,t,jS,pc,au,iW,lay,nz,ng,gk,gz,zl,n0,n1,q⟩:=h;have hu:=hr.units;refine ⟨_,(@Aj _ _ _ _ _ (Bs (Aa 0 Gy) (Ax (Aa 1 Ii) rfl) rfl)
    (Aj (Bs (Aa 0 Gy) (PD rfl MV (AdZ Ahb T.jz (Ac (Ax (Aa 1 Ii) rfl) Af)) (λcl C fp pins s₂ H₂=>(Jh (X:=AU _ _ _ cl C fp pins s₂ H₂) K rfl 2 rfl (CJ (Bt 0 MV.nd Su.comp) (CJ (Bt 1 MV.nd MW.comp) Ez)) rfl rfl)) (λcl C fp pins s₂ H₂=>DD) (λcl C fp pins s₂ H₂=>(Aa 1 MW.comp)) (λcl C fp pins s₂ H₂=>(Hl abp Ahd.comp hr.d A1 (Ac (Aa 1 MW.comp) (Ac (Aa 0 Su.comp) Af))))) rfl)
    (Aj (Bs (Aa 0 Gy) (PD rfl MU (AaL (Ax (Aa 1 Ii) rfl)) (λcl C fp pins s₂ H₂=>(Jh (X:=AU _ _ _ cl C fp pins s₂ H₂) K rfl 2 rfl (CJ (Bt 0 MU.nd Sr.comp) (CJ (Bt 1 MU.nd Ss.comp) Ez)) rfl rfl)) (λcl C fp pins s₂ H₂=>DD) (λcl C fp pins s₂ H₂=>(Aa 0 Sr.comp)) (λcl C fp pins s₂ H₂=>(Hl abq Ahc.comp hr.d A1 (Ac (Aa 1 Ss.comp) Af)))) rfl)
    (Aj (Lq (Xa (ZM (by decide) _) hu) (Ax (Aa 0 Gy) rfl) (Hr Ag8 T.iL) (Hl abr Ag9 hr.d A1 (Ac (Ax (Aa 1 Ii) rfl) (Ac (BR Cw Aha T.n_len Cn (Ac (Ax (Aa 1 Ii) rfl) Af)) Af))) rfl)
    (Aj (Bs (Aa 0 Gy) (Bn Af) rfl)
    (Al (Bs (Aa 0 Gy) (Bn Af) rfl))))))),?_⟩
  try dsimp only [aC,aD]
  walk_at"";refine AI pl a.Plan bB _ _ rfl (t.tl.get jS) pc.cls pc.l rfl ?_;walk_at"";refine A9 h a.ae dx _ rfl t.hd T.hc.cls T.hc.lo (UE rfl) ?_;have t1:=t.iG (o':=.ins a.ae dx (An "long" (.int B) []));have p1:Ah H (upd H h (.ins a.ae dx (An "long" (.int B) []))):=.chg t.hd rfl;generalize upd H h (.ins a.ae dx (An "long" (.int B) []))=H1 at t1 p1 ⊢;walk_at"";refine AI pl a.Plan bB _ _ rfl (t1.tl.get jS) pc.cls pc.n rfl ?_;walk_at"";refine BL lt _ rfl (.of (p1.t au)) (λD nD=>?_);refine Ad0 (xs:=zs.map V.str) (λi σ H2=>∃ x y L,σ=[x,y]/\Kc a H2 D zs i L ((h,.ins a.ae dx (An "long" (.int B) [])) :: R)/\Ah H H2) ⟨none,none,[],rfl,⟨t1.new nD,rfl,rfl,λj x h=>by simp at h⟩,p1.trans (.new nD)⟩ (λi σ H2 _ ⟨_,_,_,_,_,p⟩=>.of (p.t au)) ?_ ?_
  .rintro i v tt σ H2 hx ⟨x0,y0,L,rfl,m,p2⟩ nt;rw [T7] at hx;obtain ⟨z,hz,rfl⟩:=UU.mp hx;have s3:=(Ag.refl H2).upd (o:=.tup [.int i,.str z]) nt;have e3:(upd H2 tt (.tup [.int i,.str z])) tt=some (.tup [.int i,.str z]):=Ai;generalize upd H2 tt (.tup [.int i,.str z])=H3 at s3 e3 ⊢;walk_at"";refine C6 tt _ rfl (.of e3) rfl ?_;walk_at"";intro x J nx cQ d8;refine OO x J z i rfl ⟨Ai,λl nl=>⟨rfl,?_⟩⟩;have iC:H3 l=none:=by
    have z1:∀{G:Hp}{b c:Addr}{o:HO},(upd G b o) c=none->G c=none:=λ{G b c o} e=>by
     by_cases z:c=b
     .rw [z,Ai] at e;cases e
     .rw [Ap z] at e;exact e
    exact z1 (z1 nl)
   have sC:Ag H3 (upd (upd (upd (upd H3 J (.own x)) x (.ins a.Line J [])) l (.lst [])) x (.ins a.Line J (BV z i l "rests" "" 0 .aa .aa))):=λb o e=>by
    rw [Ap (Cb e nx),Ap (Cb e iC),Ap (Cb e nx),Ap (Cb e cQ)];exact e
   have r:=m.push hz nz s3 nx cQ d8 nl;have hD:=sC _ _ (s3 _ _ m.t.hd);walk_at"";refine CU _ (.inr z) rfl ⟨hD,?_,_,_,_,rfl,r,p2.trans ((Ah.of s3).trans ((Ah.of sC).trans (.chg hD rfl)))⟩;rw [TY,TU,m.len];have:=(Uy.mp hz).1;omega
  .intro σ H2 zq;obtain ⟨x0,y0,L,rfl,m,p2⟩:=zq;rw [TU] at m;have ml:=m.l;rw [VC] at ml;have qE:H2 h=some (.ins a.ae dx (An "long" (.int B) [])):=m.t.get (by simp);walk_at"";refine A9 h a.ae dx _ rfl qE T.hc.cls T.hc.li (UE rfl) ?_;have t3:=At.set (P:=(D,_) :: L.flatMap (BZ a)) (o':=.ins a.ae dx (An "lines" (.ref D) (An "long" (.int B) []))) m.t;have p3:Ah H (upd H2 h (.ins a.ae dx (An "lines" (.ref D) (An "long" (.int B) [])))):=p2.trans (.chg qE rfl);generalize upd H2 h (.ins a.ae dx (An "lines" (.ref D) (An "long" (.int B) [])))=H3 at t3 p3 ⊢;have abt:H3 pl=some (.ins a.Plan bB (JL B lt n gt)):=t3.get (UD _ (Uu _ jS));walk_at"";refine AI pl a.Plan bB _ _ rfl abt pc.cls pc.g rfl ?_;refine DW gt rfl ⟨_,.of (p3.t iW)⟩ (λG nG=>?_);refine Ad1 (xs:=ts.map B9) (λi σ H4=>∃ x y I,σ=[x,y]/\Kd a H4 G (ts.map (·.2)) i I ((D,.dK (L.map λx=>(.inr x.l.num,.ref x.p))) :: L.flatMap (BZ a)++(h,.ins a.ae dx (An "lines" (.ref D) (An "long" (.int B) []))) :: R)/\Ah H H4) ⟨none,none,[],rfl,⟨t3.new nG,rfl,rfl⟩,p3.trans (.new nG)⟩ (λi σ H4 _ ⟨_,_,_,_,_,p⟩=>.of (p.t iW)) ?_ ?_
   .intro i v σ H4 hx zq;obtain ⟨x0,y0,I,rfl,eX,p4⟩:=zq;rw [T7] at hx;obtain ⟨O,gu,rfl⟩:=UU.mp hx;have g3:=gk O (Ue gu);have mf:=p4.t (lay O (Ue gu));walk_at"";refine ⟨O.1,_,rfl,.of mf,rfl,?_⟩;walk_at"";intro x J nx cQ d8;refine ⟨x,O.2.2,a.aK,J,rfl,Ai,T.gc,g3.2.1,g3.2.2,λH5 ra rb rc s5 e5 na nb nc ea eb ec ab ac bc=>⟨rfl,?_⟩⟩;have r:=eX.push (q:=O.2) (by rw [T7,gu];rfl) (by rw [Uo];exact ng) nx cQ d8 s5 e5 na nb nc ea eb ec ab ac bc;have s4:Ag H4 H5:=λb o e=>s5 b o (λz=>by rw [UB.mp z,nx] at e;cases e) (by rw [Ap (Cb e nx),Ap (Cb e cQ)];exact e);have hG:=s4 _ _ eX.t.hd;walk_at"";refine ⟨_,.inr O.2.1,rfl,hG,?_,_,_,_,rfl,r,p4.trans ((Ah.of s4).trans (.chg hG rfl))⟩;rw [TY,TU,eX.len];have:=(Uy.mp gu).1;omega
   .intro σ H4 zq;obtain ⟨x0,y0,I,rfl,eX,p4⟩:=zq;rw [TU] at eX;have gl:=eX.g;rw [show (ts.map (·.2)).take ts.length=ts.map (·.2) by rw [tV (by rw [TU];exact T3 _)]] at gl;have t4:=eX.t;have qF:H4 h=some (.ins a.ae dx (An "lines" (.ref D) (An "long" (.int B) []))):=t4.get (by simp);generalize hdl:(HO.dK (L.map λx=>((.inr x.l.num:Av),V.ref x.p)))=dl at t4;walk_at"";refine A9 h a.ae dx _ rfl qF T.hc.cls T.hc.sw (UE rfl) ?_;have eY:At H4 (((G,.dK (I.map λx=>(.inr x.g.pre,.ref x.p))) :: (I.flatMap (Bz a)++((D,dl) :: L.flatMap (BZ a))))++(h,.ins a.ae dx (An "lines" (.ref D) (An "long" (.int B) []))) :: R):=by
     rw [Wq,Ur];exact t4
    have t5:=At.set (o':=.ins a.ae dx (An "switches" (.ref G) (An "lines" (.ref D) (An "long" (.int B) [])))) eY;have p5:Ah H (upd H4 h (.ins a.ae dx (An "switches" (.ref G) (An "lines" (.ref D) (An "long" (.int B) []))))):=p4.trans (.chg qF rfl);generalize upd H4 h (.ins a.ae dx (An "switches" (.ref G) (An "lines" (.ref D) (An "long" (.int B) []))))=H5 at t5 p5 ⊢;have qG:H5 pl=some (.ins a.Plan bB (JL B lt n gt)):=t5.get (UD _ (Uu _ jS));walk_at"";refine AI pl a.Plan bB _ _ rfl qG pc.cls pc.s rfl ?_;walk_at"";refine AI pl a.Plan bB _ _ rfl qG pc.cls pc.n rfl ?_;walk_at"";refine T1 (BL lt _ rfl (.inr (.of (p5.t au))) ?_);walk_at"";rw [TU];intro x J nx cQ d8;have t6:=(t5.same ((Ag.refl H5).upd (o:=.own x) cQ)).new (b:=x) (u:=.ins a.aM J []) (by rw [Ap d8.symm];exact nx);refine AI x n zs.length a.aM J rfl Ai T.sc n0 (by omega) (λH7 ra rb rc rs bV x7 k7 na nb nc ns nw=>⟨rfl,?_⟩);have s7:Ag H5 H7:=λb o e=>x7 b o (λz=>by rw [UB.mp z,nx] at e;cases e) (by rw [Ap (Cb e nx),Ap (Cb e cQ)];exact e);obtain ⟨kdx,ke⟩:=k7.ins;obtain ⟨sx,jT⟩:∃ sx:SX,sx=⟨x,kdx,ra,rb,rc,rs,bV,FQ n zs.length⟩:=⟨_,rfl⟩;have t7:At H7 (BG a sx++(((G,.dK (I.map λx=>(.inr x.g.pre,.ref x.p))) :: (I.flatMap (Bz a)++((D,dl) :: L.flatMap (BZ a))))++(h,.ins a.ae dx (An "switches" (.ref G) (An "lines" (.ref D) (An "long" (.int B) [])))) :: R)):=by
     rw [jT];exact t6.init (N:=[(ra,.lst (TX n.toNat .aa)),(rb,.lst ((TX n.toNat false).map V.bl)),(rc,.lst ((TX n.toNat 0).map V.int)),(rs,.lst ((TX n.toNat 0).map V.int)),(bV,.lst ((TX n.toNat 0).map V.int))]) x7 ke (λc mc=>by
      simp only [T8,UT,or_false] at mc;rcases mc with rfl | rfl | rfl | rfl | rfl
      .exact ⟨na,k7.ha⟩
      .exact ⟨nb,k7.hb⟩
      .exact ⟨nc,k7.hc⟩
      .exact ⟨ns,k7.fN⟩
      .exact ⟨nw,k7.hw⟩) k7.ap
    have eZ:=s7 _ _ (t5.get (UD _ UC));have qH:=s7 _ _ (t5.get (WB _ UC));walk_at"";refine AI h a.ae dx _ _ rfl eZ T.hc.cls T.hc.sw rfl ?_;walk_at"";refine BL G _ rfl (.inl ⟨_,.inr "",qH,rfl,(by rw [TU,eX.len,TY];omega),rfl⟩) ?_;have nos:Bj (I.map λx=>((.inr x.g.pre:Av),V.ref x.p)) (.inr (TK ""))=none:=FF (f:=λx:RX=>x.g.pre) (v:=λx=>V.ref x.p) λmm=>by
     have e:I.map (·.g.pre)=ts.map (·.2.1):=by have:=congrArg (VU Gr.pre) gl;rw [Uo,Uo,Uo] at this;exact this
     rw [e] at mm;obtain ⟨O,mt,et⟩:=Ua.mp mm;exact (gk O mt).1 et
    rw [Jk _ nos];have t8:=At.set (P:=BG a sx) (o':=.dK ((I.map λx=>((.inr x.g.pre:Av),V.ref x.p))++[(.inr (TK ""),.ref x)])) t7;have p8:Ah H (upd H7 G (.dK ((I.map λx=>((.inr x.g.pre:Av),V.ref x.p))++[(.inr (TK ""),.ref x)]))):=p5.trans ((Ah.of s7).trans (.chg qH rfl));generalize upd H7 G (.dK ((I.map λx=>((.inr x.g.pre:Av),V.ref x.p))++[(.inr (TK ""),.ref x)]))=H8 at t8 p8 ⊢;generalize hkv:HO.dK ((I.map λx=>((.inr x.g.pre:Av),V.ref x.p))++[(.inr (TK ""),.ref x)])=aH at t8;have t9:At H8 ((h,.ins a.ae dx (An "switches" (.ref G) (An "lines" (.ref D) (An "long" (.int B) [])))) :: (D,dl) :: (G,aH) :: (BG a sx++(I.flatMap (Bz a)++(L.flatMap (BZ a)++R)))):=by
     have u1:At H8 ((BG a sx++((G,aH) :: (I.flatMap (Bz a)++((D,dl) :: L.flatMap (BZ a)))))++(h,.ins a.ae dx (An "switches" (.ref G) (An "lines" (.ref D) (An "long" (.int B) [])))) :: R):=by rw [Ur];exact t8
     have u2:=u1.front;have u3:At H8 (((h,.ins a.ae dx (An "switches" (.ref G) (An "lines" (.ref D) (An "long" (.int B) [])))) :: (BG a sx++((G,aH) :: I.flatMap (Bz a))))++(D,dl) :: (L.flatMap (BZ a)++R)):=by rw [Ur,Wq,Ur,Wq] at u2;rw [Wq,Ur,Wq];exact u2
     have u4:=u3.front;have u5:At H8 (((D,dl) :: (h,.ins a.ae dx (An "switches" (.ref G) (An "lines" (.ref D) (An "long" (.int B) [])))) :: BG a sx)++(G,aH) :: (I.flatMap (Bz a)++(L.flatMap (BZ a)++R))):=by rw [Wq,Ur,Wq] at u4;exact u4
     have u6:=u5.front;exact u6.perm (((ZN _ _ _).trans (uS _ (ZN _ _ _))).trans (ZN _ _ _))
    walk_at"";refine ⟨Aw,λY qI=>?_⟩;have ta:=t9.new (u:=.lst (([]:List Str).map V.str)) qI;have pa:Ah H (upd H8 Y (.lst [])):=p8.trans (.new qI);change At (upd H8 Y (.lst [])) _ at ta;generalize upd H8 Y (.lst [])=Ha at ta pa ⊢;walk_at"";refine A9 h a.ae dx _ rfl ta.tl.hd T.hc.cls T.hc.qu (UE rfl) ?_;have tb:=At.set (P:=[_]) (o':=.ins a.ae dx (An "queue" (.ref Y) (An "switches" (.ref G) (An "lines" (.ref D) (An "long" (.int B) []))))) ta;have pb:=pa.trans (Ah.chg (u:=.ins a.ae dx (An "queue" (.ref Y) (An "switches" (.ref G) (An "lines" (.ref D) (An "long" (.int B) []))))) ta.tl.hd rfl);generalize upd Ha h (.ins a.ae dx (An "queue" (.ref Y) (An "switches" (.ref G) (An "lines" (.ref D) (An "long" (.int B) [])))))=Hb at tb pb ⊢;walk_at"";refine ⟨Aw,λda qJ=>?_⟩;have tc:=tb.new (u:=.lst []) qJ;have qK:Ah H (upd Hb da (.lst [])):=pb.trans (.new qJ);generalize upd Hb da (.lst [])=Hc at tc qK ⊢;walk_at"";refine A9 h a.ae dx _ rfl tc.tl.tl.hd T.hc.cls T.hc.dn (UE rfl) ?_;have td:=At.set (P:=[_,_]) (o':=.ins a.ae dx (EV B D G Y da)) tc;have pd:=qK.trans (Ah.chg (u:=.ins a.ae dx (EV B D G Y da)) tc.tl.tl.hd rfl);change At (upd Hc h (.ins a.ae dx (An "done" (.ref da) (An "queue" (.ref Y) (An "switches" (.ref G) (An "lines" (.ref D) (An "long" (.int B) []))))))) _ at td;change Ah H (upd Hc h (.ins a.ae dx (An "done" (.ref da) (An "queue" (.ref Y) (An "switches" (.ref G) (An "lines" (.ref D) (An "long" (.int B) []))))))) at pd;generalize upd Hc h (.ins a.ae dx (An "done" (.ref da) (An "queue" (.ref Y) (An "switches" (.ref G) (An "lines" (.ref D) (An "long" (.int B) []))))))=Hd at td pd ⊢;have te:=At.swap (P:=[_,_]) (M:=[_,_,_]) (At.perm (C':=(Y,_) :: (da,_) :: _) td (.swap _ _ _));have eS:(⟨h,dx,D,G,Y,da,B,L,I,sx,[],[]⟩:HX).S=bY B zs n (ts.map (·.2)):=by show (⟨B,L.map (·.l),I.map (·.g),sx.k,[],[]⟩:PS)=_;rw [ml,gl,jT];rfl
    refine q Hd ⟨h,dx,D,G,Y,da,B,L,I,sx,[],[]⟩ rfl eS ⟨?_,?_⟩ pd
    .subst jT;rw [<- hkv,<- hdl] at te;exact te
    .have en:L.map (·.l.num)=zs:=by
      have:=congrArg (VU Ln.num) ml;rw [Uo,Uo,show Ln.num∘CG=id from rfl,Wz] at this;exact this
     have eg:I.map (·.g.pre)=ts.map (·.2.1):=by have:=congrArg (VU Gr.pre) gl;rw [Uo,Uo,Uo] at this;exact this
     have one:∀ g∈I,∃ O∈ts,g.g=BP O.2:=λg iX=>by
      have:g.g∈(ts.map (·.2)).map BP:=by rw [<- gl];exact Ua.mpr ⟨g,iX,rfl⟩
      obtain ⟨q2,m2,e2⟩:=Ua.mp this;obtain ⟨O,m3,e3⟩:=Ua.mp m2;exact ⟨O,m3,by rw [e3,e2]⟩
     refine ⟨by show (L.map (·.l.num)).Nodup;rw [en];exact nz,by show (I.map (·.g.pre)).Nodup;rw [eg];exact ng,λg iX=>?_,λj y hj=>?_,λg iX=>?_,?_⟩
     .obtain ⟨O,m3,e3⟩:=one g iX;rw [e3];exact (gk O m3).1
     .obtain ⟨y1,y2,y3⟩:=m.x j y hj;have:y.l∈zs.map CG:=by rw [<- ml];exact Ua.mpr ⟨y,Ue hj,rfl⟩
      obtain ⟨z,_,ez⟩:=Ua.mp this;exact ⟨y1,by rw [y2,<- ez];trivial,by rw [y3,<- ez];exact .aa,by rw [<- ez];rfl,by rw [<- ez];exact UH _⟩
     .obtain ⟨O,m3,e3⟩:=one g iX;have:=gk O m3;rw [e3];exact ⟨by simp [BP],by simp [BP],by simp only [BP,UR];omega⟩
     .show Gq sx.k;rw [jT];exact ⟨by simp [FQ],by simp [FQ],by simp [FQ],by simp [FQ],by simp only [FQ,UR];omega⟩
section
variable {S:PS}{i j:Nat}{ln lo:Ln}
theorem Ij:∀(ts:List (Str×Int))(S:PS),(aF S ts).dn=S.dn
 | [],_=>rfl
 | t :: ts,S=>(Ij ts _).trans (by unfold aT;split<;>rfl)
theorem Ik {d:PyData}:(BH S i ln d).dn=S.dn:=Ij ..
theorem Ahf:(Bv S j lo).2.dn=S.dn:=by unfold Bv;split<;>exact Ij ..
theorem LW.qL (d:LW):(d.go S i ln).2.dn=S.dn/\(d.go S i ln).1.length<=10:=by
 cases d with
 | lift =>
  refine ⟨?_,by show 1<=10;decide⟩;show (Cf S i ln).2.dn=_;unfold Cf;split
  .rfl
  .split
   .rfl
   .split<;>rfl
 | bp =>
  show (CO S i ln).2.dn=_/\(CO S i ln).1.length<=10;unfold CO;split
  .exact ⟨rfl,by show 0<=10;decide⟩
  .exact ⟨Ik,by show 1<=10;decide⟩
 | gap =>
  refine ⟨?_,by show 1<=10;decide⟩;show (Cq S i ln).2.dn=_;unfold Cq;dsimp only;split
  .unfold BN;split
   .exact Ik
   .split
    .exact Ik
    .rfl
  .split
   .rfl
   .unfold CA;split
    .exact Ik
    .split
     .rfl
     .exact Ik
 | bq =>
  have B:(aE S ln).dn=S.dn:=by unfold aE;split<;>rfl
  have D:(B2 (aE S ln) ln).2.dn=S.dn/\(B2 (aE S ln) ln).1.length<=1:=by
   unfold B2;split
   .exact ⟨B,UH _⟩
   .split
    .exact ⟨B,UH _⟩
    .exact ⟨Ahf.trans B,T3 _⟩
  refine ⟨(Ij ..).trans D.1,?_⟩;show (B2 (aE S ln) ln).1.length+1<=10;omega
theorem Sv {b:Bool}{z:Str}{k:Int}(p:Str×Int):AV (Be S b z k) p=AV S p:=by
 unfold Be;by_cases c:z=TK ""
 .rw [if_pos c];rfl
 .rw [if_neg c];refine (Kb (h:=λg=>{ g with js:=g.js.set k.toNat b }) (λ_=>rfl) c p).trans ?_;by_cases e:p.1=z
  .rw [if_pos e];unfold AV BI;rw [e,if_neg c];cases Bo S z<;>rfl
  .rw [if_neg e]
theorem FR {b:Bool}{z:Str}{k:Int}:(Be S b z k).lns=S.lns/\(Be S b z k).q=S.q/\(Be S b z k).long=S.long/\(Be S b z k).dn=S.dn:=by unfold Be;split<;>exact ⟨rfl,rfl,rfl,rfl⟩
theorem WF.aZ (w:WF S)(b:Bool)(z:Str)(k:Int):WF (Be S b z k) :=
 w.chg (w.g.aZ b z k) (λ_=>False) (λ_ _=>by rw [FR.1]) (λ_ _ f=>f.elim) (λ_ _ _ _=>by rw [FR.2.1]) (λ_ _ _ _ p _=>Sv p) FR.2.2.1 λ_ _ f=>f.elim
theorem WF.res (w:WF S){d:Bf}{r:List PyData×PS}(e:d.res S=.inr r):WF r.2/\r.2.dn=S.dn/\r.1.length<=10:=by
 cases d with
 | aZ b z k =>
  unfold Bf.res at e;dsimp only at e;split at e
  .cases e
  .split at e
   .cases e;exact ⟨w.aZ b z k,FR.2.2.2,UH _⟩
   .cases e
 | line d z =>
  unfold Bf.res at e;dsimp only at e;split at e
  .cases e
  .split at e
   .rename_i ln h f
    cases e;exact ⟨(w.go h f).1,d.qL⟩
   .cases e
theorem WF.pre (w:WF S){d:Bf}(t:d.txt):d.pre S:=by
 cases d with
 | aZ b z k=>exact t
 | line d z =>
  refine ⟨t,λln h=>⟨?_,λe m=>?_,λf=>(w.go h f).2⟩⟩
  .obtain ⟨v,e,_⟩:=(w.l _ ln h).wy;rw [e];exact v.ok
  .subst e;exact w.qB h (UB.mp m)
end
theorem WF.bY {B n:Int}{zs:List Str}{D:List (Str×Int)}(L:2<=B)(O:B<=9)(Y:zs.Nodup)(z0:0<zs.length)(z1:zs.length<=60)(n0:1<=n)(n1:n<=60)(ng:(D.map (·.1)).Nodup)(J:∀ p∈D,p.1≠TK ""/\0<=p.2/\p.2<=10)(zk:∀ z∈zs,Ok z/\0<z.length)(pk:∀ p∈D,Ok p.1)(zl:∀ z∈zs,(z.length:Int)=B)(pl:∀ p∈D,(p.1.length:Int)<=B - 2):WF (bY B zs n D):=by
 have I:((zs.map CG).map (·.num))=zs:=by rw [Uo];exact Wz zs
 have ep:((D.map BP).map (·.pre))=D.map (·.1):=by rw [Uo];rfl
 have H:∀{α:Type}(x:α),(TX n.toNat x).length=n.toNat:=λx=>UR;have all:∀{p:Gr->Prop},(∀ y∈D,p (BP y))->∀ g∈D.map BP,p g:=λh g m=>by
  obtain ⟨y,my,rfl⟩:=Ua.mp m;exact h y my
 refine ⟨⟨by show ((zs.map CG).map _).Nodup;rw [I];exact Y,by show ((D.map BP).map _).Nodup;rw [ep];exact ng,all (p:=λg=>g.pre≠TK "") λy m=>(J y m).1,by show (zs.map CG).length<=60;rw [TU];exact z1,by show 0<(zs.map CG).length;rw [TU];exact z0,.nil,(λz m=>nomatch m),Xg 0,?_,by show (zs.length:Int)=((zs.map CG).length:Nat);rw [TU],λv m=>.inl (uT.mp m).2,all (p:=FP _) λy m v mv=>.inl (uT.mp mv).2,all (p:=FE) λy m=>⟨?_,?_,?_⟩,⟨?_,?_,?_,?_,?_⟩,(by show ∀ z∈(zs.map CG).map (·.num),_;rw [I];exact zk),all (p:=λg=>Ok g.pre) λy m=>pk y m,L,O,(by show ∀ z∈(zs.map CG).map (·.num),_;rw [I];exact zl),all (p:=λg=>(g.pre.length:Int)<=B - 2) λy m=>pl y m⟩,λi ln h=>?_⟩
 .show (0:Int)<((TX n.toNat V.aa).length:Nat);rw [H];omega
 .show (TX _ _).length=(TX _ _).length;rw [UR,UR]
 .show (TX _ _).length=(TX _ _).length;rw [UR,UR]
 .show (TX _ _).length<=1000;rw [UR];have:=(J y m).2.2;omega
 .show (TX _ _).length=(TX _ _).length;rw [H,H]
 .show (TX _ _).length=(TX _ _).length;rw [H,H]
 .show (TX _ _).length=(TX _ _).length;rw [H,H]
 .show (TX _ _).length=(TX _ _).length;rw [H,H]
 .show (TX _ _).length<=1000;rw [H];omega
 .have h:(zs.map CG)[i]?=some ln:=h;rw [T7] at h;obtain ⟨z,_,rfl⟩:=UU.mp h;exact .none rfl ⟨.rests,rfl,rfl,rfl,(λm=>nomatch m),rfl,rfl,rfl⟩
def AB (S:PS):Prop:=∀(p:Str×Int)(v:V),AV S p=some v->v=.aa\/∃(i:Nat)(ln:Ln),S.lns[i]?=some ln/\p∈ln.held
def Kp (l l':List Ln):Prop:=∀(j:Nat)(lm:Ln),l[j]?=some lm->∃ mP,l'[j]?=some mP/\∀ p∈lm.held,p∈mP.held
theorem Kp.refl {l:List Ln}:Kp l l:=λ_ B h=>⟨B,h,λ_ m=>m⟩
theorem Kp.trans {l B D:List Ln}(a:Kp l B)(b:Kp B D):Kp l D:=λj H h=>by
 obtain ⟨u,hu,k⟩:=a j H h;obtain ⟨v,hv,I⟩:=b j u hu;exact ⟨v,hv,λp m=>I p (k p m)⟩
theorem Kp.set {l:List Ln}{i:Nat}{ln y:Ln}(h:l[i]?=some ln)(k:∀ p∈ln.held,p∈y.held):Kp l (l.set i y):=λj D B=>by
 by_cases c:i=j
 .subst c;rw [h] at B;cases B;exact ⟨y,Bd h,k⟩
 .exact ⟨D,by rw [Ut c];exact B,λ_ m=>m⟩
theorem Ahg {S:PS}{p:Str×Int}{v:V}(e:AV (aT S p.1 p.2) p=some v):v=.aa:=by
 have B:∀ hs:List V,(if 0<=p.2 then (hs.set p.2.toNat .aa)[p.2.toNat]? else none)=some v->v=.aa:=λhs e=>by
  split at e
  .have l:=(Uy.mp e).1;rw [Ud] at l;rw [VD l] at e;exact (Uk e).symm
  .cases e
 unfold AV BI aT at e;by_cases z:p.1=TK ""
 .rw [if_pos z,if_pos z] at e;exact B _ e
 .rw [if_neg z,if_neg z,FO (h:=λg=>{ g with hs:=g.hs.set p.2.toNat .aa }) λ_=>rfl] at e;cases h:Bo S p.1 with
  | none=>rw [h] at e;cases e
  | some g =>
   rw [h,U7,U7,YA,if_pos rfl] at e;exact B _ e
theorem MX:∀{ts:List (Str×Int)}{S:PS}{p:Str×Int}{v:V},(∀ t∈ts,0<=t.2)->p∈ts->AV (aF S ts) p=some v->v=.aa
 | [],_,_,_,_,m,_=>by cases m
 | t :: ts,S,p,v,g,m,e=>by
  have B:∀ t∈ts,0<=t.2:=λt m=>g t (Uu _ m);by_cases c:p∈ts
  .exact MX B c e
  .have z:p=t:=(T8.mp m).resolve_right c;subst z;have e:AV (aF (aT S p.1 p.2) ts) p=some v:=e;rw [EZ B c] at e;exact Ahg e
section
variable {S S':PS}{i j:Nat}{ln lo lm y:Ln}
theorem AB.keep (c:AB S)(B:∀ p,AV S' p=AV S p)(D:Kp S.lns S'.lns):AB S':=λp v e=>by
 rw [B] at e;refine (c p v e).imp id λ⟨k,lm,hk,mk⟩=>?_;obtain ⟨u,hu,z⟩:=D k lm hk;exact ⟨k,u,hu,z p mk⟩
theorem AB.rel (c:AB S)(h:S.lns[i]?=some ln)(ge:∀ t∈ln.held,0<=t.2)(B:∀ p,AV S' p=AV (aF S ln.held) p)(D:∀ (j:Nat),j≠i->S'.lns[j]?=S.lns[j]?):AB S':=λp v e=>by
 rw [B] at e;by_cases m:p∈ln.held
 .exact .inl (MX ge m e)
 .rw [EZ ge m] at e;refine (c p v e).imp id λ⟨k,lm,hk,mk⟩=>?_;have n:k≠i:=λz=>m (by subst z;rw [h] at hk;cases hk;exact mk);exact ⟨k,lm,by rw [D k n];exact hk,mk⟩
theorem AB.take (c:AB S)(B:Str×Int)(D:∀ p,p≠B->AV S' p=AV S p)(H:S'.lns[i]?=some y)(m:B∈y.held)(I:Kp S.lns S'.lns):AB S':=λp v e=>by
 by_cases z:p=B
 .rw [z];exact .inr ⟨i,y,H,m⟩
 .rw [D p z] at e;refine (c p v e).imp id λ⟨k,lm,hk,mk⟩=>?_;obtain ⟨u,hu,w⟩:=I k lm hk;exact ⟨k,u,hu,w p mk⟩
theorem AB.bz (c:AB S)(h:S.lns[i]?=some ln)(e:y.held=ln.held):AB { S with lns:=S.lns.set i y }:=c.keep (λ_=>rfl) (Kp.set h (by rw [e];exact λ_ m=>m))
theorem AB.told (c:AB S)(h:S.lns[i]?=some ln)(ge:∀ t∈ln.held,0<=t.2)(d:PyData):AB (BH S i ln d):=c.rel h ge (λ_=>rfl) λj n=>Ut (Uj n)
theorem AB.wait (c:AB S)(h:S.lns[i]?=some ln):AB (CF S i ln):=c.keep (λ_=>rfl) (Kp.set h λ_ m=>m)
theorem AB.lift (w:WF S)(c:AB S)(h:S.lns[i]?=some ln)(lk:HS S i ln):AB (Cf S i ln).2:=by
 rcases lk with e | ⟨n,j,lc,f,B,ne⟩
 .unfold Cf;rw [if_pos e];exact c.wait h
 .rw [MR n f (by rw [DL w B];exact B),DL w B];exact c.keep (λ_=>rfl) ((Kp.set (y:={ lc with st:="talks" }) B λ_ m=>m).trans (Kp.set (ln:=ln) (by rw [Ut ne];exact h) λ_ m=>m))
theorem AB.left (c:AB S)(h:S.lns[j]?=some lo)(ge:∀ t∈lo.held,0<=t.2):AB (Bv S j lo).2:=by
 unfold Bv;split
 .exact c.rel h ge (λ_=>rfl) λk n=>by
   show ((S.lns.set j _).set j _)[k]?=_;rw [Ut (Uj n),Ut (Uj n)]
 .exact c.rel h ge (λ_=>rfl) λk n=>Ut (Uj n)
theorem Sw (n:i≠j):(Bv S j lo).2.lns[i]?=S.lns[i]?:=by
 unfold Bv;split
 .show ((S.lns.set j _).set j _)[i]?=_;rw [Ut (Uj n),Ut (Uj n)]
 .exact Ut (Uj n)
theorem AB.bq (w:WF S)(c:AB S)(h:S.lns[i]?=some ln)(hk:FI S i ln):AB (CY S i ln).2:=by
 have ge:=(w.l i ln h).ge;have H:AB (aE S ln):=c.keep (λp=>MT p) (by rw [Es];exact Kp.refl);have I:(aE S ln).lns[i]?=some ln:=by rw [Es];exact h
 have B:∀ T:PS,AB T->T.lns[i]?=some ln->AB (cI T i ln):=λT ct L=>ct.rel L ge (λ_=>rfl) λk n=>Ut (Uj n);show AB (cI (B2 (aE S ln) ln).2 i ln);cases f:ln.ao with
 | none=>unfold B2;rw [f];exact B _ H I
 | some z =>
  obtain ⟨j,lo,D,O,ne,_⟩:=hk.f z f;have V:A3 (aE S ln).lns z=j:=by rw [Es,<- O];exact DL w D
  have J:(aE S ln).lns[j]?=some lo:=by rw [Es];exact D
  unfold B2;rw [f];dsimp only;rw [V,J];exact B _ (H.left J (w.l j lo D).ge) (by rw [Sw (Uj ne)];exact I)
theorem AB.into (c:AB S)(h:S.lns[i]?=some ln)(ge:∀ t∈ln.held,0<=t.2){z:Str}(D:z≠TK ""):AB (BN S i ln z).2:=by
 unfold BN;split
 .exact c.told h ge _
 .rename_i g eg
  split
  .exact c.told h ge _
  .rename_i k ef
   obtain ⟨⟨H,I⟩,J⟩:=Em (Xg 0) (VW _) ef;refine c.take (z,k) (λp n=>?_) (i:=i) (y:={ ln with held:=ln.held++[(z,k)] }) (Bd h) (UD _ UC) (Kp.set h λp m=>WB _ m);refine (Kb (S:=S) (h:=λg=>bA g k ln.num) (λ_=>rfl) D p).trans ?_;by_cases c:p.1=z
   .rw [if_pos c,eg];unfold AV BI;rw [c,if_neg D,eg];show (if 0<=p.2 then (g.hs.set k.toNat _)[p.2.toNat]? else none)=if 0<=p.2 then g.hs[p.2.toNat]? else none
    by_cases B:0<=p.2
    .rw [if_pos B,if_pos B,Ut];intro e;exact n (XI c (by show p.2=k;omega))
    .rw [if_neg B,if_neg B]
   .rw [if_neg c]
theorem AB.toLine (c:AB S)(h:S.lns[i]?=some ln)(ge:∀ t∈ln.held,0<=t.2){z:Str}(ns:ln.st≠"rests"):AB (CA S i ln z).2:=by
 unfold CA;split
 .exact c.told h ge _
 .rename_i lc hc
  split
  .rename_i er
   have ne:i≠A3 S.lns z:=λe=>by rw [<- e,h] at hc;cases hc;exact ns er
   exact c.keep (λ_=>rfl) ((Kp.set (y:={ ln with st:="rings",ao:=some lc.num }) h λ_ m=>m).trans (Kp.set (ln:=lc) (by rw [Ut ne];exact hc) λ_ m=>m))
  .exact c.told h ge _
theorem AB.gap (w:WF S)(c:AB S)(h:S.lns[i]?=some ln)(f:ln.st=Bu.br.s)(I:ln.ag≠0):AB (Cq S i ln).2:=by
 have L:=w.l i ln h;obtain ⟨_,_,⟨J,H⟩,_,_⟩:=L.way f;have B:AB { S with lns:=S.lns.set i (Ar ln) }:=c.bz h rfl;have D:({ S with lns:=S.lns.set i (Ar ln) }:PS).lns[i]?=some (Ar ln):=Bd h;unfold Cq;dsimp only;split
 .exact B.into D L.ge (So ⟨by omega,H⟩ _)
 .split
  .exact B
  .exact B.toLine D L.ge (by show ln.st≠_;rw [f];decide +kernel)
theorem AB.bp (w:WF S)(c:AB S)(h:S.lns[i]?=some ln):AB (CO S i ln).2:=by
 unfold CO;split
 .exact c.bz h rfl
 .exact AB.told (c.bz (y:={ ln with ag:=ln.ag+1 }) h rfl) (Bd h) (w.l i ln h).ge _
theorem AB.go (w:WF S)(c:AB S)(h:S.lns[i]?=some ln){d:LW}(f:d.fits ln=true):AB (d.go S i ln).2:=by
 have k:=(w.go h f).2;cases d with
 | lift=>exact AB.lift w c h k
 | bp=>exact AB.bp w c h
 | gap=>exact AB.gap w c h (LW.br f rfl) (LW.qD f)
 | bq=>exact AB.bq w c h k
theorem AB.fU (w:WF S)(c:AB S){x:PyData×PS}(e:DJ S=some x):AB x.2:=by
 obtain ⟨z,r,k,ln,I,H,D,J,L,rfl⟩:=JS w.cJ e;generalize A3 S.lns z=i at D ⊢;obtain ⟨⟨O,V⟩,Y⟩:=Em w.g.m0 (Yy w.g.m1) H;refine c.take ((TK ""),k) (λp n=>?_) (i:=i) (y:={ AS ln "dials" with held:=ln.held++[((TK ""),k)] }) (Bd D) (UD _ UC) (Kp.set D λp m=>WB _ m);unfold AV BI Bo;by_cases c:p.1=TK ""
 .rw [if_pos c,if_pos c];show (if 0<=p.2 then (S.sk.hs.set k.toNat _)[p.2.toNat]? else none)=if 0<=p.2 then S.sk.hs[p.2.toNat]? else none
  by_cases B:0<=p.2
  .rw [if_pos B,if_pos B,Ut];intro e;exact n (XI c (by show p.2=k;omega))
  .rw [if_neg B,if_neg B]
 .rw [if_neg c,if_neg c]
theorem AB.dn (c:AB S){d:List V}:AB { S with dn:=d }:=c.keep (λ_=>rfl) Kp.refl
end
theorem AB.aS:∀(n:Nat){S:PS},WF S->AB S->AB (aS n S).2
 | 0,_,_,c=>c
 | n+1,S,w,c=>by
  unfold Lw.aS;split
  .exact c
  .rename_i x e
   exact AB.aS n (w.fU e) (AB.fU w c e)
theorem AB.mO {S:PS}(w:WF S)(c:AB S):AB (B1 S).2:=AB.aS _ w c
def D7 (g:Gr):Str×List Bool×Nat:=(g.pre,g.js,g.hs.length)
structure Au (S S':PS):Prop where
 long:S'.long=S.long
 num:S'.lns.map (·.num)=S.lns.map (·.num)
 gr:S'.aj.map D7=S.aj.map D7
 js:S'.sk.js=S.sk.js
 hl:S'.sk.hs.length=S.sk.hs.length
theorem Sx {l:List Gr}{w:Str}{h:Gr->Gr}(e:∀ g,D7 (h g)=D7 g):(l.map λg=>if g.pre=w then h g else g).map D7=l.map D7:=by
 rw [Uo];refine WV λg _=>?_;show D7 (if g.pre=w then h g else g)=D7 g;split
 .exact e g
 .rfl
section
variable {S T U:PS}{i j:Nat}{ln lo y:Ln}
theorem Au.refl:Au S S:=⟨rfl,rfl,rfl,rfl,rfl⟩
theorem Au.trans (a:Au S T)(b:Au T U):Au S U:=⟨b.long.trans a.long,b.num.trans a.num,b.gr.trans a.gr,b.js.trans a.js,b.hl.trans a.hl⟩
theorem Au.aT (S:PS)(w:Str)(k:Int):Au S (aT S w k):=by
 unfold Lw.aT;split
 .exact ⟨rfl,rfl,rfl,rfl,Ud⟩
 .exact ⟨rfl,rfl,Sx λg=>by unfold D7;rw [Ud],rfl,rfl⟩
theorem Au.aF:∀(ts:List (Str×Int))(S:PS),Au S (aF S ts)
 | [],_=>.refl
 | t :: ts,S=>(Au.aT S t.1 t.2).trans (Au.aF ts _)
theorem Au.lns (s:Au S T){l:List Ln}(e:l.map (·.num)=S.lns.map (·.num)):Au S { T with lns:=l }:=⟨s.long,e,s.gr,s.js,s.hl⟩
theorem Au.bz (h:S.lns[i]?=some ln)(e:y.num=ln.num):Au S { S with lns:=S.lns.set i y }:=Au.refl.lns (BO h e)
theorem Au.told (h:S.lns[i]?=some ln)(d:PyData):Au S (BH S i ln d):=(Au.aF ln.held S).lns (BO (y:={ ln with held:=[],st:="told",why:=d }) h rfl)
theorem Au.wait (h:S.lns[i]?=some ln):Au S (CF S i ln):=⟨rfl,BO (y:=AS ln "waits") h rfl,rfl,rfl,rfl⟩
theorem Au.left (h:S.lns[j]?=some lo):Au S (Bv S j lo).2:=by
 have f:=Au.aF lo.held S;unfold Bv;split
 .refine ⟨f.long,?_,f.gr,f.js,f.hl⟩;show ((S.lns.set j { lo with held:=[] }).set j (AS { lo with held:=[] } "waits")).map (·.num)=_;rw [Vp];exact BO h rfl
 .exact f.lns (BO (y:=AS { lo with held:=[] } "rests") h rfl)
theorem Au.bq (w:WF S)(h:S.lns[i]?=some ln)(hk:FI S i ln):Au S (CY S i ln).2:=by
 have D:Au S (aE S ln):=by unfold aE;split<;>exact ⟨rfl,rfl,rfl,rfl,rfl⟩
 have H:(aE S ln).lns[i]?=some ln:=by rw [Es];exact h
 have B:∀ T:PS,Au S T->T.lns[i]?=some ln->Au S (cI T i ln):=λT st L=>st.trans ((Au.aF ln.held T).lns (BO (y:=AS { ln with held:=[] } "rests") L rfl));show Au S (cI (B2 (aE S ln) ln).2 i ln);cases f:ln.ao with
 | none=>unfold B2;rw [f];exact B _ D H
 | some z =>
  obtain ⟨j,lo,I,O,ne,_⟩:=hk.f z f;have V:A3 (aE S ln).lns z=j:=by rw [Es,<- O];exact DL w I
  have J:(aE S ln).lns[j]?=some lo:=by rw [Es];exact I
  unfold B2;rw [f];dsimp only;rw [V,J];exact B _ (D.trans (Au.left J)) (by rw [Sw (Uj ne)];exact H)
theorem Au.into (h:S.lns[i]?=some ln){z:Str}:Au S (BN S i ln z).2:=by
 unfold BN;split
 .exact Au.told h _
 .split
  .exact Au.told h _
  .rename_i k _
   exact ⟨rfl,BO (y:={ ln with held:=ln.held++[(z,k)] }) h rfl,Sx λg=>by unfold D7 bA;rw [Ud],rfl,rfl⟩
theorem Au.toLine (h:S.lns[i]?=some ln){z:Str}(ns:ln.st≠"rests"):Au S (CA S i ln z).2:=by
 unfold CA;split
 .exact Au.told h _
 .rename_i lc hc
  split
  .rename_i er
   have ne:i≠A3 S.lns z:=λe=>by rw [<- e,h] at hc;cases hc;exact ns er
   refine Au.refl.lns ?_;have B:(S.lns.set i { ln with st:="rings",ao:=some lc.num })[A3 S.lns z]?=some lc:=by rw [Ut ne];exact hc
   exact (Dx (f:=λx:Ln=>x.num) (y:={ lc with st:="rung",ao:=some ln.num }) B rfl).trans (BO (y:={ ln with st:="rings",ao:=some lc.num }) h rfl)
  .exact Au.told h _
theorem Au.gap (h:S.lns[i]?=some ln)(f:ln.st≠"rests"):Au S (Cq S i ln).2:=by
 have B:Au S { S with lns:=S.lns.set i (Ar ln) }:=Au.bz h rfl;have D:({ S with lns:=S.lns.set i (Ar ln) }:PS).lns[i]?=some (Ar ln):=Bd h;unfold Cq;dsimp only;split
 .exact B.trans (Au.into D)
 .split
  .exact B
  .exact B.trans (Au.toLine D f)
theorem Au.bp (h:S.lns[i]?=some ln):Au S (CO S i ln).2:=by
 unfold CO;split
 .exact Au.bz h rfl
 .exact (Au.bz (y:={ ln with ag:=ln.ag+1 }) h rfl).trans (Au.told (S:={ S with lns:=S.lns.set i { ln with ag:=ln.ag+1 } }) (Bd h) _)
theorem Au.lift (w:WF S)(h:S.lns[i]?=some ln)(lk:HS S i ln):Au S (Cf S i ln).2:=by
 rcases lk with e | ⟨n,j,lc,f,B,ne⟩
 .unfold Cf;rw [if_pos e];exact Au.wait h
 .rw [MR n f (by rw [DL w B];exact B),DL w B];refine Au.refl.lns ?_;have D:(S.lns.set j { lc with st:="talks" })[i]?=some ln:=by rw [Ut ne];exact h
  exact (Dx (f:=λx:Ln=>x.num) (y:={ ln with st:="talks" }) D rfl).trans (BO (y:={ lc with st:="talks" }) B rfl)
theorem Au.go (w:WF S)(h:S.lns[i]?=some ln){d:LW}(f:d.fits ln=true):Au S (d.go S i ln).2:=by
 have k:=(w.go h f).2;cases d with
 | lift=>exact Au.lift w h k
 | bp=>exact Au.bp h
 | gap=>exact Au.gap h (by rw [LW.br f rfl];decide +kernel)
 | bq=>exact Au.bq w h k
theorem Au.fU (w:WF S){x:PyData×PS}(e:DJ S=some x):Au S x.2:=by obtain ⟨z,r,k,ln,D,H,B,I,J,rfl⟩:=JS w.cJ e;exact ⟨rfl,BO (y:={ AS ln "dials" with held:=ln.held++[((TK ""),k)] }) B rfl,rfl,rfl,Ud⟩
end
theorem Au.aS:∀(n:Nat){S:PS},WF S->Au S (aS n S).2
 | 0,_,_=>.refl
 | n+1,S,w=>by
  unfold Lw.aS;split
  .exact .refl
  .rename_i x e
   exact (Au.fU w e).trans (Au.aS n (w.fU e))
theorem MY:∀{n:Nat}{l:List Nat},l.Nodup->(∀ x∈l,x<n)->l.length<=n
 | 0,[],_,_=>T3 _
 | 0,x :: _,_,h=>absurd (h x UC) (Zz _)
 | n+1,l,D,h=>by
  by_cases m:n∈l
  .have i:=MY (n:=n) (l:=l.erase n) (D.erase n) λx B=>by
    have a:=(List.Nodup.mem_erase_iff D).mp B;have b:=h x a.2;have c:=a.1;omega
   rw [ZC m] at i;omega
  .have i:=MY (n:=n) (l:=l) D λx B=>by
    have b:=h x B;have c:x≠n:=λe=>m (e▸B);omega
   omega
theorem Ahh {n:Nat}{f:Nat->Nat}(h:∀ a b,a<n->b<n->a<b->f a≠f b):((UY n).map f).Nodup :=
 XG.mpr (ZO (λ{a b} B D lt=>h a b (UZ.mp B) (UZ.mp D) lt) ZP)
theorem Ahi {hs:List V}{js:List Bool}{AQ:Int}(D:0<=AQ)(e:BF hs js AQ=none)(B:∀ b∈js,b=false){k:Nat}{v:V}(hk:hs[k]?=some v):v≠.aa:=λz=>by
 have H:=(Uy.mp hk).1;unfold BF at e;rw [ZK] at e;refine e (k:Int) ?_ ?_
 .rw [U1];unfold BM;by_cases c:(k:Int)<AQ
  .exact .inr (Ua.mpr ⟨k,UZ.mpr (by omega),by omega⟩)
  .exact .inl (Ua.mpr ⟨((k:Int) - AQ).toNat,UZ.mpr (by omega),by omega⟩)
 .unfold Cp;rw [Vo,UO,hk,z];have:js.getD k false=false:=by
   rw [UO];cases q:js[k]? with
   | none=>rfl
   | some b=>exact B b (Ue q)
  rw [this];rfl
def Kg (S:PS):Prop:=∀(i:Nat)(ln:Ln),S.lns[i]?=some ln->∀ k k':Int,(TK "",k)∈ln.held->(TK "",k')∈ln.held->k=k'
theorem Ahj {S:PS}(w:WF S)(c:AB S)(one:Kg S)(hn:S.sk.hs.length=S.lns.length)(js:∀ b∈S.sk.js,b=false){i:Nat}{ln:Ln}(h:S.lns[i]?=some ln)(e:ln.held=[]):∃ k,BF S.sk.hs S.sk.js S.sk.mark=some k:=by
 cases f:BF S.sk.hs S.sk.js S.sk.mark with
 | some k=>exact ⟨k,rfl⟩
 | none =>
  exfalso
  have H:∀ k,k<S.sk.hs.length->∃(j:Nat)(B:Ln),S.lns[j]?=some B/\(TK "",(k:Int))∈B.held:=λk hk=>by
   have I:S.sk.hs[k]?=some S.sk.hs[k]:=Ug hk;have n:=Ahi w.g.m0 f js I;have o:AV S (TK "",(k:Int))=some S.sk.hs[k]:=by show (if (0:Int)<=k then S.sk.hs[(k:Int).toNat]? else none)=_;rw [if_pos (VW k),Vo];exact I
   exact (c _ _ o).resolve_left n
  obtain ⟨g,J⟩:∃ g:Nat->Nat,∀ k,k<S.sk.hs.length->∃ B:Ln,S.lns[g k]?=some B/\(TK "",(k:Int))∈B.held:=by refine ⟨λk=>if hk:k<S.sk.hs.length then Classical.choose (H k hk) else 0,λk hk=>?_⟩;dsimp only;rw [dif_pos hk];exact Classical.choose_spec (H k hk)
  have V:(i :: (UY S.sk.hs.length).map g).Nodup:=by
   refine Uv.mpr ⟨λm=>?_,Ahh λa b ha hb lt eq=>?_⟩
   .obtain ⟨k,mk,I⟩:=Ua.mp m;obtain ⟨B,D,L⟩:=J k (UZ.mp mk);rw [I,h] at D;cases D;rw [e] at L;cases L
   .obtain ⟨B,D,L⟩:=J a ha;obtain ⟨mP,O,Y⟩:=J b hb;rw [<- eq,D] at O;cases O;have:=one _ _ D _ _ L Y;omega
  have l:=MY (n:=S.lns.length) V λx m=>by
   rcases T8.mp m with rfl | m
   .exact (Uy.mp h).1
   .obtain ⟨k,mk,rfl⟩:=Ua.mp m;obtain ⟨B,D,_⟩:=J k (UZ.mp mk);exact (Uy.mp D).1
  rw [Vf,TU,Vg] at l;omega
def Cg (z:Str)(v:V):V:=if v=.str z then .aa else v
section
variable {S:PS}{p:Str}{r:List V×List Bool×List Int}{i:Nat}{ln:Ln}
theorem Sy (B:p≠TK "")(e:Ay S p=some r)(k:Nat):AV S (p,(k:Int))=r.1[k]?:=by unfold Ay at e;rw [if_neg B] at e;obtain ⟨g,D,rfl⟩:=UU.mp e;unfold AV BI;rw [if_neg B,D];show (if (0:Int)<=k then g.hs[(k:Int).toNat]? else none)=_;rw [if_pos (VW k),Vo]
theorem Ahk (B:p≠TK "")(e:Ay S p=some r)(w:Str)(k:Int):∃ hs,Ay (aT S w k) p=some (hs,r.2)/\hs.length=r.1.length:=by
 unfold Ay at e;rw [if_neg B] at e;obtain ⟨g,D,rfl⟩:=UU.mp e;unfold Ay aT;rw [if_neg B];by_cases c:w=TK ""
 .rw [if_pos c];exact ⟨g.hs,by show (Bo S p).map _=_;rw [D];rfl,rfl⟩
 .rw [if_neg c,FO (h:=λg=>{ g with hs:=g.hs.set k.toNat .aa }) λ_=>rfl,D];by_cases d:p=w
  .refine ⟨g.hs.set k.toNat .aa,?_,Ud⟩;rw [U7,if_pos d];rfl
  .refine ⟨g.hs,?_,rfl⟩;rw [U7,if_neg d];rfl
theorem Sz (B:p≠TK ""):∀(ts:List (Str×Int)){S:PS}{r:List V×List Bool×List Int},Ay S p=some r->∃ hs,Ay (aF S ts) p=some (hs,r.2)/\hs.length=r.1.length
 | [],_,r,e=>⟨r.1,e,rfl⟩
 | t :: ts,S,r,e=>by
  obtain ⟨hs,D,H⟩:=Ahk B e t.1 t.2;obtain ⟨I,J,L⟩:=Sz B ts D;exact ⟨I,J,L.trans H⟩
theorem SA (w:WF S)(c:AB S)(h:S.lns[i]?=some ln)(D:p≠TK "")(e:Ay S p=some r):Ay (aF S ln.held) p=some (r.1.map (Cg ln.num),r.2):=by
 obtain ⟨hs,J,l1⟩:=Sz D ln.held e;have L:=w.l i ln h;have ge:=L.ge;have eh:hs=r.1.map (Cg ln.num):=by
  refine XJ λk=>?_;have H:=Sy D J k;have I:=Sy D e k;dsimp only at H;rw [<- H,T7,<- I];by_cases m:(p,(k:Int))∈ln.held
  .have B:=L.ow _ m;have B:AV S (p,(k:Int))=some (.str ln.num):=B.trans (by unfold D6;rw [if_neg D]);rw [B];have kl:k<r.1.length:=by
    rw [B] at I;exact (Uy.mp I.symm).1
   have O:hs[k]?=some (hs[k]'(by omega)):=Ug (by omega);rw [H,O];have:=MX ge m (H.trans O);rw [this];show some V.aa=some (Cg ln.num (.str ln.num));unfold Cg;rw [if_pos rfl]
  .rw [EZ ge m];cases q:AV S (p,(k:Int)) with
   | none=>rfl
   | some v =>
    show some v=some (Cg ln.num v);unfold Cg;rw [if_neg];intro z;rcases c _ _ q with n | ⟨j,Y,hj,mj⟩
    .rw [n] at z;cases z
    .have B:=(w.l j Y hj).ow _ mj;rw [q] at B;have B:v=.str Y.num:=(Uk B).trans (by unfold D6;rw [if_neg D]);rw [B] at z;obtain ⟨rfl,rfl⟩:=w.g.one hj h (V.str.inj z);exact m mj
 rw [J,eh]
theorem Ahl {z B:Str}{g:Gr}{k:Int}{l:List Ln}(D:p≠TK "")(e:Ay S p=some r):Ay { S with aj:=S.aj.map (λy=>if y.pre=z then bA y k B else y),lns:=l } p=some (if p=z then (r.1.set k.toNat (.str B),r.2.1,r.2.2.set k.toNat (r.2.2.getD k.toNat 0+1)) else r):=by
 unfold Ay at e ⊢;rw [if_neg D] at e ⊢;obtain ⟨g,H,rfl⟩:=UU.mp e;have:=FO (S:=S) (w:=z) (z:=p) (h:=λg=>bA g k B) λ_=>rfl;have I:Bo { S with aj:=S.aj.map (λy=>if y.pre=z then bA y k B else y),lns:=l } p=(Bo S p).map λg=>if p=z then bA g k B else g:=this
 rw [I,H,U7,U7];by_cases d:p=z
 .rw [if_pos d,if_pos d];rfl
 .rw [if_neg d,if_neg d]
end
section
variable {S:PS}{p:Str}{r:List V×List Bool×List Int}{i:Nat}{ln:Ln}
theorem Ahm {z:Str}{k:Int}{b:Bool}(B:p≠TK "")(D:z≠TK "")(e:Ay S p=some r):Ay (Be S b z k) p=some (if p=z then (r.1,r.2.1.set k.toNat b,r.2.2) else r):=by
 unfold Ay at e ⊢;rw [if_neg B] at e ⊢;obtain ⟨g,H,rfl⟩:=UU.mp e;unfold Be;rw [if_neg D];have I:=FO (S:=S) (w:=z) (z:=p) (h:=λg=>{ g with js:=g.js.set k.toNat b }) λ_=>rfl;rw [I,H,U7,U7];by_cases d:p=z
 .rw [if_pos d,if_pos d]
 .rw [if_neg d,if_neg d]
theorem AB.aZ (c:AB S)(b:Bool)(z:Str)(k:Int):AB (Be S b z k):=c.keep (λp=>Sv p) (by rw [FR.1];exact Kp.refl)
structure Le (ln:Ln):Prop where
 ao:ln.ao=none
 way:(ln.st="rests"/\ln.held=[])\/(ln.st="told"/\ln.held=[])\/(ln.st="dials"/\∃ k ds,ln.held=(TK "",k) :: ds/\∀ t∈ds,t.1≠TK "")
structure E8 (S:PS):Prop where
 wf:WF S
 cv:AB S
 q:S.q=[]
 long:S.long=4
 js:∀ b∈S.sk.js,b=false
 n:S.sk.hs.length=S.lns.length
 l:∀(i:Nat)(ln:Ln),S.lns[i]?=some ln->Le ln
theorem E8.one (e:E8 S):Kg S:=λi ln h k I m m'=>by
 rcases (e.l i ln h).way with ⟨_,z⟩ | ⟨_,z⟩ | ⟨_,D,ds,z,H⟩
 .rw [z] at m;cases m
 .rw [z] at m;cases m
 .rw [z] at m m';have B:∀{c:Int},(TK "",c)∈(TK "",D) :: ds->c=D:=λ{c} mc=>by
   rcases T8.mp mc with y | y
   .exact congrArg Prod.snd y
   .exact absurd rfl (H _ y)
  exact (B m).trans (B m').symm
end
section
variable {S S' T:PS}{i:Nat}{ln y:Ln}
theorem Au.aA {dd:Addr}:Au S (aA S dd):=⟨rfl,rfl,rfl,rfl,rfl⟩
theorem Gz (h:S.q=[]):B1 S=([],S):=by unfold B1;rw [h];rfl
theorem Kh (w:WF S)(h:S.lns[i]?=some ln){d:LW}(f:d.fits ln=true):(Bf.line d ln.num).res S=.inr (d.go S i ln):=by unfold Bf.res;dsimp only;rw [DL w h,h];dsimp only;rw [if_pos f]
theorem Ahn (w:WF T)(c:AB T)(one:Kg T)(J:T.sk.hs.length=T.lns.length)(js:∀ b∈T.sk.js,b=false)(h:T.lns[i]?=some y)(hq:T.q=[y.num])(e:y.held=[]) :
  ∃ k d B,B1 T=([.tuple [.str "tone",.str y.num,.int k,.int d]],B)/\WF B/\AB B/\Au T B/\B.q=[]/\B.dn=T.dn/\B.aj=T.aj/\B.lns=T.lns.set i { AS y "dials" with held:=[(TK "",k)] }:=by
 obtain ⟨k,hk⟩:=Ahj w c one J js h e;have t:=Ro hq hk (show T.lns[A3 T.lns y.num]?=some y by rw [DL w h];exact h);have L:B1 T=aS 1 T:=by unfold B1;rw [hq];rfl
 have D:=w.mO;have H:=AB.mO w c;have I:Au T (B1 T).2:=Au.aS T.q.length w;rw [L] at D H I ⊢;unfold aS at D H I ⊢;rw [t] at D H I ⊢;refine B5 k _ _ rfl ⟨D,H,I,rfl,rfl,rfl,?_⟩;show T.lns.set (A3 T.lns y.num) { AS y "dials" with held:=y.held++[(TK "",k)] }=_;rw [DL w h,e];rfl
theorem GA {p:Str}(B:p≠TK "")(e:S'.aj=S.aj):Ay S' p=Ay S p:=by unfold Ay Bo;rw [if_neg B,if_neg B,e]
theorem E8.of (e:E8 S)(D:WF S')(H:AB S')(I:S'.q=[])(s:Au S S')(J:∀ k,k≠i->S'.lns[k]?=S.lns[k]?)(L:∀ y,S'.lns[i]?=some y->Le y):E8 S':=by
 refine ⟨D,H,I,s.long.trans e.long,by rw [s.js];exact e.js,by rw [s.hl,Ig s.num];exact e.n,λk B hk=>?_⟩;by_cases c:k=i
 .subst c;exact L B hk
 .rw [J k c] at hk;exact e.l k B hk
theorem E8.lift (e:E8 S)(h:S.lns[i]?=some ln)(es:ln.st="rests")(dd:Addr) :
  (Bf.line .lift ln.num).res S=.inr ([.tuple [.str "waits",.str ln.num]],CF S i ln)/\∃ k d S',B1 (aA (CF S i ln) dd)=([.tuple [.str "tone",.str ln.num,.int k,.int d]],S')/\E8 S'/\Au S S'/\S'.dn=S.dn++[.ref dd]/\S'.aj=S.aj/\S'.lns=S.lns.set i { AS ln "dials" with held:=[(TK "",k)] }:=by
 have L:ln.held=[]:=by
  rcases (e.l i ln h).way with ⟨_,z⟩ | ⟨_,z⟩ | ⟨z,_⟩
  .exact z
  .exact z
  .rw [es] at z;exact absurd z (by decide +kernel)
 have f:LW.lift.fits ln=true:=by unfold LW.fits;rw [es];rfl
 have go:LW.lift.go S i ln=([.tuple [.str "waits",.str ln.num]],CF S i ln):=by show ([(Cf S i ln).1],(Cf S i ln).2)=_;unfold Cf;rw [if_pos es]
 have D:=Kh e.wf h f;rw [go] at D;refine ⟨D,?_⟩;have one:Kg (aA (CF S i ln) dd):=λk O hk=>by
  have hk:(S.lns.set i (AS ln "waits"))[k]?=some O:=hk;by_cases c:i=k
  .subst c;rw [Bd h] at hk;cases hk;intro a b B;have B:_∈ln.held:=B;rw [L] at B;cases B
  .rw [Ut c] at hk;exact e.one k O hk
 have hn:(aA (CF S i ln) dd).sk.hs.length=(aA (CF S i ln) dd).lns.length:=by show S.sk.hs.length=(S.lns.set i _).length;rw [Ud];exact e.n
 obtain ⟨k,d,S',et,w',c',s',q',H,I,l'⟩:=Ahn (i:=i) (y:=AS ln "waits") ((e.wf.res D).1.dn (d:=(CF S i ln).dn++[V.ref dd])) ((e.cv.wait h).dn (d:=(CF S i ln).dn++[V.ref dd])) one hn e.js (Bd h) (by show S.q++[ln.num]=_;rw [e.q];rfl) L;have J:S'.lns=S.lns.set i { AS ln "dials" with held:=[(TK "",k)] }:=by rw [l'];show (S.lns.set i _).set i _=_;rw [Vp];rfl
 have Y:=(Au.wait h).trans (Au.aA.trans s');refine ⟨k,d,S',et,e.of (i:=i) w' c' q' Y (λk n=>by rw [J,Ut (Uj n)]) (λy hy=>?_),Y,H,I,J⟩;rw [J,Bd h] at hy;cases hy;exact ⟨rfl,.inr (.inr ⟨rfl,k,[],rfl,λt m=>nomatch m⟩)⟩
end
section
variable {S S' T:PS}{i:Nat}{ln y:Ln}
theorem E8.bq (e:E8 S)(h:S.lns[i]?=some ln)(ns:ln.st≠"rests")(dd:Addr) :
  ∃ S',(Bf.line .bq ln.num).res S=.inr ([.tuple [.str "rests",.str ln.num]],S')/\B1 (aA S' dd)=([],aA S' dd)/\E8 (aA S' dd)/\Au S (aA S' dd)/\S'.dn=S.dn/\(∀ p r,p≠TK ""->Ay S p=some r->Ay (aA S' dd) p=some (r.1.map (Cg ln.num),r.2)):=by
 have L:=e.l i ln h;have B:ln.st≠"waits"/\LW.bq.fits ln=true:=by
  rcases L.way with ⟨z,_⟩ | ⟨z,_⟩ | ⟨z,_⟩
  .exact absurd z ns
  .refine ⟨by rw [z];decide +kernel,?_⟩;unfold LW.fits;rw [z];rfl
  .refine ⟨by rw [z];decide +kernel,?_⟩;unfold LW.fits;rw [z];rfl
 have Y:aE S ln=S:=if_neg B.1;have go:LW.bq.go S i ln=([.tuple [.str "rests",.str ln.num]],cI S i ln):=by show CY S i ln=_;unfold CY B2;rw [Y,L.ao]
 have D:=Kh e.wf h B.2;have H:=AB.go e.wf e.cv h B.2;have I:=Au.go e.wf h B.2;rw [go] at D H I;have J:(cI S i ln).q=[]:=(EX ln.held S).trans e.q;have O:=I.trans (Au.aA (dd:=dd));refine ⟨_,D,Gz J,e.of (i:=i) (e.wf.res D).1.dn H.dn J O (λk n=>Ut (Uj n)) (λy hy=>?_),O,Ij ln.held S,λp r V hr=>?_⟩
 .have hy:_=some y:=(Bd h).symm.trans hy;cases hy;exact ⟨rfl,.inl ⟨rfl,rfl⟩⟩
 .exact (GA (S:=aF S ln.held) V rfl).trans (SA e.wf e.cv h V hr)
end
theorem SD:∀(ts:List (Str×Int)){S S':PS},S'.aj=S.aj->S'.sk=S.sk->(aF S' ts).aj=(aF S ts).aj
 | [],_,_,e,_=>e
 | t :: ts,S,S',e,e2=>by
  refine SD ts (S:=aT S t.1 t.2) (S':=aT S' t.1 t.2) ?_ ?_
  .unfold aT;split
   .exact e
   .show S'.aj.map _=S.aj.map _;rw [e]
  .unfold aT;split
   .dsimp only;rw [e2]
   .exact e2
section
variable {S S' T:PS}{i:Nat}{ln y:Ln}{w:Str}
theorem E8.bp (e:E8 S)(h:S.lns[i]?=some y)(es:y.st="dials")(O:0<=y.ag)(V:y.ag<10)(dd:Addr) :
  (Bf.line .bp y.num).res S=.inr ([],{ S with lns:=S.lns.set i { y with ag:=y.ag+1 } })/\E8 (aA { S with lns:=S.lns.set i { y with ag:=y.ag+1 } } dd)/\Au S (aA { S with lns:=S.lns.set i { y with ag:=y.ag+1 } } dd):=by
 have B:LW.bp.fits y=true:=by unfold LW.fits;rw [es];rfl
 have go:LW.bp.go S i y=([],{ S with lns:=S.lns.set i { y with ag:=y.ag+1 } }):=by show CO S i y=_;unfold CO;rw [if_pos (by omega)]
 have D:=Kh e.wf h B;have H:=AB.go e.wf e.cv h B;have I:=Au.go e.wf h B;rw [go] at D H I;have J:=I.trans (Au.aA (dd:=dd));refine ⟨D,e.of (i:=i) (e.wf.res D).1.dn H.dn e.q J (λk n=>Ut (Uj n)) (λu hu=>?_),J⟩;have hu:_=some u:=(Bd h).symm.trans hu;cases hu;have L:=e.l i y h;exact ⟨L.ao,L.way⟩
theorem E8.gap (e:E8 S)(h:S.lns[i]?=some y)(es:y.st="dials")(ai:y.ai++Dc y.ag=w)(lw:w.length<=2)(w0:w≠TK "")(pp:1<=y.ag/\y.ag<=10)(dd:Addr) :
  ∃ x S',(Bf.line .gap y.num).res S=.inr ([x],S')/\S'.dn=S.dn/\B1 (aA S' dd)=([],aA S' dd)/\E8 (aA S' dd)/\Au S (aA S' dd) /\
   ((Bo S w=none/\x=.tuple [.str "none",.str y.num,.str w]/\∀ p r,p≠TK ""->Ay S p=some r->Ay (aA S' dd) p=some (r.1.map (Cg y.num),r.2)) \/
    (∃ g,Bo S w=some g/\BF g.hs g.js 0=none/\x=.tuple [.str "busy",.str y.num,.tuple [.str "group",.str w,.tuple (CZ g)]]/\∀ p r,p≠TK ""->Ay S p=some r->Ay (aA S' dd) p=some (r.1.map (Cg y.num),r.2)) \/
    (∃ g k,Bo S w=some g/\BF g.hs g.js 0=some k/\x=.tuple [.str "takes",.str y.num,.str w,.int k]/\S'.lns[i]?=some { Ar y with held:=y.held++[(w,k)] }/\∀ p r,p≠TK ""->Ay S p=some r->Ay (aA S' dd) p=some (if p=w then (r.1.set k.toNat (.str y.num),r.2.1,r.2.2.set k.toNat (r.2.2.getD k.toNat 0+1)) else r))):=by
 have L:=e.l i y h;have fi:LW.gap.fits y=true:=by unfold LW.fits;rw [es,Vu];exact ⟨rfl,decide_eq_true (show y.ag≠0 by omega)⟩
 have D:=Kh e.wf h fi;have H:=AB.go e.wf e.cv h fi;have O:=Au.go e.wf h fi;have I:=(LW.gap.qL (S:=S) (i:=i) (ln:=y)).1;have hg:(S.lns.set i (Ar y))[i]?=some (Ar y):=Bd h;have go0:LW.gap.go S i y=([(BN { S with lns:=S.lns.set i (Ar y) } i (Ar y) w).1],(BN { S with lns:=S.lns.set i (Ar y) } i (Ar y) w).2):=by show ([(Cq S i y).1],(Cq S i y).2)=_;unfold Cq;dsimp only;have ef:(Ar y).ai=w:=ai;rw [ef,if_pos (by rw [e.long];omega)]
 rw [go0] at D H O I;have B:=O.trans (Au.aA (dd:=dd));have J:WF (aA (BN { S with lns:=S.lns.set i (Ar y) } i (Ar y) w).2 dd):=(e.wf.res D).1.dn;have told:∀ d:PyData,∀ p r,p≠TK ""->Ay S p=some r->Ay (aA (BH { S with lns:=S.lns.set i (Ar y) } i (Ar y) d) dd) p=some (r.1.map (Cg y.num),r.2):=λd p r Y hr=>by
  have e1:(aF { S with lns:=S.lns.set i (Ar y) } y.held).aj=(aF S y.held).aj:=SD y.held rfl rfl;exact (GA (S:=aF S y.held) Y e1).trans (SA e.wf e.cv h Y hr)
 have tl:∀ d:PyData,(BH { S with lns:=S.lns.set i (Ar y) } i (Ar y) d).lns=S.lns.set i { Ar y with held:=[],st:="told",why:=d }:=λd=>by
  show (S.lns.set i _).set i _=_;rw [Vp]
 have tq:∀ d:PyData,(BH { S with lns:=S.lns.set i (Ar y) } i (Ar y) d).q=[]:=λd=>(EX y.held _).trans e.q;have te:∀ d:PyData,WF (aA (BH { S with lns:=S.lns.set i (Ar y) } i (Ar y) d) dd)->AB (BH { S with lns:=S.lns.set i (Ar y) } i (Ar y) d)->Au S (aA (BH { S with lns:=S.lns.set i (Ar y) } i (Ar y) d) dd)->E8 (aA (BH { S with lns:=S.lns.set i (Ar y) } i (Ar y) d) dd):=λd w' c' s'=>by
  refine e.of (i:=i) w' c'.dn (tq d) s' (λk n=>?_) (λu hu=>?_)
  .show (BH _ _ _ _).lns[k]?=_;rw [tl,Ut (Uj n)]
  .have hu:(BH _ _ _ _).lns[i]?=some u:=hu;rw [tl,Bd h] at hu;cases hu;exact ⟨L.ao,.inr (.inl ⟨rfl,rfl⟩)⟩
 cases qN:Bo S w with
 | none =>
  have V:BN { S with lns:=S.lns.set i (Ar y) } i (Ar y) w=(.tuple [.str "none",.str y.num,.str w],BH { S with lns:=S.lns.set i (Ar y) } i (Ar y) (.tuple [.str "none",.str w])):=by have jU:Bo { S with lns:=S.lns.set i (Ar y) } w=none:=qN;unfold BN;rw [jU];dsimp only;rw [show (Ar y).ai=w from ai];rfl
  rw [V] at D H O I B J;exact ⟨_,_,D,I,Gz (tq (.tuple [.str "none",.str w])),te _ J H B,B,.inl ⟨rfl,rfl,told (.tuple [.str "none",.str w])⟩⟩
 | some g =>
  have jU:Bo { S with lns:=S.lns.set i (Ar y) } w=some g:=qN;cases hf:BF g.hs g.js 0 with
  | none =>
   have V:BN { S with lns:=S.lns.set i (Ar y) } i (Ar y) w=(.tuple [.str "busy",.str y.num,.tuple [.str "group",.str w,.tuple (CZ g)]],BH { S with lns:=S.lns.set i (Ar y) } i (Ar y) (.tuple [.str "group",.str w,.tuple (CZ g)])):=by unfold BN;rw [jU];dsimp only;rw [hf];rfl
   rw [V] at D H O I B J;exact ⟨_,_,D,I,Gz (tq (.tuple [.str "group",.str w,.tuple (CZ g)])),te _ J H B,B,.inr (.inl ⟨g,rfl,hf,rfl,told (.tuple [.str "group",.str w,.tuple (CZ g)])⟩)⟩
  | some k =>
   have V:BN { S with lns:=S.lns.set i (Ar y) } i (Ar y) w=(.tuple [.str "takes",.str y.num,.str w,.int k],{ S with aj:=S.aj.map (λu=>if u.pre=w then bA u k y.num else u),lns:=S.lns.set i { Ar y with held:=y.held++[(w,k)] } }):=by unfold BN;rw [jU];dsimp only;rw [hf];dsimp only;rw [Vp];rfl
   rw [V] at D H O I B J;refine ⟨_,_,D,I,Gz e.q,e.of (i:=i) J H.dn e.q B (λk n=>Ut (Uj n)) (λu hu=>?_),B,.inr (.inr ⟨g,k,rfl,hf,rfl,Bd h,λp r Y hr=>Ahl (g:=g) (l:=S.lns.set i { Ar y with held:=y.held++[(w,k)] }) Y hr⟩)⟩;have hu:_=some u:=(Bd h).symm.trans hu;cases hu;refine ⟨L.ao,.inr (.inr ⟨es,?_⟩)⟩;rcases L.way with ⟨z,_⟩ | ⟨z,_⟩ | ⟨_,k0,ds,z,nd⟩
   .rw [es] at z;exact absurd z (by decide +kernel)
   .rw [es] at z;exact absurd z (by decide +kernel)
   .refine ⟨k0,ds++[(w,k)],by show y.held++_=_;rw [z];rfl,λt m=>?_⟩;rcases U1.mp m with m | m
    .exact nd t m
    .rw [UB.mp m];exact w0
end
section
variable {S:PS}
theorem E8.aZ (e:E8 S){z:Str}{k:Int}{b:Bool}{r:List V×List Bool×List Int}(B:z≠TK "")(D:Ay S z=some r)(hk:0<=k/\k<r.1.length)(dd:Addr) :
  (Bf.aZ b z k).res S=.inr ([],Be S b z k)/\B1 (aA (Be S b z k) dd)=([],aA (Be S b z k) dd)/\E8 (aA (Be S b z k) dd)/\(aA (Be S b z k) dd).dn=S.dn++[.ref dd]/\(aA (Be S b z k) dd).lns=S.lns /\
   ∀ p r,p≠TK ""->Ay S p=some r->Ay (aA (Be S b z k) dd) p=some (if p=z then (r.1,r.2.1.set k.toNat b,r.2.2) else r):=by
 have O:BI S z=some r.1:=by unfold Ay at D;rw [if_neg B] at D;obtain ⟨g,Y,rfl⟩:=UU.mp D;unfold BI;rw [if_neg B,Y];rfl
 have er:(Bf.aZ b z k).res S=.inr ([],Be S b z k):=by unfold Bf.res;dsimp only;rw [O];dsimp only;rw [if_pos (Hx.mpr ⟨hk.1,hk.2⟩)]
 obtain ⟨H,j2,j3,j4⟩:=FR (S:=S) (b:=b) (z:=z) (k:=k);have sk:(Be S b z k).sk=S.sk:=by unfold Be;rw [if_neg B]
 have I:(Be S b z k).q=[]:=j2.trans e.q;refine ⟨er,Gz I,⟨(e.wf.aZ b z k).dn,(e.cv.aZ b z k).dn,I,j3.trans e.long,?_,?_,λi J h=>?_⟩,?_,H,λp r L hp=>(GA (S:=Be S b z k) L rfl).trans (Ahm L B hp)⟩
 .show ∀ b'∈(Be S b z k).sk.js,b'=false;rw [sk];exact e.js
 .show (Be S b z k).sk.hs.length=(Be S b z k).lns.length;rw [sk,H];exact e.n
 .have h:(Be S b z k).lns[i]?=some J:=h;rw [H] at h;exact e.l i J h
 .show (Be S b z k).dn++_=_;rw [j4]
end
theorem Aho {B n:Int}{zs:List Str}{H:List (Str×Int)}{p:Str×Int}{v:V}(e:AV (bY B zs n H) p=some v):v=.aa:=by
 unfold AV BI at e;have D:∀(m:Nat),(if 0<=p.2 then (TX m V.aa)[p.2.toNat]? else none)=some v->v=.aa:=λm e=>by
  split at e
  .have:=Ue e;exact ZQ this
  .cases e
 by_cases c:p.1=TK ""
 .rw [if_pos c] at e;exact D _ e
 .rw [if_neg c] at e;cases g:Bo (bY B zs n H) p.1 with
  | none=>rw [g] at e;cases e
  | some I =>
   rw [g] at e;obtain ⟨m,_⟩:=MQ g;obtain ⟨q,_,rfl⟩:=Ua.mp (show I∈H.map BP from m);exact D _ e
theorem E8.bY {zs hs:List Str}{n:Nat}(L:zs.Nodup)(O:zs.length=n)(n1:1<=n/\n<=60)(D:∀ z∈zs,z.length=4/\Ca z)(Y:hs.Nodup)(H:∀ z∈hs,(1<=z.length/\z.length<=2)/\Ca z) :
  E8 (Lw.bY 4 zs n (hs.map λh=>(h,10)))/\∀ p∈hs,Ay (Lw.bY 4 zs n (hs.map λh=>(h,10))) p=some (TX 10 .aa,TX 10 false,TX 10 0):=by
 have eh:((hs.map λh=>(h,(10:Int))).map (·.1))=hs:=by rw [Uo];exact Wz hs
 have ne:∀ y∈hs,y≠TK "":=λy B c=>by
  have:=(H y B).1.1;rw [c] at this;exact absurd this (by decide)
 have I:WF (Lw.bY 4 zs n (hs.map λh=>(h,10))):=by
  refine WF.bY (by decide) (by decide) L (by omega) (by omega) (by omega) (by omega) (by rw [eh];exact Y) (λp m=>?_) (λz m=>?_) (λp m=>?_) (λz m=>by rw [(D z m).1];rfl) (λp m=>?_);all_goals try obtain ⟨y,B,rfl⟩:=Ua.mp m
  .exact ⟨ne y B,(by show (0:Int)<=10;decide),(by show (10:Int)<=10;decide)⟩
  .exact ⟨⟨(D z m).2.asc,by have:=(D z m).1;omega⟩,by have:=(D z m).1;omega⟩
  .exact ⟨(H y B).2.asc,by have:=(H y B).1;show y.length<=20;omega⟩
  .show (y.length:Int)<=4 - 2;have:=(H y B).1;omega
 refine ⟨⟨I,λp v e=>.inl (Aho e),rfl,rfl,?_,?_,λi ln h=>?_⟩,λp J=>?_⟩
 .intro b m;exact ZQ (show b∈TX ((n:Int)).toNat false from m)
 .show (TX ((n:Int)).toNat V.aa).length=(zs.map CG).length;rw [UR,TU,Vo,O]
 .have h:(zs.map CG)[i]?=some ln:=h;rw [T7] at h;obtain ⟨z,hz,rfl⟩:=UU.mp h;exact ⟨rfl,.inl ⟨rfl,rfl⟩⟩
 .obtain ⟨k,hk,e⟩:=Vd J;have eg:((hs.map λh=>(h,(10:Int))).map BP)[k]?=some (BP (p,10)):=by
   rw [T7,T7,Ug hk,e];rfl
  have:=J1 (l:=(hs.map λh=>(h,(10:Int))).map BP) I.g.pre eg;unfold Ay;rw [if_neg (ne p J)];show (((hs.map λh=>(h,(10:Int))).map BP).find? _).map _=_;rw [show ((hs.map λh=>(h,(10:Int))).map BP).find? (λg=>decide (g.pre=p))=some (BP (p,10)) from this];rfl
theorem Ahp (ds:List PyData):V8 (.tuple ds)=YB ds+1:=by simp [V8]
theorem Ahq (ds:List PyData):V8 (.list ds)=YB ds+1:=by simp [V8]
theorem Ahr {z:Str}(h:C8 z):ZR (.str z)=true:=by show PyData.strOk z=true;unfold PyData.strOk;rw [<- uP,Xb];intro c hc;have:=h c hc;simp only [decide_eq_true_eq];omega
structure Ci (n:Nat)(d:PyData):Prop where
 c:ZR d=true
 k:V8 d<=n
theorem Il {n:Nat}:∀{ds:List PyData},(∀ d∈ds,Ci n d)->uU ds=true/\YB ds<=n
 | [],_=>⟨rfl,UH _⟩
 | d :: ds,h=>by
  obtain ⟨B,D⟩:=Il λe m=>h e (Uu _ m);have:=h d UC;refine ⟨?_,?_⟩
  .show (ZR _ && uU _)=true;rw [this.c,B];rfl
  .show max (V8 d) (YB ds)<=n;exact Nat.max_le.mpr ⟨this.k,D⟩
theorem Ci.tup {n:Nat}{ds:List PyData}(h:∀ d∈ds,Ci n d):Ci (n+1) (.tuple ds):=⟨(Il h).1,by rw [Ahp];exact Ya (Il h).2⟩
theorem Ci.lst {n:Nat}{ds:List PyData}(h:∀ d∈ds,Ci n d):Ci (n+1) (.list ds):=⟨(Il h).1,by rw [Ahq];exact Ya (Il h).2⟩
theorem Ci.str {n:Nat}{z:Str}(h:C8 z):Ci n (.str z):=⟨Ahr h,by simp [V8]⟩
theorem Ci.int {n:Nat}(z:Int):Ci n (.int z):=⟨rfl,by simp [V8]⟩
theorem asc {z:Str}(h:C8 z:=by unfold C8;decide +kernel):C8 z:=h
theorem D8 {p:PyData->Prop}{a:PyData}(B:p a):∀ d∈[a],p d:=λd m=>by
 rw [UB.mp m];exact B
theorem DM {p:PyData->Prop}{a:PyData}{l:List PyData}(B:p a)(D:∀ d∈l,p d):∀ d∈a :: l,p d:=λd m=>by
 rcases T8.mp m with rfl | m
 .exact B
 .exact D d m
section
variable {K:TH}{a:Ak}{H H':Hp}{X:HX}{R P':AK}{r:Addr}{u u':HO}
theorem Fb:AY a X R=AY a X []++R:=by unfold AY;simp only [Ur,V3]
theorem HT.setIn (t:HT K a H X (P'++(r,u) :: R))(k:Gn u=false):HT K a (upd H r u') X (P'++(r,u') :: R)/\Ah H (upd H r u'):=by have B:=t.t;rw [Fb,<- Ur] at B;have I:H r=some u:=B.get (UD _ UC);have p:Ah H (upd H r u'):=.chg I k;have D:=At.set (o':=u') B;rw [Ur,<- Fb] at D;exact ⟨⟨D,t.ok.av p⟩,p⟩
end
section
variable {K:TH}{a:Ak}{H:Hp}{X:HX}{R:AK}{z:Str}{dd:Addr}{d:Bf}{tl:List PyData}{S':PS}
theorem Im {Q:VK}{E:XK}(t:HT K a H X R)(w:WF X.S)(I:d.txt)(hd:H dd=some (.tup d.vals))(e:d.res X.S=.inr (tl,S'))(dn:S'.dn.length<1000000)(q:∀ B D p xs,HT K a B D ((p,.lst (xs.map V.ref)) :: R)->D.h=X.h->D.S=(B1 (aA S' dd)).2->Ah H B->B0 K B xs (tl++(B1 (aA S' dd)).1)->Q (.ref p) B):J6 K a [.ref X.h,.ref dd] H Q E:=by refine A9 X R d dd rfl t hd (w.pre I) (Xa w.g.qA (by decide)) ?_;rw [e];exact ⟨(w.res e).1.cJ,dn,(w.res e).2.2,q⟩
end
theorem At.add {H B:Hp}{C:AK}{b:Addr}{u:HO}(t:At H C)(s:Ag H B)(n:H b=none)(h:B b=some u):At B ((b,u) :: C):=⟨λc m=>by
 rcases T8.mp m with rfl | m
 .exact h
 .exact s _ _ (t.at_ c m),Uv.mpr ⟨t.free n,t.nd⟩⟩
structure GE where
 (pre:Str) (dx ha ja sa:Addr) (h:List V) (j:List Bool) (t:List Int)
def GE.kv (e:GE):List (Av×V):=[(.inr "held",.ref e.ha),(.inr "stuck",.ref e.ja),(.inr "shares",.ref e.sa)]
def B7 (e:GE):AK:=[(e.dx,.dK e.kv),(e.ha,.lst e.h),(e.ja,.lst (e.j.map V.bl)),(e.sa,.lst (e.t.map V.int))]
def aH (es:List GE):List (Av×V):=es.map λe=>(.inr e.pre,.ref e.dx)
structure FT (e:GE):Prop where
 lh:e.h.length=10
 lj:e.j.length=10
 lt:e.t.length=10
 hv:∀ v∈e.h,v=.aa\/∃ z,v=.str z/\z.length=4/\Ok z
section
variable {H:Hp}{e:GE}{R:AK}
theorem Et (t:At H (B7 e++R)):H e.dx=some (.dK e.kv):=t.at_ _ UC
theorem Io (t:At H (B7 e++R)):H e.ha=some (.lst e.h):=t.at_ _ (Uu _ UC)
theorem Ki (t:At H (B7 e++R)):H e.ja=some (.lst (e.j.map V.bl)):=t.at_ _ (Uu _ (Uu _ UC))
theorem Ahs (t:At H (B7 e++R)):H e.sa=some (.lst (e.t.map V.int)):=t.at_ _ (Uu _ (Uu _ (Uu _ UC)))
theorem Kj:Bj e.kv (.inr "held")=some (.ref e.ha):=rfl
theorem MZ:Bj e.kv (.inr "stuck")=some (.ref e.ja):=rfl
theorem SE:Bj e.kv (.inr "shares")=some (.ref e.sa):=rfl
end
theorem Kk {es:List GE}{i:Nat}{e:GE}(D:(es.map (·.pre)).Nodup)(h:es[i]?=some e):Bj (aH es) (.inr e.pre)=some (.ref e.dx):=by
 induction es generalizing i with
 | nil=>cases h
 | cons y es ih =>
  have B:=Uv.mp D;cases i with
  | zero=>cases h;exact Ek rfl
  | succ i =>
   have m:e.pre∈es.map (·.pre):=Ua.mpr ⟨e,Ue h,rfl⟩;exact (DE (λc=>B.1 (by show y.pre∈_;rw [V9 c];exact m))).trans (ih B.2 h)
theorem SF {es:List GE}{z:Str}(m:z ∉ es.map (·.pre)):Bj (aH es) (.inr z)=none:=by
 induction es with
 | nil=>rfl
 | cons y es ih =>
  rw [U4,T8,not_or] at m;exact (DE (λc=>m.1 (V9 c).symm)).trans (ih m.2)
def FU (e:GE)(k:Nat)(z:Str):GE:={ e with h:=e.h.set k (.str z),t:=e.t.set k (e.t.getD k 0+1) }
def DN (e:GE)(n:Nat):List Nat:=(UY n).filter λk=>Cp e.h e.j k
theorem M0 (e:GE)(n:Nat):DN e (n+1)=DN e n++if Cp e.h e.j n=true then [n] else []:=by
 unfold DN;rw [WZ,Yu];congr 1
 rw [ZF,ZG]
theorem Aht {e:GE}(h:e.h.length=10):BF e.h e.j 0=(DN e 10).head?.map λ(k:Nat)=>(k:Int):=by unfold BF DN;rw [h,show BM 0 ((10:Nat):Int)++BM 0 0=(UY 10).map λ(k:Nat)=>(k:Int) from by decide +kernel,List.find?_map,List.head?_filter];rfl
def SG (K:TH):Sp:=λvs H Q _=>∃(e:GE)(R:AK)(z:Str),vs=[.ref e.dx,.str z]/\At H (B7 e++R)/\FT e /\
 (BF e.h e.j 0=none->∀ H',Ag H H'->Q .aa H')/\∀ k:Nat,k<10->BF e.h e.j 0=some (k:Int)->∀ H',At H' (B7 (FU e k z)++R)->Ah H H'->Q (.int k) H'
structure SH (mg:Str->Option Value):Prop where
 cy:mg "range"=none
 dP:mg "tuple"=none
 gv:mg "int"=none
theorem M3 {α:Type}{f:α->V}{l:List α}{k n:Nat}{d:α}(h:l.length=n)(hk:k<n):BA (l.map f) (k:Int)=some (f (l.getD k d)):=by refine EI ?_;rw [T7,YC,Ug (by omega)];rfl
theorem SI {l:List V}{k n:Nat}{d:V}(h:l.length=n)(hk:k<n):BA l (k:Int)=some (l.getD k d):=by refine EI ?_;rw [YC,Ug (by omega)];rfl
theorem SJ:AR ["group","line","some"] ["group","line"] (Ab (top 43)):=.of
theorem SK:Hm (Ab (top 43)) "group":=by walk_at "k"
theorem Ahu:Nm (Ab (top 43)) "line":=.of
theorem Ip:Nm (Ab (top 43)) "some":=.of
theorem Ahv:Gm (Ab (top 43)) "range":=.of
def M4:Scope:={ kind:=.function,names:=[(".0",.local),("k",.local),("group",.free)],isGenerator:=false,isCoroutine:=false,more:=[] }
theorem SM:Bh M4 (Ab (top 43)) ["k","group"] ["group","line","some"] [none,some 0]:=Bh.mk' rfl (by decide +kernel) (by decide +kernel) (by decide +kernel) (by decide +kernel) rfl (by decide +kernel)
theorem Kl:Nm M4 "k":=.of
theorem SN:EO M4 "group":=by walk_at "k"
theorem Ahw (F:AL K "_law_takes" "_law_takes" (top 43) f fd)(T:SH mg):AE P w K mg base AA 1 f fd ["group","line"] (SG K):=by
 refine F.ok SJ λak A outer s H vs Q E hr h=>?_
 .obtain ⟨e,R,z,rfl,t,ok,q1,q2⟩:=h;have hu:=hr.units;have nd:=SJ.nd;refine ⟨_,(@Aj _ _ _ _ _ (O1 (j:=2) rfl nd rfl (T9 Ip.loc) SM (FA Ahv T.cy (Ac Aq Af)) (λcl C fp pins s₂ H₂=>(Bt 0 SM.nd Kl.comp)) (λcl C fp pins s₂ H₂=>(K7 (PW.pt (NV (A0 EF (Bi (ER K rfl) (BU P w K (EN 1 SN.comp) Az) (Aa 0 Kl.comp) (λ_ _=>rfl)) B8 (A6 _)) (NU (Dr (Dj (Bi (ER K rfl) (BU P w K (EN 1 SN.comp) Az) (Aa 0 Kl.comp) (λ_ _=>rfl))))))))) (λcl C fp pins s₂ H₂=>(Aa 0 Kl.comp)) (by rfl) (by intro _;rfl) (T9 rfl))
    (Aj (AZ (A0 (CC hu) (Aa 2 Ip) (Bn Af) (A6 _)) (Al (AN B8)) A5)
    (Aj (EA (Aa 1 Ahu) (Fn (BU P w K (Je 0 SK) Az) (Bi Bx (Aa 2 Ip) Aq (λ_ _=>rfl)) DS))
    (Aj (KI (BU P w K (Je 0 SK) Az) (Bi Bx (Aa 2 Ip) Aq (λ_ _=>rfl)) Lj Aq KJ DS)
    (Al (AN (Bi Bx (Aa 2 Ip) Aq (λ_ _=>rfl)))))))),?_⟩
  try dsimp only [aC,aD]
  walk_at"";refine ⟨by decide,by decide,λD nD=>?_⟩;refine Ho (lo:=0) (n:=((10:Int)).toNat) (λi σ H'=>∃ x,σ=[x,some (.ref e.dx)]/\Ag H H'/\H' D=some (.lst ((DN e i).map λ(k:Nat)=>V.int (k:Int)))) ⟨none,rfl,(Ag.refl H).upd nD,Ai⟩ ?_ ?_
  .intro i σ H' hi zq;obtain ⟨x,rfl,I,J⟩:=zq;simp only [Xf];have hi:i<10:=hi;have t':=t.same I;have B:Cp e.h e.j i=(decide (e.h.getD i .aa=.aa) && !(e.j.getD i false)):=by unfold Cp;rw [Vo]
   have len:((DN e i).map λ(k:Nat)=>V.int (k:Int)).length<sizeLine:=by rw [TU,TY];have:(DN e i).length<=i:=UM (ZH _ _) (by rw [Vg];exact T3 i);omega
   walk_at"";refine AX e.dx _ (.inr "held") _ rfl rfl (.of (Et t')) Kj ?_;walk_at"";refine T9 (BK (.of (Io t')) (SI (d:=.aa) ok.lh hi) ?_);walk_at"";by_cases c:e.h.getD i .aa=.aa
   .rw [decide_eq_true c] at B ⊢;refine BQ ?_;walk_at"";refine AX e.dx _ (.inr "stuck") _ rfl rfl (.of (Et t')) MZ ?_;walk_at"";refine T9 (BK (.of (Ki t')) (M3 (f:=V.bl) (d:=false) ok.lj hi) ?_);walk_at"";rw [Bool.true_and] at B;cases hj:e.j.getD i false with
    | true =>
     rw [hj] at B;refine BW ?_;refine DW _ rfl I ?_;rw [M0,B,if_neg (by decide),V3];exact J
    | false =>
     rw [hj] at B;refine BQ ?_;walk_at"";refine ⟨_,J,len,_,rfl,I.bI nD,?_⟩;rw [Ai,M0,B,if_pos (by rfl),Um];rfl
   .rw [decide_eq_false c] at B ⊢;refine BW ?_;refine BW ?_;refine DW _ rfl I ?_;rw [Z2] at B;rw [M0,B,if_neg (by decide),V3];exact J
  .intro σ H2 zq;obtain ⟨x,rfl,I,J⟩:=zq;have J:H2 D=some (.lst ((DN e 10).map λ(k:Nat)=>V.int (k:Int))):=J;walk_at"";refine ⟨Aw,λb B=>?_⟩;have s3:=(Ag.refl H2).upd (o:=.lst []) B;have e3:(upd H2 b (.lst [])) b=some (.lst []):=Ai;generalize upd H2 b (.lst [])=H3 at s3 e3 ⊢;have O:=s3 _ _ J;have ef:=Aht (e:=e) ok.lh;walk_at"";cases hf:DN e 10 with
   | nil =>
    rw [hf] at O ef;have L:Ci 1 (.list []):=.lst (n:=0) (λd m=>nomatch m);refine T1 ⟨_,_,.lst (.of O) .nil,.lst (.of e3) .nil,L.c,L.c,(by have:=L.k;omega),?_⟩;rw [VX _ L.c];walk_at"";exact q1 ef _ (I.trans s3)
   | cons k l =>
    rw [hf] at O ef;have mQ:k<10:=by
     have:k∈DN e 10:=by rw [hf];exact UC
     exact UZ.mp (W0.mp this).1
    have L:Ci 1 (.list (.int k :: l.map λ(k:Nat)=>.int (k:Int))):=.lst (n:=0) (λd m=>by
     rcases T8.mp m with rfl | m
     .exact .int _
     .obtain ⟨y,_,rfl⟩:=Ua.mp m;exact .int _)
    have ia:∀ l:List Nat,aW K H3 (l.map λ(k:Nat)=>V.int (k:Int)) (l.map λ(k:Nat)=>.int (k:Int)):=λl=>by
     induction l with
     | nil=>exact .nil
     | cons k l ih=>exact .cons (.int _) ih
    refine T1 ⟨_,_,.lst (.of O) (ia (k :: l)),.lst (.of e3) .nil,L.c,rfl,(by have:=L.k;show V8 (.list (.int k :: l.map λ(k:Nat)=>.int (k:Int)))<=32;omega),?_⟩;rw [show Zg (.list ((k :: l).map λ(k:Nat)=>.int (k:Int))) (.list [])=false from rfl];have t3:=t.add (I.trans s3) nD O;have hk:e.h.length=10:=ok.lh;have qO:H3 e.ha=some (.lst e.h):=Io t3.tl;walk_at"";refine AX e.dx _ (.inr "held") _ rfl rfl (.of (Et t3.tl)) Kj ?_;walk_at"";refine T9 (AX D _ 0 _ rfl rfl (.of O) (show BA _ ((0:Nat):Int)=some (V.int (k:Int)) from EI rfl) ?_);walk_at"";refine AX e.ha e.h (k:Int) ((k:Int).toNat) rfl rfl qO (DZ (n:=e.h.length) (VW k) (by rw [hk];omega)) ?_;have t4:=At.set (P:=[(D,HO.lst ((k :: l).map λ(k:Nat)=>V.int (k:Int))),(e.dx,.dK e.kv)]) (o':=.lst (e.h.set (k:Int).toNat (.str z))) t3;have p4:Ah H3 (upd H3 e.ha (.lst (e.h.set (k:Int).toNat (.str z)))):=.chg qO rfl;generalize upd H3 e.ha (.lst (e.h.set (k:Int).toNat (.str z)))=Y at t4 p4 ⊢;have hD4:Y D=some (.lst ((k :: l).map λ(k:Nat)=>V.int (k:Int))):=t4.hd;have hx4:Y e.dx=some (.dK e.kv):=t4.tl.hd;have mR:Y e.sa=some (.lst (e.t.map V.int)):=t4.tl.tl.tl.tl.hd;walk_at"";refine AX e.dx _ (.inr "shares") _ rfl rfl (.of hx4) SE ?_;walk_at"";refine T9 (AX D _ 0 _ rfl rfl (.of hD4) (show BA _ ((0:Nat):Int)=some (V.int (k:Int)) from EI rfl) ?_);walk_at"";refine A9 e.sa _ (k:Int) _ rfl rfl (VW k) (.of mR) (M3 (f:=V.int) (d:=0) ok.lt mQ) ?_;walk_at"";refine AX e.sa _ (k:Int) ((k:Int).toNat) rfl rfl mR (DZ (n:=(e.t.map V.int).length) (VW k) (by rw [TU,ok.lt];omega)) ?_;have et:(e.t.map V.int).set (k:Int).toNat (.int (e.t.getD k 0+1))=(e.t.set k (e.t.getD k 0+1)).map V.int:=by rw [Vo,Vb]
    show _;have t5:=At.set (P:=[(D,HO.lst ((k :: l).map λ(k:Nat)=>V.int (k:Int))),(e.dx,.dK e.kv),(e.ha,.lst (e.h.set (k:Int).toNat (.str z))),(e.ja,.lst (e.j.map V.bl))]) (o':=.lst ((e.t.map V.int).set (k:Int).toNat (.int (e.t.getD k 0+1)))) t4;have p5:Ah Y (upd Y e.sa (.lst ((e.t.map V.int).set (k:Int).toNat (.int (e.t.getD k 0+1))))):=.chg mR rfl;generalize upd Y e.sa (.lst ((e.t.map V.int).set (k:Int).toNat (.int (e.t.getD k 0+1))))=H5 at t5 p5 ⊢;have hD5:H5 D=some (.lst ((k :: l).map λ(k:Nat)=>V.int (k:Int))):=t5.hd;rw [et] at t5;walk_at"";refine T9 (AX D _ 0 _ rfl rfl (.of hD5) (show BA _ ((0:Nat):Int)=some (V.int (k:Int)) from EI rfl) ?_);refine q2 k mQ ef H5 ?_ ((Ah.of (I.trans s3)).trans (p4.trans p5));have t6:=t5.tl;rw [Vo] at t6;exact t6
def De (e:GE):List V:=BY e.h (λk=>e.j.getD k false) 10
def GB (e:GE)(n:Nat):List V:=BY e.h (λk=>e.j.getD k false) n
theorem SO (e:GE)(n:Nat):GB e (n+1)=GB e n++[if e.h.getD n .aa=.aa then (if e.j.getD n false=true then V.str "stuck" else V.str "free") else e.h.getD n .aa]:=by unfold GB BY;rw [WZ,Um];rfl
def M5 (K:TH):Sp:=λvs H Q _=>∃(e:GE)(R:AK),vs=[.ref e.dx]/\At H (B7 e++R)/\FT e/\∀ H' t,Ag H H'->H' t=some (.tup (De e))->Q (.ref t) H'
theorem Ahx (c:Bool):BA [V.str "free",V.str "stuck"] (if c=true then 1 else 0)=some (if c=true then V.str "stuck" else V.str "free"):=by cases c<;>rfl
theorem SQ:AR ["group"] ["group"] (Ab (top 44)):=.of
theorem Ahy:Gm (Ab (top 44)) "tuple":=.of
theorem Ahz:Gm (Ab (top 44)) "range":=.of
def Km:Scope:={ kind:=.function,names:=[(".0",.local),("k",.local),("int",.globalImplicit),("group",.free)],isGenerator:=false,isCoroutine:=false,more:=[] }
theorem SR:Bh Km (Ab (top 44)) ["k","group"] ["group"] [none,some 0]:=Bh.mk' rfl (by decide +kernel) (by decide +kernel) (by decide +kernel) (by decide +kernel) rfl (by decide +kernel)
theorem M6:Nm Km "k":=.of
theorem SS:EO Km "group":=by walk_at "k"
theorem AhA:Gm Km "int":=.of
theorem AhB (F:AL K "_law_paper" "_law_paper" (top 44) f fd)(T:SH mg):AE P w K mg base AA 1 f fd ["group"] (M5 K):=by
 refine F.ok SQ λak A outer s H vs Q E hr h=>?_
 .obtain ⟨e,R,rfl,t,ok,q⟩:=h;have hu:=hr.units;have nd:=SQ.nd;refine ⟨_,(@Al _ _ _ (AN (Cy IU Ahy T.dP IZ (Ac (Ej rfl SR (FA Ahz T.cy (Ac Aq Af)) (λcl C fp pins s₂ H₂=>(Bt 0 SR.nd M6.comp)) (λcl C fp pins s₂ H₂=>DD) (λcl C fp pins s₂ H₂=>(Aeb K rfl (Bi (ER K rfl) (BU P w K (EN 1 SS.comp) Az) (Aa 0 M6.comp) (λ_ _=>rfl)) (NW (Bi (ER K rfl) (Bn (Ac Az (Ac Az Af))) (Cy O9 AhA.comp T.gv OY (Ac (Bi (ER K rfl) (BU P w K (EN 1 SS.comp) Az) (Aa 0 M6.comp) (λ_ _=>rfl)) Af)) (λ_ _=>rfl)))))) Af)))),?_⟩;try dsimp only [aC,aD]
  walk_at"";refine ⟨by decide,by decide,λD Y=>?_⟩;refine Ho (lo:=0) (n:=((10:Int)).toNat) (λi σ B=>∃ x,σ=[x,some (.ref e.dx)]/\Ag H B/\B D=some (.lst (GB e i))) ⟨none,rfl,(Ag.refl H).upd Y,Ai⟩ ?_ ?_
  .intro i σ B J zq;obtain ⟨x,rfl,L,I⟩:=zq;simp only [Xf];have J:i<10:=J;have t':=t.same L;walk_at"";refine AX e.dx _ (.inr "held") _ rfl rfl (.of (Et t')) Kj ?_;walk_at"";refine T9 (BK (.of (Io t')) (SI (d:=.aa) ok.lh J) ?_);have len:(GB e i).length<sizeLine:=by
    unfold GB BY;rw [TU,Vg,TY];omega
   have mem:e.h.getD i .aa∈e.h:=by rw [YC,Ug (by rw [ok.lh];exact J)];exact V5 _
   rcases ok.hv _ mem with hn | ⟨z,hz,lz,zk⟩
   .rw [hn];refine Dm false rfl ?_;refine BW ?_;walk_at"";refine ⟨Aw,λb nb=>?_⟩;have O:=(Ag.refl B).upd (o:=.lst [.str "free",.str "stuck"]) nb;have e3:(upd B b (.lst [.str "free",.str "stuck"])) b=some (.lst [.str "free",.str "stuck"]):=Ai;generalize upd B b (.lst [.str "free",.str "stuck"])=H3 at O e3 ⊢;have t3:=t'.same O;walk_at"";refine AX e.dx _ (.inr "stuck") _ rfl rfl (.of (Et t3)) MZ ?_;walk_at"";refine T9 (BK (.of (Ki t3)) (M3 (f:=V.bl) (d:=false) ok.lj J) ?_);walk_at"";refine T9 (Dm _ rfl ?_);walk_at"";refine T9 (BK (.of e3) (Ahx (e.j.getD i false)) ?_);refine ⟨_,O _ _ I,len,_,rfl,(L.trans O).bI Y,?_⟩;rw [Ai,SO,if_pos hn]
   .rw [hz];refine ⟨true,⟨by rw [lz,TY];decide,by rw [lz];rfl⟩,?_⟩;refine BQ ?_;refine ⟨_,I,len,_,rfl,L.bI Y,?_⟩;rw [Ai,SO,if_neg (by rw [hz];exact λc=>nomatch c),hz]
  .intro σ H2 zq;obtain ⟨x,rfl,L,I⟩:=zq;have I:H2 D=some (.lst (De e)):=I;walk_at"";refine CU D _ rfl (.inl ⟨.of I,λl nl=>?_⟩);exact q _ l (L.trans ((Ag.refl H2).upd nl)) Ai
def Eu (e:GE)(z:Str)(ha:Addr):GE:={ e with ha:=ha,h:=e.h.map (Cg z) }
structure Ew (es:List GE)(z:Str)(es':List GE):Prop where
 l:es'.length=es.length
 at_:∀(i:Nat)(e:GE),es[i]?=some e->∃ ha,es'[i]?=some (Eu e z ha)
theorem Ew.aH {es es':List GE}{z:Str}(f:Ew es z es'):aH es'=aH es:=by
 unfold Lw.aH;refine XJ λi=>?_;rw [T7,T7];cases h:es[i]? with
 | none =>
  have:es'.length<=i:=by rw [f.l];exact uV.mp h
  rw [Yt this]
 | some e =>
  obtain ⟨ha,B⟩:=f.at_ i e h;rw [B];rfl
structure Fr (es:List GE)(z:Str)(i:Nat)(es':List GE):Prop where
 l:es'.length=es.length
 lo:∀(k:Nat)(e:GE),k<i->es[k]?=some e->∃ ha,es'[k]?=some (Eu e z ha)
 hi:∀(k:Nat),i<=k->es'[k]?=es[k]?
theorem Fr.step {es es':List GE}{z:Str}{i:Nat}{e:GE}(f:Fr es z i es')(h:es[i]?=some e)(ha:Addr):Fr es z (i+1) (es'.set i (Eu e z ha)):=by
 have H:=(Uy.mp h).1;refine ⟨by rw [Ud];exact f.l,λk I hk B=>?_,λk hk=>?_⟩
 .by_cases c:k=i
  .subst c;rw [h] at B;cases B;exact ⟨ha,VD (by rw [f.l];exact H)⟩
  .obtain ⟨D,J⟩:=f.lo k I (by omega) B;exact ⟨D,by rw [Ut (Uj c)];exact J⟩
 .rw [Ut (by omega)];exact f.hi k (by omega)
def M7 (K:TH):Sp:=λvs H Q _=>∃(gd:Addr)(es:List GE)(R:AK)(z:Str),vs=[.ref gd,.str z]/\At H ((gd,.dK (aH es)) :: (es.flatMap B7++R))/\(es.map (·.pre)).Nodup/\(∀ e∈es,FT e) /\
 ∀ H' es',At H' ((gd,.dK (aH es')) :: (es'.flatMap B7++R))->Ew es z es'->Ah H H'->Q .aa H'
theorem Ah.back {H B:Hp}{r:Addr}{u v:HO}(h:H r=some u)(k:Gn u=false)(s:Ah H B):Ah H (upd B r v):=⟨λb D i e=>by
 rw [Ap (λz=>by rw [z,h] at e;rw [<- Uk e,k] at i;cases i)];exact s.f _ _ i e⟩
theorem SU:AR ["groups","line","prefix"] ["groups","line"] (Ab (top 45)):=.of
theorem M8:Nm (Ab (top 45)) "groups":=.of
theorem M9:Nm (Ab (top 45)) "prefix":=.of
def Na:Scope:={ kind:=.function,names:=[(".0",.local),("who",.local),("line",.free)],isGenerator:=false,isCoroutine:=false,more:=[] }
theorem SV:Bh Na (Ab (top 45)) ["who","line"] ["groups","line","prefix"] [none,some 1]:=Bh.mk' rfl (by decide +kernel) (by decide +kernel) (by decide +kernel) (by decide +kernel) rfl (by decide +kernel)
theorem Nb:Nm Na "who":=.of
theorem AhC:EO Na "line":=by walk_at "k"
theorem AhD (F:AL K "_law_freed" "_law_freed" (top 45) f fd):AE P w K mg base AA 1 f fd ["groups","line"] (M7 K):=by
 refine F.ok SU λak A outer s H vs Q E hr h=>?_
 .obtain ⟨B,es,R,z,rfl,t,nde,ok,q⟩:=h;have hu:=hr.units;have nd:=SU.nd;have mS:=t.hd;refine ⟨_,(@Al _ _ _ (Ad9 VT rfl (Aa 0 M8) (Bt 2 nd M9) (Al (Lq (Xa (ZM (by decide) _) hu) (BU P w K (Aa 0 M8) (Aa 2 M9)) Az (Ej rfl SV (Ds (BU P w K (BU P w K (Aa 0 M8) (Aa 2 M9)) Az)) (λcl C fp pins s₂ H₂=>(Bt 0 SV.nd Nb.comp)) (λcl C fp pins s₂ H₂=>DD) (λcl C fp pins s₂ H₂=>(KD (A0 (Pa K rfl hu) (Aa 0 Nb.comp) (EN 1 AhC.comp) (A6 _)) B8 (Aa 0 Nb.comp)))) rfl)))),?_⟩;try dsimp only [aC,aD]
  walk_at"";refine BL B _ rfl mS (λo nf=>?_);have t0:=At.iG (o':=.aL o (.dK (aH es))) t;have p0:Ah H (upd H B (.aL o (.dK (aH es)))):=.chg mS rfl;generalize upd H B (.aL o (.dK (aH es)))=Hf at t0 p0 ⊢;refine Aea (o:=o) (a:=B) (kvs:=aH es) (λi σ Y=>∃(J:List GE)(x2:Option V),σ=[some (.ref B),some (.str z),x2]/\At Y ((B,.aL o (.dK (aH es))) :: (J.flatMap B7++R))/\Fr es z i J/\Ah H Y) ⟨es,none,rfl,t0,⟨rfl,λk e h=>absurd h (Zz k),λk _=>rfl⟩,p0⟩ (λi σ Y ⟨_,_,_,t,_⟩=>t.hd) ?_ ?_
  .intro i p σ Y hp zq;obtain ⟨J,x2,rfl,t4,f4,p4⟩:=zq;unfold aH at hp;rw [T7] at hp;obtain ⟨e,L,rfl⟩:=UU.mp hp;have oe:=ok e (Ue L);have he4:J[i]?=some e:=by rw [f4.hi i (T3 i)];exact L
   have qP:=t4.hd;have te:=At.pick (P:=[(B,.aL o (.dK (aH es)))]) t4 he4;have ed:Bj (aH es) (.inr e.pre)=some (.ref e.dx):=Kk nde L;walk_at"";refine AX B _ (.inr e.pre) _ rfl rfl (.inl (.inr ⟨o,qP⟩)) ed ?_;walk_at"";refine AX e.dx _ (.inr "held") _ rfl rfl (.of (Et te)) Kj ?_;walk_at"";refine ⟨⟨_,.of (Io te)⟩,λD nD=>?_⟩;refine Jg (K:=K) (a:=e.ha) (xs:=e.h) (λk σ I=>∃ x,σ=[x,some (.str z)]/\Ag Y I/\I D=some (.lst ((e.h.take k).map (Cg z)))) ⟨none,rfl,(Ag.refl Y).upd nD,Ai⟩ (λk σ I _ ⟨_,_,O,_⟩=>.of (O _ _ (Io te))) ?_ ?_
   .intro k v σ I hv zq;obtain ⟨x,rfl,O,hL⟩:=zq;have lk:k<10:=by have:=(Uy.mp hv).1;rw [oe.lh] at this;exact this
    have et:e.h.take (k+1)=e.h.take k++[v]:=by rw [VB,hv];rfl
    have len:((e.h.take k).map (Cg z)).length<sizeLine:=by rw [TU,Vt,TY];omega
    have ev:Cg z v=if v=.str z then .aa else v:=rfl
    walk_at"";refine T9 ⟨?_,?_⟩
    .rcases oe.hv v (Ue hv) with rfl | ⟨y,rfl,_⟩<;>rfl
    by_cases c:v=.str z
    .rw [decide_eq_true c];rw [if_pos c] at ev;walk_at"";refine ⟨_,hL,len,_,rfl,O.bI nD,?_⟩;rw [Ai,et,Um];show some (HO.lst (_++[_]))=some (HO.lst (_++[Cg z v]));rw [ev]
    .rw [decide_eq_false c];rw [if_neg c] at ev;walk_at"";refine ⟨_,hL,len,_,rfl,O.bI nD,?_⟩;rw [Ai,et,Um];show some (HO.lst (_++[_]))=some (HO.lst (_++[Cg z v]));rw [ev]
   .intro σ I zq;obtain ⟨x,rfl,O,hL⟩:=zq;rw [VC] at hL;have t5:=te.add O nD hL;have qQ:I e.dx=some (.dK e.kv):=Et t5.tl;have hg5:I B=some (.aL o (.dK (aH es))):=O _ _ qP;walk_at"";refine AX B _ (.inr e.pre) _ rfl rfl (.inl (.inr ⟨o,hg5⟩)) ed ?_;walk_at"";refine BL e.dx _ rfl (.inl ⟨_,.inr "held",qQ,rfl,(by show 3<sizeLine;decide),rfl⟩) ?_;rw [show BD e.kv (.inr "held") (.ref D)=(Eu e z D).kv from rfl];have t6:=At.set (P:=[(D,HO.lst (e.h.map (Cg z)))]) (o':=.dK (Eu e z D).kv) t5;have p6:Ah I (upd I e.dx (.dK (Eu e z D).kv)):=.chg qQ rfl;generalize upd I e.dx (.dK (Eu e z D).kv)=H6 at t6 p6 ⊢;have t7:At H6 (B7 (Eu e z D)++([(B,.aL o (.dK (aH es)))]++((J.take i).flatMap B7++((J.drop (i+1)).flatMap B7++R)))):=by
     have t8:=At.sub t6 (.cons₂ _ (.cons₂ _ (.cons (e.ha,HO.lst e.h) (.refl _))));exact t8.perm (.swap _ _ _)
    have t9:=At.put t7 (by rw [f4.l];exact (Uy.mp L).1);exact CU _ _ rfl ⟨t9,f4.step L D,p4.trans ((Ah.of O).trans p6)⟩
  .intro σ Y zq;obtain ⟨J,x2,rfl,t4,f4,p4⟩:=zq;have fd:Ew es z J:=⟨f4.l,λk e L=>f4.lo k e (by unfold aH;rw [TU];exact (Uy.mp L).1) L⟩;refine ⟨B,_,o,t4.hd,nf,?_⟩;have t5:=At.iG (o':=.dK (aH es)) t4;rw [<- fd.aH] at t5;rw [<- fd.aH];exact q _ J t5 fd (Ah.back mS rfl p4)
def D9 (c:Nat):Int:=if c=48 then 10 else (c:Int) - 48
theorem AhE {c:Nat}(h:48<=c/\c<=57):1<=D9 c/\D9 c<=10:=by unfold D9;split<;>omega
theorem AhF {c:Nat}(h:48<=c/\c<=57):Dc (D9 c)=⟨#[c]⟩:=by
 have B:∀ m:Nat,m<10->Dc (D9 (48+m))=⟨#[48+m]⟩:=by decide +kernel
 have e:=B (c - 48) (by omega);rw [show 48+(c - 48)=c by omega] at e;exact e
def Nc:List Int:=[10,1,2,3,4,5,6,7,8,9]
theorem AhG {c:Nat}(h:48<=c/\c<=57):BA (Nc.map V.int) ((c:Int) - 48)=some (.int (D9 c)):=by
 have B:∀ m:Nat,m<10->BA (Nc.map V.int) (m:Int)=some (.int (D9 (48+m))):=by decide +kernel
 have e:=B (c - 48) (by omega);rw [show 48+(c - 48)=c by omega,show ((c - 48:Nat):Int)=(c:Int) - 48 by omega] at e;exact e
def Nd (S:PS)(z:Str)(S':PS):Prop:=∀ p r,p≠TK ""->Ay S p=some r->Ay S' p=some (r.1.map (Cg z),r.2)
def SW (S:PS)(w:Str)(k:Int)(z:Str)(S':PS):Prop:=∀ p r,p≠TK ""->Ay S p=some r->Ay S' p=some (if p=w then (r.1.set k.toNat (.str z),r.2.1,r.2.2.set k.toNat (r.2.2.getD k.toNat 0+1)) else r)
def Nf (S:PS)(i:Nat)(y:Ln)(w:Str)(x:PyData)(S':PS):Prop :=
 (Ay S w=none/\x=.tuple [.str "none",.str y.num,.str w]/\Nd S y.num S') \/
 (∃ r,Ay S w=some r/\BF r.1 r.2.1 0=none/\x=.tuple [.str "busy",.str y.num,.tuple [.str "group",.str w,.tuple ((BY r.1 (λk=>r.2.1.getD k false) r.1.length).map Dz)]]/\Nd S y.num S') \/
 (∃ r k,Ay S w=some r/\BF r.1 r.2.1 0=some k/\x=.tuple [.str "takes",.str y.num,.str w,.int k]/\(∃ y',S'.lns[i]?=some y'/\y'.num=y.num/\y'.st="dials"/\y'.ag=0/\y'.ai=w)/\SW S w k y.num S')
structure Dg (S0:PS)(i:Nat)(y:Ln)(k:Int)(S:PS):Prop where
 e:E8 S
 sh:Au S0 S
 g:S.aj=S0.aj
 l:S.lns[i]?=some { y with ag:=k }
section
variable {S0 S:PS}{i:Nat}{y:Ln}{k:Int}{w:Str}
theorem Dg.bp (d:Dg S0 i y k S)(es:y.st="dials")(H:0<=k)(I:k<10)(dd:Addr) :
  ∃ B,(Bf.line .bp y.num).res S=.inr ([],B)/\B.dn=S.dn/\B1 (aA B dd)=([],aA B dd)/\Dg S0 i y (k+1) (aA B dd):=by
 obtain ⟨J,D,L⟩:=d.e.bp d.l es H I dd;exact ⟨_,J,rfl,Gz D.q,D,d.sh.trans L,d.g,Bd d.l⟩
theorem Dg.gap (d:Dg S0 i y k S)(es:y.st="dials")(ai:y.ai++Dc k=w)(lw:w.length<=2)(O:w≠TK "")(pp:1<=k/\k<=10)(dd:Addr) :
  ∃ x D,(Bf.line .gap y.num).res S=.inr ([x],D)/\D.dn=S.dn/\B1 (aA D dd)=([],aA D dd)/\E8 (aA D dd)/\Au S0 (aA D dd)/\Nf S0 i y w x (aA D dd):=by
 obtain ⟨x,D,e1,dn,tn,e2,s2,cs⟩:=d.e.gap d.l es ai lw O pp dd;have rk:∀ p,p≠TK ""->Ay S p=Ay S0 p:=λp B=>GA B d.g;have V:Ay S0 w=(Bo S w).map λg=>(g.hs,g.js,g.ts):=by rw [<- rk w O];unfold Ay;rw [if_neg O]
 refine ⟨x,D,e1,dn,tn,e2,d.sh.trans s2,?_⟩;rcases cs with ⟨H,I,J⟩ | ⟨g,H,Y,I,J⟩ | ⟨g,m,H,Y,I,hl,J⟩
 .exact .inl ⟨by rw [V,H];rfl,I,λp r B L=>J p r B (by rw [rk p B];exact L)⟩
 .exact .inr (.inl ⟨(g.hs,g.js,g.ts),by rw [V,H];rfl,Y,I,λp r B L=>J p r B (by rw [rk p B];exact L)⟩)
 .exact .inr (.inr ⟨(g.hs,g.js,g.ts),m,by rw [V,H];rfl,Y,I,⟨_,hl,rfl,es,rfl,ai⟩,λp r B L=>J p r B (by rw [rk p B];exact L)⟩)
end
def SY (K:TH)(a:Ak):Sp:=λvs H Q _=>∃(X:HX)(R:AK)(i:Nat)(y:Ln)(w:Str)(c:Nat),vs=[.ref X.h,.str y.num,.int ((c:Int) - 48)]/\HT K a H X R/\E8 X.S/\X.S.lns[i]?=some y/\y.st="dials"/\y.ag=0/\(48<=c/\c<=57)/\y.ai++(⟨#[c]⟩:Str)=w/\w.length<=2/\w≠TK ""/\X.S.dn.length<900000 /\
 ∀ H' X' p b x,HT K a H' X' ((p,.lst [.ref b]) :: R)->X'.h=X.h->E8 X'.S->Au X.S X'.S->X'.S.dn.length<=X.S.dn.length+11->Ah H H'->Is K H' (.ref b) x->Ce x=true->Nf X.S i y w x X'.S->Q (.ref p) H'
theorem S2:AR ["hall","line","figure","k"] ["hall","line","figure"] (Ab (top 42)):=.of
theorem S3:Nm (Ab (top 42)) "hall":=.of
theorem S4:Nm (Ab (top 42)) "line":=.of
theorem AhH:Nm (Ab (top 42)) "figure":=.of
theorem AhI:Nm (Ab (top 42)) "k":=.of
theorem AhJ:Gm (Ab (top 42)) "range":=.of
theorem AhK (F:AL K "_law_pulsed" "_law_pulsed" (top 42) f fd)(T:TxtG P w K mg a)(gR:AO P w K mg base (AJ P w) 9 a.ae "do" ["self","deed"] (J6 K a)):AE P w K mg base AA 10 f fd ["hall","line","figure"] (SY K a):=by
 refine F.ok S2 λak A outer s H vs Q E hr h=>?_
 .obtain ⟨X,R,i,y,wd,c,rfl,t,e8,hi,es,ep,cd,ai,lw,w0,dn,q⟩:=h;have hu:=hr.units;have nd:=S2.nd;have gS:=T.hc.cls;have zk:=(e8.wf.g.tx _ (E9 hi)).1;have pn:=AhE cd;have d0:Dg X.S i y 0 X.S:=⟨e8,Au.refl,rfl,by rw [hi];congr 1;cases y;cases ep;rfl⟩;refine ⟨_,(@Aj _ _ _ _ _ (Dt VT rfl (FA AhJ T.cy (Ac (Bi Bx (Bn (K2 rfl)) (Aa 2 AhH) (λ_ _=>rfl)) Af)) (Bt 3 nd AhI) (Al (AZ (A0 (DC hu) (A2 gR gS (Aa 0 S3) hr.d Ef (Ac (BE (Ac Az (Ac (Aa 1 S4) Af))) Af)) (Bn Af) (A6 _)) (Al (AN B8)) A5)))
    (Al (AN (A2 gR gS (Aa 0 S3) hr.d Ef (Ac (BE (Ac Az (Ac (Aa 1 S4) Af))) Af))))),?_⟩
  try dsimp only [aC,aD]
  walk_at"";refine ⟨Aw,λl nl=>?_⟩;have s3:=(Ag.refl H).upd (o:=.lst [V.int 10,V.int 1,V.int 2,V.int 3,V.int 4,V.int 5,V.int 6,V.int 7,V.int 8,V.int 9]) nl;have e3:(upd H l (.lst [V.int 10,V.int 1,V.int 2,V.int 3,V.int 4,V.int 5,V.int 6,V.int 7,V.int 8,V.int 9])) l=some (.lst (Nc.map V.int)):=Ai;walk_at"";refine T9 (BK (.of e3) (AhG cd) ?_);generalize upd H l (.lst [V.int 10,V.int 1,V.int 2,V.int 3,V.int 4,V.int 5,V.int 6,V.int 7,V.int 8,V.int 9])=H3 at s3 e3 ⊢;have t3:=t.same s3;have p3:Ah H H3:=.of s3;clear s3 e3
  walk_at"";refine ⟨by omega,by omega,KL (n:=(D9 c).toNat) (λk σ I=>∃ J x3,σ=[some (.ref X.h),some (.str y.num),some (.int ((c:Int) - 48)),x3]/\J.h=X.h/\Ah H I/\J.S.dn.length<=X.S.dn.length+k/\HT K a I J R/\Dg X.S i y k J.S) ⟨X,none,rfl,rfl,p3,by omega,t3,d0⟩ ?_ ?_⟩
  .intro k σ I hk zq;obtain ⟨J,x3,rfl,bo,p4,qR,t4,Y⟩:=zq;walk_at"";rw [<- bo];refine A4 J.h J.dx _ rfl t4.t.aB rfl ?_;walk_at"";refine ⟨Aw,λB mT=>?_⟩;obtain ⟨T',e5,qS,tn5,d5⟩:=Y.bp es (by omega) (by omega) B;have L:=(Ag.refl I).upd (o:=.tup [.str "pulse",.str y.num]) mT;have iZ:(upd I B (.tup [.str "pulse",.str y.num])) B=some (.tup (Bf.line .bp y.num).vals):=Ai;generalize upd I B (.tup [.str "pulse",.str y.num])=H5 at L iZ ⊢;walk_at"";dsimp only [BJ];refine Im (d:=.line .bp y.num) (t4.same L) Y.e.wf zk iZ e5 (by rw [qS];omega) λO X6 p xs t6 mU D q6 gT=>?_;rw [tn5] at D gT;have mV:xs=[]:=uW gT.len;subst mV;have mW:O p=some (.lst []):=t6.t.rest.hd;walk_at"";refine ⟨Aw,λb nb=>?_⟩;have s7:=(Ag.refl O).upd (o:=.lst []) nb;have e7:(upd O b (.lst [])) b=some (.lst []):=Ai;generalize upd O b (.lst [])=H7 at s7 e7 ⊢;have ly:Ci 1 (.list []):=.lst (n:=0) (λd m=>nomatch m);walk_at"";refine T1 ⟨_,_,.lst (.of (s7 _ _ mW)) .nil,.lst (.of e7) .nil,ly.c,ly.c,(by have:=ly.k;omega),?_⟩;rw [VX _ ly.c];walk_at"";have D:X6.S=aA T' B:=D;refine CU X6 _ rfl ⟨mU,p4.trans ((Ah.of L).trans (q6.trans (.of s7))),?_,(t6.same s7).sub (.cons _ (.refl _)),by rw [D];exact d5⟩;rw [D];show (T'.dn++[V.ref B]).length<=_;rw [UK,qS,U6];omega
  .intro σ I zq;obtain ⟨J,x3,rfl,bo,p4,qR,t4,Y⟩:=zq;have ek:(((D9 c).toNat:Nat):Int)=D9 c:=by omega
   rw [ek] at Y;walk_at"";rw [<- bo];refine A4 J.h J.dx _ rfl t4.t.aB rfl ?_;walk_at"";refine ⟨Aw,λB mT=>?_⟩;have L:=(Ag.refl I).upd (o:=.tup [.str "gap",.str y.num]) mT;have iZ:(upd I B (.tup [.str "gap",.str y.num])) B=some (.tup (Bf.line .gap y.num).vals):=Ai;generalize upd I B (.tup [.str "gap",.str y.num])=H5 at L iZ ⊢;obtain ⟨x,T',e6,gU,jV,qT,i4,fin⟩:=Y.gap es (by rw [AhF cd];exact ai) lw w0 pn B;dsimp only [BJ];refine Im (d:=.line .gap y.num) (t4.same L) Y.e.wf zk iZ e6 (by rw [gU];omega) λO X6 p xs t6 mU D q6 gT=>?_;rw [jV] at D gT;obtain ⟨b,rfl,ib⟩:∃ b,xs=[b]/\Is K O (.ref b) x:=by
    have td:=gT.i;cases xs with
    | nil=>cases td
    | cons b r =>
     cases td with
     | cons h1 h2 =>
      cases r with
      | nil=>exact ⟨b,rfl,h1⟩
      | cons _ _=>cases h2
   have tx:Ce x=true:=by have:=gT.t;simp only [V3] at this;have this:(Ce x && true)=true:=this;rwa [Bool.and_true] at this
   have D:X6.S=aA T' B:=D;rw [<- D] at qT i4 fin;refine q O X6 p b x t6 (mU.trans bo) qT i4 ?_ (p4.trans ((Ah.of L).trans q6)) ib tx fin;rw [D];show (T'.dn++[V.ref B]).length<=_;rw [UK,gU,U6];omega
def CH (gd:Addr)(es:List GE):AK:=(gd,.dK (aH es)) :: es.flatMap B7
section
variable {K:TH}{a:Ak}{H H':Hp}{X:HX}{P M R R0:AK}
theorem HT.out (t:HT K a H X (P++(M++R))):At H (M++AY a X (P++R)):=by have B:=t.t;rw [Fb,<- Ur] at B;have D:=B.swap;rw [Ur,<- Fb] at D;exact D
theorem HT.i5 (D:HT K a H X R0)(p:Ah H H')(t:At H' (M++AY a X (P++R))):HT K a H' X (P++(M++R)):=by refine ⟨?_,D.ok.av p⟩;rw [Fb,<- Ur (AY a X []) P R] at t;have B:=t.swap;rw [Ur,<- Fb] at B;exact B
end
structure Gs (S:PS)(es:List GE):Prop where
 nd:(es.map (·.pre)).Nodup
 ok:∀ e∈es,FT e/\e.pre≠TK ""/\Ok e.pre
 rk:∀ e∈es,Ay S e.pre=some (e.h,e.j,e.t)
 no:∀ w,w≠TK ""->w ∉ es.map (·.pre)->Ay S w=none
theorem S5 {S S':PS}(s:Au S S'){w:Str}(h:Ay S w=none):Ay S' w=none:=by
 obtain ⟨B,m⟩:=MK h;have e:S'.aj.map (·.pre)=S.aj.map (·.pre):=by have:=congrArg (VU (·.1)) s.gr;rw [Uo,Uo] at this;exact this
 unfold Ay;rw [if_neg B,show Bo S' w=none from Gu (by rw [e];exact m)];rfl
theorem AhL {z:Str}{v:V}(h:v=.aa\/∃ z,v=.str z/\z.length=4/\Ok z):Cg z v=.aa\/∃ y,Cg z v=.str y/\y.length=4/\Ok y:=by
 unfold Cg;split
 .exact .inl rfl
 .exact h
section
variable {S S':PS}{es es':List GE}{z:Str}{i k:Nat}{e:GE}
theorem Ew.pre (f:Ew es z es'):es'.map (·.pre)=es.map (·.pre):=by
 refine XJ λi=>?_;rw [T7,T7];cases h:es[i]? with
 | none =>
  have:es'.length<=i:=by rw [f.l];exact uV.mp h
  rw [Yt this]
 | some e =>
  obtain ⟨ha,B⟩:=f.at_ i e h;rw [B];rfl
theorem Ew.from (f:Ew es z es'){e':GE}(m:e'∈es'):∃ e∈es,∃ ha,e'=Eu e z ha:=by
 obtain ⟨i,B,rfl⟩:=Vd m;have D:i<es.length:=by rw [<- f.l];exact B
 obtain ⟨ha,h⟩:=f.at_ i es[i] (Ug D);rw [Ug B] at h;exact ⟨es[i],V5 D,ha,Uk h⟩
theorem Gs.freed (g:Gs S es)(f:Ew es z es')(h:Nd S z S')(s:∀ w,Ay S w=none->Ay S' w=none):Gs S' es':=by
 refine ⟨by rw [f.pre];exact g.nd,λD m=>?_,λD m=>?_,λw H m=>s w (g.no w H (by rw [<- f.pre];exact m))⟩
 .obtain ⟨e,me,ha,rfl⟩:=f.from m;obtain ⟨B,I⟩:=g.ok e me;refine ⟨⟨by show (e.h.map _).length=10;rw [TU];exact B.lh,B.lj,B.lt,λv J=>?_⟩,I⟩;obtain ⟨u,L,rfl⟩:=Ua.mp (show v∈e.h.map (Cg z) from J);exact AhL (B.hv u L)
 .obtain ⟨e,me,ha,rfl⟩:=f.from m;exact h e.pre _ (g.ok e me).2.1 (g.rk e me)
theorem Kn {e':GE}(B:es[i]?=some e)(D:e'.pre=e.pre):(es.set i e').map (·.pre)=es.map (·.pre):=by
 rw [Vb];refine XJ λk=>?_;by_cases c:k=i
 .subst c;have H:=(Uy.mp B).1;rw [VD (by rw [TU];exact H),T7,B,D];rfl
 .rw [Ut (Uj c)]
theorem AhM {e':GE}(B:es[i]?=some e)(D:e'.pre=e.pre)(hd:e'.dx=e.dx):aH (es.set i e')=aH es:=by
 unfold aH;rw [Vb];refine XJ λk=>?_;by_cases c:k=i
 .subst c;have H:=(Uy.mp B).1;rw [VD (by rw [TU];exact H),T7,B,D,hd];rfl
 .rw [Ut (Uj c)]
theorem Gs.other (g:Gs S es)(B:es[i]?=some e){e':GE}{k:Nat}(h:es[k]?=some e')(n:k≠i):e'.pre≠e.pre:=D1 g.nd (i:=k) (j:=i) (by rw [T7,h];rfl) (by rw [T7,B];rfl) n
theorem Gs.set (g:Gs S es)(D:es[i]?=some e){e':GE}(I:e'.pre=e.pre)(ok:FT e')(J:Ay S' e.pre=some (e'.h,e'.j,e'.t))(L:∀ p r,p≠TK ""->p≠e.pre->Ay S p=some r->Ay S' p=some r)(s:∀ w,Ay S w=none->Ay S' w=none):Gs S' (es.set i e'):=by
 have O:=(Uy.mp D).1;have me:=Ue D;have B:∀ u∈es.set i e',u=e'\/(u∈es/\u.pre≠e.pre):=λu H=>by
  obtain ⟨k,hk,rfl⟩:=Vd H;have h:=Ug hk;by_cases c:k=i
  .subst c;rw [VD O] at h;exact .inl (Uk h).symm
  .rw [Ut (Uj c)] at h;exact .inr ⟨Ue h,g.other D h c⟩
 refine ⟨by rw [Kn D I];exact g.nd,λu H=>?_,λu H=>?_,λw V m=>s w (g.no w V (by rw [<- Kn D I];exact m))⟩
 .rcases B u H with rfl | ⟨m,_⟩
  .exact ⟨ok,by rw [I];exact (g.ok e me).2⟩
  .exact g.ok u m
 .rcases B u H with rfl | ⟨m,n⟩
  .rw [I];exact J
  .exact L _ _ (g.ok u m).2.1 n (g.rk u m)
theorem Gs.take (g:Gs S es)(D:es[i]?=some e)(h:SW S e.pre (k:Int) z S')(H:z.length=4)(I:Ok z)(s:∀ w,Ay S w=none->Ay S' w=none):Gs S' (es.set i (FU e k z)):=by
 have me:=Ue D;obtain ⟨B,J,Y⟩:=g.ok e me;refine g.set D (e':=FU e k z) rfl ⟨by show (e.h.set _ _).length=10;rw [Ud];exact B.lh,B.lj,by show (e.t.set _ _).length=10;rw [Ud];exact B.lt,λv L=>?_⟩ ?_ (λp r O n V=>?_) s
 .rcases Yx (show v∈e.h.set k (.str z) from L) with m | rfl
  .exact B.hv v m
  .exact .inr ⟨z,rfl,H,I⟩
 .have:=h e.pre _ J (g.rk e me);rw [if_pos rfl,Vo] at this;exact this
 .have:=h p r O V;rw [if_neg n] at this;exact this
end
structure W8 (K:TH)(a:Ak)(H:Hp)(X:HX)(gd:Addr)(es:List GE)(R:AK):Prop where
 t:HT K a H X (CH gd es++R)
 e:E8 X.S
 g:Gs X.S es
section
variable {K:TH}{a:Ak}{H H':Hp}{X:HX}{P R:AK}{gd:Addr}{es es':List GE}{i:Nat}{e e':GE}
theorem Ko (t:At H (CH gd es++R))(B:es[i]?=some e):At H (B7 e++([(gd,.dK (aH es))]++((es.take i).flatMap B7++((es.drop (i+1)).flatMap B7++R)))):=At.pick (P:=[(gd,.dK (aH es))]) t B
theorem S8 (t:At H (B7 e'++([(gd,.dK (aH es))]++((es.take i).flatMap B7++((es.drop (i+1)).flatMap B7++R)))))(B:es[i]?=some e)(D:e'.pre=e.pre)(hd:e'.dx=e.dx):At H (CH gd (es.set i e')++R):=by have:=At.put (P:=[(gd,.dK (aH es))]) t (Uy.mp B).1;unfold CH;rw [AhM B D hd];exact this
end
def S9 (K:TH)(a:Ak):Sp:=λvs H Q _=>∃(X:HX)(R:AK)(gd:Addr)(es:List GE)(i:Nat)(y:Ln)(z:Str),vs=[.ref X.h,.ref gd,.str y.num,.str z]/\W8 K a H X gd es R/\X.S.lns[i]?=some y/\y.st="dials"/\y.ag=0/\y.ai=TK ""/\z.length=2/\Ca z/\X.S.dn.length<800000 /\
 ∀ H' X' es',W8 K a H' X' gd es' R->es'.map (·.pre)=es.map (·.pre)->X'.h=X.h->Au X.S X'.S->X'.S.dn.length<=X.S.dn.length+22->Ah H H'->Q (.bl true) H'
theorem AhN {c:Nat}(h:48<=c/\c<=57):XD ⟨#[c]⟩=some ((c:Int) - 48):=by
 have B:∀ m:Nat,m<10->XD ⟨#[48+m]⟩=some (m:Int):=by decide +kernel
 have e:=B (c - 48) (by omega);rw [show 48+(c - 48)=c by omega] at e;rw [e];congr 1;omega
theorem Ta {e:GE}(ok:FT e):∀ v∈De e,∃ z,v=.str z/\C8 z:=λv B=>by
 unfold De BY at B;obtain ⟨k,mk,rfl⟩:=Ua.mp B;have hk:k<e.h.length:=by rw [ok.lh];exact UZ.mp mk
 by_cases c:e.h.getD k .aa=.aa
 .rw [if_pos c];split
  .exact ⟨_,rfl,asc⟩
  .exact ⟨_,rfl,asc⟩
 .rw [if_neg c];have m:e.h.getD k .aa∈e.h:=by
   rw [YC,Ug hk];exact V5 _
  rcases ok.hv _ m with h | ⟨z,h,_,o⟩
  .exact absurd h c
  .exact ⟨z,h,o.1⟩
structure Fg (S:PS)(i:Nat)(z:Str)(c0 c1:Nat)(f:Nat)(y:Ln)(T:PS):Prop where
 sh:Au S T
 l:T.lns[i]?=some y
 st:y.st="dials"
 ag:y.ag=0
 num:y.num=z
 ai:y.ai=(if f=0 then TK "" else if f=1 then ⟨#[c0]⟩ else ⟨#[c0,c1]⟩)
def wF (c0 c1 f:Nat):Str:=if f=0 then ⟨#[c0]⟩ else ⟨#[c0,c1]⟩
def cF (c0 c1 f:Nat):Nat:=if f=0 then c0 else c1
theorem AhO {c0 c1 f:Nat}(h:f<2):He ⟨#[c0,c1]⟩ none (some (1+(f:Int)))=wF c0 c1 f:=by rcases (show f=0\/f=1 by omega) with rfl | rfl<;>rfl
theorem AhP {c0 c1 f:Nat}(h:f<2):BA (#[c0,c1]:Array Nat).toList (1+(f:Int) - 1)=some (cF c0 c1 f):=by rcases (show f=0\/f=1 by omega) with rfl | rfl<;>rfl
theorem AhQ {c0 c1 f:Nat}(h:f<2):(if f=0 then TK "" else if f=1 then ⟨#[c0]⟩ else ⟨#[c0,c1]⟩:Str)++(⟨#[cF c0 c1 f]⟩:Str)=wF c0 c1 f:=by rcases (show f=0\/f=1 by omega) with rfl | rfl<;>rfl
theorem AhR {c0 c1 f:Nat}:(wF c0 c1 f).length<=2/\0<(wF c0 c1 f).length:=by
 unfold wF;split
 .exact ⟨(by show 1<=2;decide),(by show 0<1;decide)⟩
 .exact ⟨(by show 2<=2;decide),(by show 0<2;decide)⟩
theorem AhS {c0 c1 f:Nat}(h:f<2):wF c0 c1 f=(if f+1=0 then TK "" else if f+1=1 then ⟨#[c0]⟩ else ⟨#[c0,c1]⟩):=by rcases (show f=0\/f=1 by omega) with rfl | rfl<;>rfl
theorem Tb:AR ["hall","groups","line","head","size","prefix","told","k","paper"] ["hall","groups","line","head"] (Ab (top 46)):=.of
theorem AhT:Nm (Ab (top 46)) "hall":=.of
theorem Iq:Nm (Ab (top 46)) "groups":=.of
theorem FV:Nm (Ab (top 46)) "line":=.of
theorem Tc:Nm (Ab (top 46)) "head":=.of
theorem Ng:Nm (Ab (top 46)) "size":=.of
theorem FW:Nm (Ab (top 46)) "prefix":=.of
theorem Kq:Nm (Ab (top 46)) "told":=.of
theorem Nh:Nm (Ab (top 46)) "k":=.of
theorem Td:Nm (Ab (top 46)) "paper":=.of
theorem AhU:Gm (Ab (top 46)) "range":=.of
theorem Te:Gm (Ab (top 46)) "_law_freed":=.of
theorem AhV:Gm (Ab (top 46)) "_law_paper":=.of
theorem AhW:Gm (Ab (top 46)) "_law_takes":=.of
theorem AhX:Gm (Ab (top 46)) "_law_pulsed":=.of
theorem AhY:Gm (Ab (top 46)) "int":=.of
theorem AhZ (F:AL K "_law_dials" "_law_dials" (top 46) f fd)(T:TxtG P w K mg a)(mX:BX P w K mg base AA 10 "_law_pulsed" ["hall","line","figure"] (SY K a))(mY:BX P w K mg base AA 1 "_law_takes" ["group","line"] (SG K))(gW:BX P w K mg base AA 1 "_law_paper" ["group"] (M5 K))(fV:BX P w K mg base AA 1 "_law_freed" ["groups","line"] (M7 K)):AE P w K mg base AA 11 f fd ["hall","groups","line","head"] (S9 K a):=by
 refine F.ok Tb λak A outer s H vs Q E hr h=>?_
 .obtain ⟨X,R,O,es,i,y,z,rfl,w8,hi,sty,ag,ai,lz,dz,dn,q⟩:=h;have hu:=hr.units;have nd:=Tb.nd;obtain ⟨B,D,ez⟩:∃ B D,z=⟨#[B,D]⟩:=by
   have l2:z.cps.toList.length=2:=by rw [Ve];exact lz
   match hl:z.cps.toList,l2 with
   | [B,D],_=>exact ⟨B,D,LP hl⟩
  subst ez;have d0:48<=B/\B<=57:=dz B (by simp);have d1:48<=D/\D<=57:=dz D (by simp);refine ⟨_,(@Aj _ _ _ _ _ (Dt VT rfl (AdJ AhU T.cy (Ac Aq (Ac Aq Af))) (Bt 4 nd Ng) (Aj (Bb 5 nd FW (Abz Acz (Aa 3 Tc) Abx (Aby (Aa 4 Ng))))
     (Aj (Bb 6 nd Kq (BS mX AhX hr.d A1 (Ac (Aa 0 AhT) (Ac (Aa 2 FV) (Ac (Cy O9 AhY T.gv OY (Ac (Bi Bx (Aa 3 Tc) (AD F2 (Aa 4 Ng) Aq) (λ_ _=>rfl)) Af)) Af)))))
     (Aj (AZ (A0 (Hs (P:=P) (w:=w) (K:=K)) (Aa 5 FW) (Aa 1 Iq) (by with_unfolding_all rfl)) (Aj (Bm (BS fV Te hr.d A1 (Ac (Aa 1 Iq) (Ac (Aa 2 FV) Af))))
      (Al (AN (IH (CC hu) (Aa 6 Kq) (Bn (Ac (BE (Ac Az (Ac (Aa 2 FV) (Ac (Aa 5 FW) Af)))) Af)) (A6 _))))) A5)
     (Aj (Bb 7 nd Nh (BS mY AhW hr.d A1 (Ac (BU P w K (Aa 1 Iq) (Aa 5 FW)) (Ac (Aa 2 FV) Af))))
     (Aj (AZ (A0 EF (Aa 7 Nh) B8 (A6 _)) (Aj (Bb 8 nd Td (BS gW AhV hr.d A1 (Ac (BU P w K (Aa 1 Iq) (Aa 5 FW)) Af)))
      (Aj (Bm (BS fV Te hr.d A1 (Ac (Aa 1 Iq) (Ac (Aa 2 FV) Af))))
      (Al (AN (IH (CC hu) (Aa 6 Kq) (Bn (Ac (BE (Ac Az (Ac (Aa 2 FV) (Ac (BE (Ac Az (Ac (Aa 5 FW) (Ac (Aa 8 Td) Af)))) Af)))) Af)) (A6 _)))))) A5)
     (Al (AZ (A0 (DC hu) (Aa 6 Kq) (Bn (Ac (BE (Ac Az (Ac (Aa 2 FV) (Ac (Aa 5 FW) (Ac (Aa 7 Nh) Af))))) Af)) (A6 _)) (Al (AN Dq)) A5))))))))
    (Al (AN Dq))),?_⟩
  try dsimp only [aC,aD]
  have bw:AQ ["hall","groups","line","head","size","prefix","told","k","paper"] [V.ref X.h,V.ref O,V.str y.num,V.str ⟨#[B,D]⟩]=[some (.ref X.h),some (.ref O),some (.str y.num),some (.str ⟨#[B,D]⟩),none,none,none,none,none]:=rfl;simp only [bw,UW,UX];walk_at"";refine ⟨by decide,KL (lo:=1) (n:=((3:Int) - 1).toNat) (λf σ H2=>∃ X2 L y2 x4 x5 x6 x7 x8,σ=[some (.ref X.h),some (.ref O),some (.str y.num),some (.str ⟨#[B,D]⟩),x4,x5,x6,x7,x8]/\X2.h=X.h/\Ah H H2/\X2.S.dn.length<=X.S.dn.length+11 * f/\W8 K a H2 X2 O L R/\L.map (·.pre)=es.map (·.pre)/\Fg X.S i y.num B D f y2 X2.S) ⟨X,es,y,none,none,none,none,none,rfl,rfl,.refl,by omega,w8,rfl,⟨Au.refl,hi,sty,ag,rfl,ai⟩⟩ ?_ ?_⟩
  .intro f σ H2 hf zq;obtain ⟨X2,L,y2,x4,x5,x6,x7,x8,rfl,eh,p2,qU,w2,dB,Y⟩:=zq;have hf:f<2:=hf;have cd:48<=cF B D f/\cF B D f<=57:=by unfold cF;split<;>assumption
   have mZ:y2.ai++(⟨#[cF B D f]⟩:Str)=wF B D f:=by rw [Y.ai];exact AhQ hf
   have wl:=AhR (c0:=B) (c1:=D) (f:=f);have wz:=AhS (c0:=B) (c1:=D) hf;have w0:wF B D f≠TK "":=λe=>by rw [e] at wl;exact absurd wl.2 (by decide)
   have wk:C8 (wF B D f):=λc m=>by
    unfold wF at m;split at m
    .simp at m;omega
    .simp at m;omega
   have zk:=(w2.e.wf.g.tx _ (E9 Y.l)).1;rw [Y.num] at zk;have zl:y.num.length=4:=by have h1:=w2.e.wf.g.tl _ (E9 Y.l);rw [w2.e.long,Y.num] at h1;omega
   walk_at"";refine T9 (DW _ rfl Aw ?_);rw [AhO hf];simp only [Cj,UW,UX];walk_at"";refine T1 (T1 (Cv _ _ _ rfl rfl Aw (AhP hf) ?_));walk_at"";refine T1 (T1 (C6 _ _ rfl (AhN cd) (by show 1<=640;decide) ?_));generalize hwd:wF B D f=I at wl wz w0 wk mZ;generalize cF B D f=cc at cd mZ;walk_at"";dsimp only [BJ];rw [<- eh,<- Y.num];refine Ab4 X2 _ i y2 I cc rfl ⟨w2.t,w2.e,Y.l,Y.st,Y.ag,cd,mZ,wl.1,w0,by omega,λH3 X3 p b x t3 bo e3 jW qR p3 ib tx g8=>?_⟩;unfold Nf at g8;rw [Y.num] at g8 ⊢;have jX:At H3 (CH O L++AY a X3 ([(p,.lst [.ref b])]++R)):=HT.out (P:=[(p,.lst [.ref b])]) t3;have qV:H3 O=some (.dK (aH L)):=jX.hd;simp only [Cj,UW,UX];walk_at"";refine A4 O _ (.inr I) rfl rfl (.of qV) ?_;have m5:∀ e∈L,FT e:=λe m=>(w2.g.ok e m).1;have sN:∀ w,Ay X2.S w=none->Ay X3.S w=none:=λw=>S5 jW;have qW:X3.S.dn.length<=X.S.dn.length+22:=by omega
   by_cases mw:I∈L.map (·.pre)
   .obtain ⟨e,me,fe⟩:=Ua.mp mw;obtain ⟨j,hj,ej⟩:=Vd me;have bT:L[j]?=some e:=by rw [Ug hj,ej]
    have oe:=m5 e me;have c9:=w2.g.rk e me;rw [fe] at c9;have vd:Bj (aH L) (.inr I)=some (.ref e.dx):=by rw [<- fe];exact Kk w2.g.nd bT
    rw [vd];refine Dm false rfl ?_;refine BW ?_;walk_at"";refine AX O _ (.inr I) _ rfl rfl (.of qV) vd ?_;have te:=Ko jX bT;have g8:=g8.resolve_left (λz=>by rw [c9] at z;cases z.1);rcases g8 with ⟨r,er,ff,ex,fr⟩ | ⟨r,k,er,ff,ex,⟨y',hy',n',s',pu',fi'⟩,tk⟩
    .rw [c9] at er;cases er;walk_at"";dsimp only [BJ];refine Cv e _ y.num rfl te oe (λ_ H4 s4=>?_) (λk _ hk=>by rw [ff] at hk;cases hk);simp only [Cj,UW,UX];walk_at"";have t4:=t3.same s4;have qX:=jX.same s4;have hg4:H4 O=some (.dK (aH L)):=qX.hd;refine AX O _ (.inr I) _ rfl rfl (.of hg4) vd ?_;walk_at"";dsimp only [BJ];refine C6 e _ rfl (te.same s4) oe (λH5 tt s5 e5=>?_);have t5:=t4.same s5;simp only [Cj,UW,UX];walk_at"";dsimp only [BJ];refine AX O L (AY a X3 ([(p,HO.lst [V.ref b])]++R)) y.num rfl (qX.same s5) w2.g.nd m5 (λH6 qY t6 f6 p6=>?_);have i6:HT K a H6 X3 ([(p,.lst [.ref b])]++(CH O qY++R)):=t5.i5 p6 t6;have mW:H6 p=some (.lst [.ref b]):=i6.t.rest.hd;have e6:=p6.t e5;have g6:=w2.g.freed f6 fr sN;have qZ:Ah H3 H6:=(Ah.of (s4.trans s5)).trans p6;walk_at"";refine ⟨Aw,λJ fh=>?_⟩;have s7:=(Ag.refl H6).upd (o:=.tup [.str "group",.str I,.ref tt]) fh;have e7:(upd H6 J (.tup [.str "group",.str I,.ref tt])) J=some (.tup [.str "group",.str I,.ref tt]):=Ai;generalize upd H6 J (.tup [.str "group",.str I,.ref tt])=H7 at s7 e7 ⊢;walk_at"";refine ⟨Aw,λb2 dC=>?_⟩;have s8:=(Ag.refl H7).upd (o:=.tup [.str "busy",.str y.num,.ref J]) dC;have e8:(upd H7 b2 (.tup [.str "busy",.str y.num,.ref J])) b2=some (.tup [.str "busy",.str y.num,.ref J]):=Ai;generalize upd H7 b2 (.tup [.str "busy",.str y.num,.ref J])=H8 at s8 e8 ⊢;walk_at"";refine ⟨Aw,λb3 fj=>?_⟩;have s9:=(Ag.refl H8).upd (o:=.lst [.ref b2]) fj;have e9:(upd H8 b3 (.lst [.ref b2])) b3=some (.lst [.ref b2]):=Ai;generalize upd H8 b3 (.lst [.ref b2])=H9 at s9 e9 ⊢;have i7:=s7.trans (s8.trans s9);have hs:∀ v∈De e,∃ z,v=.str z/\C8 z:=Ta oe;have ly:Ci 4 (.list [.tuple [.str "busy",.str y.num,.tuple [.str "group",.str I,.tuple ((De e).map Dz)]]]):=.lst (D8 (.tup (DM (.str asc) (DM (.str zk.1) (D8 (.tup (DM (.str asc) (DM (.str wk) (D8 (.tup (n:=0) (λd m=>by
      obtain ⟨v,mv,rfl⟩:=Ua.mp m;obtain ⟨z,rfl,az⟩:=hs v mv;exact .str az)))))))))))
     have oo:x=.tuple [.str "busy",.str y.num,.tuple [.str "group",.str I,.tuple ((De e).map Dz)]]:=by rw [ex];show PyData.tuple [_,_,.tuple [_,_,.tuple ((BY e.h (λk=>e.j.getD k false) e.h.length).map Dz)]]=_;rw [oe.lh];rfl
     rw [oo] at ib tx;have ib9:=Is.av _ tx ib (qZ.trans (.of i7));have it:Is K H9 (.ref tt) (.tuple ((De e).map Dz)):=.tup (.of (i7 _ _ e6)) (J2 λv m=>by obtain ⟨z,h,_⟩:=hs v m;exact ⟨z,h⟩);walk_at"";refine T1 ⟨_,_,.lst (.of (i7 _ _ mW)) (.cons ib9 .nil),.lst (.of e9) (.cons (.tup (.of (s9 _ _ e8)) (.cons (.str _) (.cons (.str _) (.cons (.tup (.of ((s8.trans s9) _ _ e7)) (.cons (.str _) (.cons (.str _) (.cons it .nil)))) .nil)))) .nil),ly.c,ly.c,(by have:=ly.k;omega),?_⟩;rw [VX _ ly.c];exact q H9 X3 qY ⟨(i6.same i7).sub (.cons _ (.refl _)),e3,g6⟩ (f6.pre.trans dB) (bo.trans eh) (Y.sh.trans jW) qW (p2.trans (p3.trans (qZ.trans (.of i7))))
    .rw [c9] at er;cases er;obtain ⟨⟨k0,k1⟩,_⟩:=Em (by decide) (VW _) ff;obtain ⟨m,rfl⟩:=ue k0;have k1:((m:Nat):Int)<(e.h.length:Int):=k1;rw [oe.lh] at k1;walk_at"";dsimp only [BJ];refine Cv e _ y.num rfl te oe (λhn=>by rw [ff] at hn;cases hn) (λk kl hk H4 t4 p4=>?_);obtain rfl:m=k:=by
      rw [ff] at hk;exact Int.ofNat.inj (Uk hk)
     have eY:HT K a H4 X3 ([(p,.lst [.ref b])]++(CH O (L.set j (FU e m y.num))++R)):=t3.i5 p4 (S8 t4 bT rfl rfl);have gB:H4 p=some (.lst [.ref b]):=eY.t.rest.hd;have g4:Gs X3.S (L.set j (FU e m y.num)):=w2.g.take bT (by rw [fe];exact tk) zl zk sN;have i8:(L.set j (FU e m y.num)).map (·.pre)=L.map (·.pre):=Kn bT rfl;generalize L.set j (FU e m y.num)=ba at eY g4 i8;simp only [Cj,UW,UX];walk_at"";refine ⟨Aw,λJ fh=>?_⟩;have s5:=(Ag.refl H4).upd (o:=.tup [.str "takes",.str y.num,.str I,.int m]) fh;have e5:(upd H4 J (.tup [.str "takes",.str y.num,.str I,.int m])) J=some (.tup [.str "takes",.str y.num,.str I,.int m]):=Ai;generalize upd H4 J (.tup [.str "takes",.str y.num,.str I,.int m])=H5 at s5 e5 ⊢;walk_at"";refine ⟨Aw,λb2 dC=>?_⟩;have s6:=(Ag.refl H5).upd (o:=.lst [.ref J]) dC;have e6:(upd H5 b2 (.lst [.ref J])) b2=some (.lst [.ref J]):=Ai;generalize upd H5 b2 (.lst [.ref J])=H6 at s6 e6 ⊢;have d9:=s5.trans s6;have ly:Ci 2 (.list [.tuple [.str "takes",.str y.num,.str I,.int m]]):=.lst (D8 (.tup (n:=0) (DM (.str asc) (DM (.str zk.1) (DM (.str wk) (D8 (.int _)))))));rw [ex] at ib;walk_at"";refine T1 ⟨_,_,.lst (.of (d9 _ _ gB)) (.cons (Is.av _ rfl ib (p4.trans (.of d9))) .nil),.lst (.of e6) (.cons (.tup (.of (s6 _ _ e5)) (.cons (.str _) (.cons (.str _) (.cons (.str _) (.cons (.int _) .nil))))) .nil),ly.c,ly.c,(by have:=ly.k;omega),?_⟩;rw [VX _ ly.c];walk_at"";rw [eh];exact ⟨X3,ba,y',_,_,_,_,_,rfl,bo.trans eh,p2.trans (p3.trans (p4.trans (.of d9))),by omega,⟨(eY.same d9).sub (.cons _ (.refl _)),e3,g4⟩,i8.trans dB,⟨Y.sh.trans jW,hy',s',pu',n',fi'.trans wz⟩⟩
   .have g8:=(g8.resolve_right (λz=>by
     have:=w2.g.no I w0 mw;rcases z with ⟨r,er,_⟩ | ⟨r,k,er,_⟩<;>(rw [this] at er;cases er)))
    rw [SF mw];refine Dm true rfl ?_;refine BQ ?_;walk_at"";dsimp only [BJ];refine AX O L (AY a X3 ([(p,HO.lst [V.ref b])]++R)) y.num rfl jX w2.g.nd m5 (λH4 ba t4 f4 p4=>?_);have eY:HT K a H4 X3 ([(p,.lst [.ref b])]++(CH O ba++R)):=t3.i5 p4 t4;have gB:H4 p=some (.lst [.ref b]):=eY.t.rest.hd;obtain ⟨_,ex,fr⟩:=g8;have g4:=w2.g.freed f4 fr sN;walk_at"";refine ⟨Aw,λJ fh=>?_⟩;have s5:=(Ag.refl H4).upd (o:=.tup [.str "none",.str y.num,.str I]) fh;have e5:(upd H4 J (.tup [.str "none",.str y.num,.str I])) J=some (.tup [.str "none",.str y.num,.str I]):=Ai;generalize upd H4 J (.tup [.str "none",.str y.num,.str I])=H5 at s5 e5 ⊢;walk_at"";refine ⟨Aw,λb2 dC=>?_⟩;have s6:=(Ag.refl H5).upd (o:=.lst [.ref J]) dC;have e6:(upd H5 b2 (.lst [.ref J])) b2=some (.lst [.ref J]):=Ai;generalize upd H5 b2 (.lst [.ref J])=H6 at s6 e6 ⊢;have d9:=s5.trans s6;have ly:Ci 2 (.list [.tuple [.str "none",.str y.num,.str I]]):=.lst (D8 (.tup (n:=0) (DM (.str asc) (DM (.str zk.1) (D8 (.str wk))))));rw [ex] at ib;walk_at"";refine T1 ⟨_,_,.lst (.of (d9 _ _ gB)) (.cons (Is.av _ rfl ib (p4.trans (.of d9))) .nil),.lst (.of e6) (.cons (.tup (.of (s6 _ _ e5)) (.cons (.str _) (.cons (.str _) (.cons (.str _) .nil)))) .nil),ly.c,ly.c,(by have:=ly.k;omega),?_⟩;rw [VX _ ly.c];exact q H6 X3 ba ⟨(eY.same d9).sub (.cons _ (.refl _)),e3,g4⟩ (f4.pre.trans dB) (bo.trans eh) (Y.sh.trans jW) qW (p2.trans (p3.trans (p4.trans (.of d9))))
  .intro σ H2 zq;obtain ⟨X2,L,y2,x4,x5,x6,x7,x8,rfl,eh,p2,qU,w2,dB,Y⟩:=zq;walk_at"";exact q H2 X2 L w2 dB eh Y.sh (by omega) p2
theorem Ni (m:Nat):(TK (toString (m:Int))).cps.toList=(ZS 10 m).map Char.toNat:=by rw [Str.ofString_eq_toList,show toString (m:Int)=String.ofList (ZS 10 m) from rfl,String.toList_ofList]
theorem Tf:∀ d:Nat,d<10->(ZS 10 d).map Char.toNat=[48+d]:=by decide +kernel
theorem Ah0 {a d:Nat}(h:0<a)(hd:d<10):(TK (toString ((10 * a+d:Nat):Int))).cps.toList=(TK (toString (a:Int))).cps.toList++[48+d]:=by rw [Ni,Ni,<- Nat.toDigits_append_toDigits (by decide) h hd,Um,Tf d hd]
def GC (z:Str):Nat:=z.cps.toList.foldl (λb c=>10 * b+(c - 48)) 0
theorem Ah1:∀ n:Nat,n<1000->100<=n->(TK (toString (n:Int))).length=3/\(∀ c∈(TK (toString (n:Int))).cps.toList,48<=c/\c<=57)/\GC (TK (toString (n:Int)))=n:=by decide +kernel
theorem Kr {n:Nat}(I:1000<=n)(J:n<10000):(TK (toString (n:Int))).length=4/\Ca (TK (toString (n:Int)))/\GC (TK (toString (n:Int)))=n:=by
 obtain ⟨a,d,hd,rfl⟩:∃ a d,d<10/\n=10 * a+d:=⟨n / 10,n % 10,by omega,by omega⟩;have e:=Ah0 (a:=a) (d:=d) (by omega) hd;obtain ⟨D,H,B⟩:=Ah1 a (by omega) (by omega);refine ⟨?_,?_,?_⟩
 .rw [Gj,e,UK,<- Gj,D];rfl
 .intro c m;rw [e] at m;rcases U1.mp m with m | m
  .exact H c m
  .rw [UB.mp m];omega
 .unfold GC at B ⊢;rw [e,List.foldl_append,B];show 10 * a+(48+d - 48)=_;omega
def Fc (c:Int)(k:Nat):Str:=TK (toString (1000+(37 * (k:Int)+c) % 9000))
theorem Nj (c:Int)(k:Nat):∃ n:Nat,1000<=n/\n<10000/\(n:Int)=1000+(37 * (k:Int)+c) % 9000/\Fc c k=TK (toString (n:Int)):=by refine ⟨(1000+(37 * (k:Int)+c) % 9000).toNat,by omega,by omega,by omega,?_⟩;unfold Fc;rw [show (((1000+(37 * (k:Int)+c) % 9000).toNat:Nat):Int)=1000+(37 * (k:Int)+c) % 9000 by omega]
theorem Ah2 (c:Int)(k:Nat):(Fc c k).length=4/\Ca (Fc c k):=by obtain ⟨n,B,D,_,e⟩:=Nj c k;rw [e];exact ⟨(Kr B D).1,(Kr B D).2.1⟩
theorem Ah3 {c:Int}{i j:Nat}(h:i<j)(L:j<60):Fc c i≠Fc c j:=λe=>by
 obtain ⟨n,B,D,O,H⟩:=Nj c i;obtain ⟨m,I,m2,V,J⟩:=Nj c j;rw [H,J] at e;have:=congrArg GC e;rw [(Kr B D).2.2,(Kr I m2).2.2] at this;omega
def Fd (c:Int)(many:Nat):List Str:=(UY many).map (Fc c)
theorem Ah4 (c:Int){B:Nat}(h:B<=60):(Fd c B).Nodup :=
 XG.mpr (ZO (λ{i j} _ D lt=>Ah3 lt (by have:=UZ.mp D;omega)) ZP)
theorem Ah5 {c:Int}{B:Nat}{z:Str}(m:z∈Fd c B):z.length=4/\Ca z:=by obtain ⟨k,_,rfl⟩:=Ua.mp m;exact Ah2 c k
theorem Ah6 (c:Int)(B:Nat):(Fd c B).length=B:=by unfold Fd;rw [TU,Vg]
def FX:List Str:=(UY 10).map λ(k:Nat)=>TK (toString (k:Int))
theorem GD:∀ n:Nat,n<100->(TK (toString (n:Int))).length=(if n<10 then 1 else 2)/\(∀ c∈(TK (toString (n:Int))).cps.toList,48<=c/\c<=57)/\GC (TK (toString (n:Int)))=n:=by decide +kernel
def Fe (c:Int)(k:Nat):Str:=TK (toString (10+((k:Int) * 3+c) % 90))
theorem Nk (c:Int)(k:Nat):∃ n:Nat,10<=n/\n<100/\(n:Int)=10+((k:Int) * 3+c) % 90/\Fe c k=TK (toString (n:Int)):=by refine ⟨(10+((k:Int) * 3+c) % 90).toNat,by omega,by omega,by omega,?_⟩;unfold Fe;rw [show (((10+((k:Int) * 3+c) % 90).toNat:Nat):Int)=10+((k:Int) * 3+c) % 90 by omega]
def Ff (c:Int):List Str:=(UY 30).map (Fe c)
theorem Ah7 (c:Int)(k:Nat):(Fe c k).length=2/\Ca (Fe c k):=by obtain ⟨n,D,B,_,e⟩:=Nk c k;rw [e];have:=(GD n B).1;rw [if_neg (by omega)] at this;exact ⟨this,(GD n B).2.1⟩
theorem Ah8 {c:Int}{i j:Nat}(h:i<j)(I:j<30):Fe c i≠Fe c j:=λe=>by
 obtain ⟨n,J,B,L,D⟩:=Nk c i;obtain ⟨m,O,m2,V,H⟩:=Nk c j;rw [D,H] at e;have:=congrArg GC e;rw [(GD n B).2.2,(GD m m2).2.2] at this;omega
theorem Nl:∀ z∈FX,z.length=1/\Ca z:=λz m=>by
 obtain ⟨k,mk,rfl⟩:=Ua.mp m;have hk:=UZ.mp mk;have:=GD k (by omega);rw [if_pos hk] at this;exact ⟨this.1,this.2.1⟩
theorem Ah9:FX.Nodup:=by decide +kernel
def Df (c:Int):List Str:=FX++Ff c
theorem Nn {c:Int}{z:Str}(m:z∈Ff c):z.length=2/\Ca z:=by obtain ⟨k,_,rfl⟩:=Ua.mp m;exact Ah7 c k
theorem Aia (c:Int):(Df c).Nodup:=by unfold Df;refine Wt.mpr ⟨Ah9,XG.mpr (ZO (λ{i j} _ B lt=>Ah8 lt (UZ.mp B)) ZP),λx D y H e=>?_⟩;have I:=(Nl x D).1;have J:=(Nn H).1;rw [e] at I;omega
theorem Tg (c:Int):(Df c).length=40:=by unfold Df FX Ff;rw [UK,TU,TU,Vg,Vg]
theorem Aib {c:Int}{z:Str}(m:z∈Df c):(1<=z.length/\z.length<=2)/\Ca z:=by
 rcases U1.mp m with m | m
 .have:=Nl z m;exact ⟨⟨by omega,by omega⟩,this.2⟩
 .have:=Nn m;exact ⟨⟨by omega,by omega⟩,this.2⟩
def two (zs:List Str):List Str:=zs.filter λz=>decide (z.length=2)
theorem Aic {c:Int}{zs:List Str}(p:zs.Perm (Df c)):(two zs).length=30:=by have h:=(p.filter λz=>decide (z.length=2)).length_eq;unfold two;rw [h];unfold Df;rw [Yu,UK,List.filter_eq_nil_iff.mpr (λz m=>by have:=(Nl z m).1;simp [this]),List.filter_eq_self.mpr (λz m=>by have:=(Nn m).1;simp [this])];unfold Ff;rw [TU,Vg];rfl
theorem Aid (c:Int){d:Nat}(h:48<=d/\d<=57):(⟨#[d]⟩:Str)∈Df c:=by refine WB _ (Ua.mpr ⟨d - 48,UZ.mpr (by omega),?_⟩);refine LP ?_;rw [Ni,Tf _ (by omega)];show [48+(d - 48)]=[d];congr 1;omega
theorem HT.perm {K:TH}{a:Ak}{H:Hp}{X:HX}{R R':AK}(t:HT K a H X R)(p:R'.Perm R):HT K a H X R':=by refine ⟨?_,t.ok⟩;have B:=t.t;rw [Fb] at B ⊢;exact B.perm (List.Perm.append_left _ p)
def GF (e:GE)(k:Nat)(b:Bool):GE:={ e with j:=e.j.set k b }
section
variable {S S':PS}{es:List GE}{z:Str}{i k:Nat}{e:GE}{b:Bool}
theorem Gs.aZ (g:Gs S es)(D:es[i]?=some e)(h:∀ p r,p≠TK ""->Ay S p=some r->Ay S' p=some (if p=e.pre then (r.1,r.2.1.set (k:Int).toNat b,r.2.2) else r))(s:∀ w,Ay S w=none->Ay S' w=none):Gs S' (es.set i (GF e k b)):=by
 have me:=Ue D;obtain ⟨B,H,L⟩:=g.ok e me;refine g.set D (e':=GF e k b) rfl ⟨B.lh,by show (e.j.set _ _).length=10;rw [Ud];exact B.lj,B.lt,B.hv⟩ ?_ (λp r I n J=>?_) s
 .have:=h e.pre _ H (g.rk e me);rw [if_pos rfl,Vo] at this;exact this
 .have:=h p r I J;rw [if_neg n] at this;exact this
theorem Aie {w:Str}{q:Int}{dd:Addr}(B:z≠TK "")(h:Ay S w=none):Ay (aA (Be S b z q) dd) w=none:=by
 obtain ⟨D,m⟩:=MK h;have e:(Be S b z q).aj.map (·.pre)=S.aj.map (·.pre):=by unfold Be;rw [if_neg B];show (S.aj.map _).map _=_;rw [Uo];refine WV λg _=>?_;show (if g.pre=z then _ else g).pre=g.pre;split<;>rfl
 unfold Ay;rw [if_neg D,show Bo (aA (Be S b z q) dd) w=none from Gu (by show w ∉ (Be S b z q).aj.map _;rw [e];exact m)];rfl
end
theorem Gs.pap {S:PS}{es:List GE}{e:GE}(g:Gs S es)(m:e∈es):J8 S e.pre (e.h,e.j,e.t)=De e:=by obtain ⟨B,D,H⟩:=g.ok e m;unfold J8 De;rw [if_neg D];show BY e.h _ e.h.length=_;rw [B.lh]
theorem Np {K:TH}{H:Hp}:∀ zs:List Int,aW K H (zs.map V.int) (zs.map PyData.int)
 | []=>.nil
 | z :: zs=>.cons (.int z) (Np zs)
def CI (pre:Str)(dx ha ja sa:Addr):GE:=⟨pre,dx,ha,ja,sa,TX 10 .aa,TX 10 false,TX 10 0⟩
theorem Aif {es:List GE}{e:GE}(m:e.pre ∉ es.map (·.pre)):BD (aH es) (.inr e.pre) (.ref e.dx)=aH (es++[e]):=by rw [Jk _ (SF m)];unfold aH;rw [Um];rfl
theorem Gs.begin {S:PS}{es:List GE}{hs:List Str}(ep:es.map (·.pre)=hs)(O:hs.Nodup)(V:∀ z∈hs,(1<=z.length/\z.length<=2)/\Ca z)(I:∀ e∈es,∃ dx ha B D,e=CI e.pre dx ha B D)(Y:∀ p∈hs,Ay S p=some (TX 10 .aa,TX 10 false,TX 10 0))(hn:∀ w,w≠TK ""->w ∉ hs->Ay S w=none):Gs S es:=by
 have J:∀ e∈es,e.pre∈hs:=λe m=>by rw [<- ep];exact Ua.mpr ⟨e,m,rfl⟩
 refine ⟨by rw [ep];exact O,λe m=>?_,λe m=>?_,λw w0 m=>hn w w0 (by rw [<- ep];exact m)⟩
 .obtain ⟨L,h2⟩:=V _ (J e m);obtain ⟨dx,ha,B,D,H⟩:=I e m;refine ⟨?_,λc=>?_,h2.asc,by omega⟩
  .rw [H];exact ⟨UR,UR,UR,λv m=>.inl (ZQ m)⟩
  .rw [c] at L;exact absurd L.1 (by decide)
 .rw [Y _ (J e m)];obtain ⟨dx,ha,B,D,H⟩:=I e m;rw [H];rfl
theorem Aig {zs hs:List Str}{n:Int}{w:Str}(B:w≠TK "")(m:w ∉ hs):Ay (Lw.bY 4 zs n (hs.map λh=>(h,10))) w=none:=by
 unfold Ay;rw [if_neg B,show Bo (Lw.bY 4 zs n (hs.map λh=>(h,10))) w=none from Gu (by
  show w ∉ (((hs.map λh=>(h,(10:Int))).map BP)).map (·.pre);rw [Uo,Uo];exact λc=>m (by
   have:hs.map ((λx:Gr=>x.pre)∘BP∘λh=>(h,(10:Int)))=hs:=Wz hs;rw [<- this];exact c))]
 rfl
structure Th (P:TV)(w:TM)(K:TH)(mg:Str->Option Value)(a:Ak):Prop extends TxtG P w K mg a where
 i9:mg "str"=none
def Ks (K:TH):Sp:=λvs H Q _=>∃(p:Addr)(ns:List Int),vs=[.ref p]/\A7 K H p (ns.map V.int)/\ns.length<=63/\∀ H',Q (.bl true) H'
theorem Kt {n:Int}(h:n.natAbs<100000):n.natAbs.log2<1920:=by
 by_cases z:n.natAbs=0
 .rw [z];decide
 .exact Nat.lt_trans ((Nat.log2_lt z).mpr (show n.natAbs<2 ^ 17 by omega)) (by decide)
theorem HT.add {K:TH}{a:Ak}{H B:Hp}{X:HX}{R:AK}{b:Addr}{u:HO}(t:HT K a H X R)(s:Ag H B)(n:H b=none)(h:B b=some u):HT K a B X ((b,u) :: R):=by refine ⟨?_,t.ok.av (.of s)⟩;have D:=t.t.add s n h;rw [Fb] at D ⊢;exact At.swap (P:=[(b,u)]) D
theorem Aih {z:Str}(B:z.length=2):∃ c0 c1,z=⟨#[c0,c1]⟩:=by
 have D:z.cps.toList.length=2:=by rw [Ve];exact B
 match hl:z.cps.toList,D with
 | [c0,c1],_=>exact ⟨c0,c1,LP hl⟩
theorem Gs.aj {S S':PS}{es:List GE}(g:Gs S es)(e:S'.aj=S.aj):Gs S' es:=⟨g.nd,g.ok,λu m=>(GA (g.ok u m).2.1 e).trans (g.rk u m),λw B m=>(GA B e).trans (g.no w B m)⟩
theorem HT.abu {K:TH}{a:Ak}{H:Hp}{X:HX}{R:AK}{z:Str}{B L O D V I Y J:Addr}{o1 o3 o5:HO}{es:List GE}(t:HT K a H X ([(J,HO.lst (TX 10 (.int 0))),(Y,o5),(I,.lst (TX 10 (.bl false))),(V,o3),(D,.lst (TX 10 .aa)),(O,o1),(B,.dK (CI z B D I J).kv)]++(L,.dK (aH (es++[CI z B D I J]))) :: (es.flatMap B7++R))):HT K a H X (CH L (es++[CI z B D I J])++R):=by have t1:HT K a H X ((B7 (CI z B D I J)).reverse++(L,.dK (aH (es++[CI z B D I J]))) :: (es.flatMap B7++R)):=t.sub (.cons₂ _ (.cons _ (.cons₂ _ (.cons _ (.cons₂ _ (.cons _ (.cons₂ _ (.refl _))))))));refine t1.perm ?_;unfold CH;rw [Yw,List.flatMap_singleton];refine (uS _ (ZI R uO)).trans ?_;rw [Ur];refine Yv.symm.trans ?_;exact ZI _ (List.reverse_perm _).symm
theorem Ti:AR ["script","plan","many","lines","heads","hall","groups","prefix","head","draw","line","word","goal","where","k"] ["script"] (Ab (top 47)):=.of
theorem Tj:Nm (Ab (top 47)) "script":=.of
theorem Nq:Hm (Ab (top 47)) "plan":=by walk_at "k"
theorem Ku:Nm (Ab (top 47)) "many":=.of
theorem Nr:Nm (Ab (top 47)) "lines":=.of
theorem Kv:Nm (Ab (top 47)) "heads":=.of
theorem Fh:Nm (Ab (top 47)) "hall":=.of
theorem FY:Nm (Ab (top 47)) "groups":=.of
theorem FZ:Nm (Ab (top 47)) "prefix":=.of
theorem Fi:Nm (Ab (top 47)) "head":=.of
theorem Ex:Nm (Ab (top 47)) "draw":=.of
theorem Fj:Nm (Ab (top 47)) "line":=.of
theorem Tn:Nm (Ab (top 47)) "word":=.of
theorem To:Nm (Ab (top 47)) "goal":=.of
theorem Nt:Nm (Ab (top 47)) "where":=.of
theorem Nu:Nm (Ab (top 47)) "k":=.of
theorem Tp:Gm (Ab (top 47)) "_law_draws":=.of
theorem Aii:Gm (Ab (top 47)) "_law_paper":=.of
theorem Aij:Gm (Ab (top 47)) "_law_dials":=.of
theorem Aik:Gm (Ab (top 47)) "_law_freed":=.of
theorem Ail:Gm (Ab (top 47)) "str":=.of
theorem Aim:Gm (Ab (top 47)) "Hall":=.of
theorem Ain:Gm (Ab (top 47)) "Plan":=.of
theorem Tq:Gm (Ab (top 47)) "sorted":=.of
theorem Nv:Gm (Ab (top 47)) "range":=.of
def Nw:Scope:={ kind:=.function,names:=[(".0",.local),("one",.local),("len",.globalImplicit)],isGenerator:=false,isCoroutine:=false,more:=[] }
theorem Tr:Bh Nw (Ab (top 47)) ["one"] ["script","plan","many","lines","heads","hall","groups","prefix","head","draw","line","word","goal","where","k"] [none]:=Bh.mk' rfl (by decide +kernel) (by decide +kernel) (by decide +kernel) (by decide +kernel) rfl (by decide +kernel)
theorem Nx:Nm Nw "one":=.of
theorem Aio:Gm Nw "len":=.of
def Ts:Scope:={ kind:=.function,names:=[(".0",.local),("prefix",.local)],isGenerator:=false,isCoroutine:=false,more:=[] }
theorem Tt:Bh Ts (Ab (top 47)) ["prefix"] ["script","plan","many","lines","heads","hall","groups","prefix","head","draw","line","word","goal","where","k"] [none]:=Bh.mk' rfl (by decide +kernel) (by decide +kernel) (by decide +kernel) (by decide +kernel) rfl (by decide +kernel)
theorem Tu:Nm Ts "prefix":=.of
def Ny:Scope:={ kind:=.function,names:=[(".0",.local),("k",.local),("str",.globalImplicit)],isGenerator:=false,isCoroutine:=false,more:=[] }
theorem Tv:Bh Ny (Ab (top 47)) ["k"] ["script","plan","many","lines","heads","hall","groups","prefix","head","draw","line","word","goal","where","k"] [none]:=Bh.mk' rfl (by decide +kernel) (by decide +kernel) (by decide +kernel) (by decide +kernel) rfl (by decide +kernel)
theorem Tw:Nm Ny "k":=.of
theorem Aip:Gm Ny "str":=.of
def Kw:Scope:={ kind:=.function,names:=[(".0",.local),("k",.local),("str",.globalImplicit),("plan",.free)],isGenerator:=false,isCoroutine:=false,more:=[] }
theorem Tx:Bh Kw (Ab (top 47)) ["k","plan"] ["script","plan","many","lines","heads","hall","groups","prefix","head","draw","line","word","goal","where","k"] [none,some 1]:=Bh.mk' rfl (by decide +kernel) (by decide +kernel) (by decide +kernel) (by decide +kernel) rfl (by decide +kernel)
theorem Tz:Nm Kw "k":=.of
theorem Aiq:EO Kw "plan":=by walk_at "k"
theorem Air:Gm Kw "str":=.of
def Kx:Scope:={ kind:=.function,names:=[(".0",.local),("k",.local),("str",.globalImplicit),("plan",.free)],isGenerator:=false,isCoroutine:=false,more:=[] }
theorem TB:Bh Kx (Ab (top 47)) ["k","plan"] ["script","plan","many","lines","heads","hall","groups","prefix","head","draw","line","word","goal","where","k"] [none,some 1]:=Bh.mk' rfl (by decide +kernel) (by decide +kernel) (by decide +kernel) (by decide +kernel) rfl (by decide +kernel)
theorem TC:Nm Kx "k":=.of
theorem Ais:EO Kx "plan":=by walk_at "k"
theorem Ait:Gm Kx "str":=.of
theorem Aiu (F:AL K "law" "law" (top 47) f fd)(T:Th P w K mg a)(jY:BX P w K mg base AA 2 "_law_draws" ["script","k","many","base"] (PZ K))(m7:BX P w K mg base AA 11 "_law_dials" ["hall","groups","line","head"] (S9 K a))(fV:BX P w K mg base AA 1 "_law_freed" ["groups","line"] (M7 K))(gW:BX P w K mg base AA 1 "_law_paper" ["group"] (M5 K))(gR:AO P w K mg base (AJ P w) 9 a.ae "do" ["self","deed"] (J6 K a))(abv:AO P w K mg base (AJ P w) 2 a.ae "way" ["self","line"] (R7 K a λx=>.str x.l.st))(l8:AO P w K mg base (AJ P w) 2 a.ae "paper" ["self","where"] (R9 K a))(abw:AO P w K mg base (AJ P w) 2 a.ae "shares" ["self","where"] (R8 K a))(abx:EM P w K mg base AA 4 a.ae "Hall" ["self","plan"] (Sq K a))(aby:EM P w K mg base (AJ P w) 3 a.Plan "Plan" ["self","long","lines","seekers","groups"] (QQ a K))(pc:JK K a.Plan):AE P w K mg base AA 12 f fd ["script"] (Ks K):=by
 refine F.ok Ti λak A outer s H vs Q E hr h=>?_
 .obtain ⟨ps,ns,rfl,hS,hn,q⟩:=h;have hu:=hr.units;have nd:=Ti.nd;have gS:=T.hc.cls;have abz:=T.hc.cls;have md:=T.hc.cls;have abA:=T.hc.cls;refine ⟨_,(@Aj _ _ _ _ _ (O8 1 nd Nq (BS jY Tp hr.d A1 (Ac (Aa 0 Tj) (Ac Aq (Ac Aq (Ac Aq Af))))))
    (Aj (Bb 2 nd Ku (AD Cr Aq (AD B3 (Bi Bx (Je 1 Nq) Aq (λ_ _=>rfl)) Aq)))
    (Aj (Bb 3 nd Nr (BR Lx Tq T.iH I0 (Ac (Ej rfl TB (FA Nv T.cy (Ac (Aa 2 Ku) Af)) (λcl C fp pins s₂ H₂=>(Bt 0 TB.nd TC.comp)) (λcl C fp pins s₂ H₂=>DD) (λcl C fp pins s₂ H₂=>(Cy II Ait.comp T.i9 IY (Ac (AD Cr Aq (AD B3 (AD Cr (AD Cc Aq (Aa 0 TC.comp)) (Bi (ER K rfl) (EN 1 Ais.comp) Aq (λ_ _=>rfl))) Aq)) Af)))) Af)))
    (Aj (Bb 4 nd Kv (BR Lx Tq T.iH I0 (Ac (AD Cr (Ej rfl Tv (FA Nv T.cy (Ac Aq Af)) (λcl C fp pins s₂ H₂=>(Bt 0 Tv.nd Tw.comp)) (λcl C fp pins s₂ H₂=>DD) (λcl C fp pins s₂ H₂=>(Cy II Aip.comp T.i9 IY (Ac (Aa 0 Tw.comp) Af)))) (Ej rfl Tx (FA Nv T.cy (Ac Aq Af)) (λcl C fp pins s₂ H₂=>(Bt 0 Tx.nd Tz.comp)) (λcl C fp pins s₂ H₂=>DD) (λcl C fp pins s₂ H₂=>(Cy II Air.comp T.i9 IY (Ac (AD Cr Aq (AD B3 (AD Cr (AD Cc (Aa 0 Tz.comp) Aq) (Bi (ER K rfl) (EN 1 Aiq.comp) Aq (λ_ _=>rfl))) Aq)) Af))))) Af)))
    (Aj (Bb 5 nd Fh (Hl abx Aim hr.d A1 (Ac (Hl aby Ain hr.d Ef (Ac Aq (Ac (Aa 3 Nr) (Ac (Aa 2 Ku) (Ac (Ej rfl Tt (Ds (Aa 4 Kv)) (λcl C fp pins s₂ H₂=>(Bt 0 Tt.nd Tu.comp)) (λcl C fp pins s₂ H₂=>DD) (λcl C fp pins s₂ H₂=>(BE (Ac (Aa 0 Tu.comp) (Ac Aq Af))))) Af))))) Af)))
    (Aj (Bb 6 nd FY Ac2)
    (Aj (Dt VT rfl (Ds (Aa 4 Kv)) (Bt 7 nd FZ) (Al (Lq (Xa (ZM (by decide) _) hu) (Aa 6 FY) (Aa 7 FZ) (Ac5 (Lu Az (AD Cc (Bn (Ac B8 Af)) Aq) (Lu Az (AD Cc (Bn (Ac Dq Af)) Aq) (Lu Az (AD Cc (Bn (Ac Aq Af)) Aq) Ac3))) rfl rfl (by simp) (by decide)) rfl)))
    (Aj (Bb 8 nd Fi (Bi Bx (Ej rfl Tr (Ds (Aa 4 Kv)) (λcl C fp pins s₂ H₂=>(Bt 0 Tr.nd Nx.comp)) (λcl C fp pins s₂ H₂=>(K7 (A0 (Pa K rfl hu) (BR (AcU K rfl) Aio.comp T.n_len Cn (Ac (Aa 0 Nx.comp) Af)) Aq (A6 _)))) (λcl C fp pins s₂ H₂=>(Aa 0 Nx.comp))) (AD B3 (Bi Bx (Je 1 Nq) Aq (λ_ _=>rfl)) Aq) (λ_ _=>rfl)))
    (Aj (Dt VT rfl (Ds (BS jY Tp hr.d A1 (Ac (Aa 0 Tj) (Ac Aq (Ac Aq (Ac (AD Cc Aq Aq) Af)))))) (Bt 9 nd Ex) (Aj (Bb 10 nd Fj (Bi Bx (Aa 3 Nr) (AD B3 (AD B3 (Aa 9 Ex) Aq) (Aa 2 Ku)) (λ_ _=>rfl)))
     (Aj (Bb 11 nd Tn (A2 abv abz (Aa 5 Fh) hr.d Ef (Ac (Aa 10 Fj) Af)))
     (Aj (Bb 12 nd To (Bi Bx (Bn (Ac (Aa 8 Fi) (Ac (Aa 8 Fi) (Ac (Aa 8 Fi) (Ac (Cy II Ail T.i9 IY (Ac (AD Cr Aq (AD B3 (AD EE (Aa 9 Ex) Aq) Aq)) Af)) Af))))) (AD B3 (AD EE (Aa 9 Ex) Aq) Aq) (λ_ _=>rfl)))
     (Aj (AZ (A0 (CC hu) (AD B3 (AD EE (Aa 9 Ex) Aq) Aq) Aq (A6 _)) (Aj (Bb 13 nd Nt (Bi Bx (Bn (Ac (Aa 8 Fi) (Ac (Bi Bx (Aa 8 Fi) Aq (λ_ _=>rfl)) Af))) (AD B3 (AD EE (Aa 9 Ex) Aq) Aq) (λ_ _=>rfl)))
      (Aj (Bb 14 nd Nu (AD B3 (AD EE (Aa 9 Ex) Aq) Aq))
      (Aj (EA (IH (CC hu) (AD B3 (AD EE (Aa 9 Ex) Aq) Aq) Aq (A6 _)) (Fn (BU P w K (BU P w K (Aa 6 FY) (Aa 13 Nt)) Az) (Aa 14 Nu) DS))
      (Al (AZ (A0 (DC hu) (A2 gR gS (Aa 5 Fh) hr.d Ef (Ac (BE (Ac (Bi Bx (Bn (Ac Az (Ac Az Af))) (AD B3 (AD EE (Aa 9 Ex) Aq) Aq) (λ_ _=>rfl)) (Ac (Aa 13 Nt) (Ac (Aa 14 Nu) Af)))) Af)) (Bn Af) (A6 _)) (Al (AN Dq)) A5))))) (Al (AZ (A0 (CC hu) (Aa 11 Tn) Az (A6 _)) (Al (AZ (PW.pt (IA (A0 (DC hu) (Bi Bx (A2 gR gS (Aa 5 Fh) hr.d Ef (Ac (BE (Ac Az (Ac (Aa 10 Fj) Af))) Af)) Aq (λ_ _=>rfl)) (BE (Ac Az (Ac (Aa 10 Fj) Af))) (A6 _)) (Iz (Dr (Dj (BS m7 Aij hr.d A1 (Ac (Aa 5 Fh) (Ac (Aa 6 FY) (Ac (Aa 10 Fj) (Ac (Aa 12 To) Af)))))))))) (Al (AN Dq)) A5)) (Aj (Bm (BS fV Aik hr.d A1 (Ac (Aa 6 FY) (Ac (Aa 10 Fj) Af))))
       (Al (AZ (A0 (DC hu) (A2 gR gS (Aa 5 Fh) hr.d Ef (Ac (BE (Ac Az (Ac (Aa 10 Fj) Af))) Af)) (Bn (Ac (BE (Ac Az (Ac (Aa 10 Fj) Af))) Af)) (A6 _)) (Al (AN Dq)) A5))))))
     (Al (Dt VT rfl (Ds (Bn (Ac (Aa 8 Fi) (Ac (Bi Bx (Aa 8 Fi) Aq (λ_ _=>rfl)) Af)))) (Bt 7 nd FZ) (Al (AZ (PW.pt (IA (A0 (DC hu) (A2 l8 md (Aa 5 Fh) hr.d Ef (Ac (Aa 7 FZ) Af)) (BS gW Aii hr.d A1 (Ac (BU P w K (Aa 6 FY) (Aa 7 FZ)) Af)) (A6 _)) (Iz (A0 (DC hu) (A2 abw abA (Aa 5 Fh) hr.d Ef (Ac (Aa 7 FZ) Af)) (BU P w K (BU P w K (Aa 6 FY) (Aa 7 FZ)) Az) (A6 _))))) (Al (AN Dq)) A5)))))))))
    (Al (AN Dq))))))))))),?_⟩
  try dsimp only [aC,aD]
  have bw:AQ ["script","plan","many","lines","heads","hall","groups","prefix","head","draw","line","word","goal","where","k"] [V.ref ps]=[some (.ref ps),none,none,none,none,none,none,none,none,none,none,none,none,none,none]:=rfl;simp only [bw,UW,UX];walk_at"";refine Fu ps ns 0 _ _ rfl ⟨hS,by decide,by decide,hn,by decide,by decide,by decide,by decide,λr row H1 s1 nr hR hlen eU=>?_⟩;obtain ⟨C0,J,kS⟩:∃ C0:AK,At H C0/\∀ I,At I C0->Ah H I->A7 K I ps (ns.map V.int):=by
   rcases hS with (hS | ⟨o,hS⟩) | hS
   .exact ⟨[(ps,.lst (ns.map V.int))],⟨λc m=>by rw [UB.mp m];exact hS,by simp⟩,λI t _=>.of t.hd⟩
   .exact ⟨[],⟨(λc m=>nomatch m),.nil⟩,λI _ p=>.inl (.inr ⟨o,p.f _ _ rfl hS⟩)⟩
   .exact ⟨[],⟨(λc m=>nomatch m),.nil⟩,λI _ _=>.inr hS⟩
  have L:=J.add s1 nr hR;obtain ⟨v0,v1,v2,v3,v4,v5,rfl⟩:∃ v0 v1 v2 v3 v4 v5,row=[v0,v1,v2,v3,v4,v5]:=by
   match row,hlen with
   | [v0,v1,v2,v3,v4,v5],_=>exact ⟨v0,v1,v2,v3,v4,v5,rfl⟩
  have b0:=eU v0 (by simp);have b1:=eU v1 (by simp);have b2:=eU v2 (by simp);have b3:=eU v3 (by simp);walk_at"";obtain ⟨B,em⟩:∃ B:Nat,(B:Int)=12+v0 % 49:=⟨(12+v0 % 49).toNat,by omega⟩;have rg:12<=B/\B<=60:=by omega
  rw [<- em];refine ⟨by omega,by omega,λD nD=>?_⟩;have rh:((B:Int)).toNat=B:=Vo B;refine Ho (lo:=0) (n:=((B:Int)).toNat) (λi σ I=>∃ x,σ=[x,some (.ref r)]/\Ag H1 I/\I D=some (.lst (((UY i).map (Fc v1)).map V.str))) ⟨none,rfl,(Ag.refl H1).upd nD,Ai⟩ ?_ ?_
  .intro i σ I hi Y;obtain ⟨x,rfl,sm,hL⟩:=Y;rw [rh] at hi;simp only [Xf];have m8:=sm _ _ hR;walk_at"";refine ⟨Kt (by omega),?_⟩;walk_at"";refine ⟨_,hL,(by rw [TU,TU,Vg,TY];omega),_,rfl,sm.bI nD,?_⟩;rw [Ai,WZ,Um,Um];rfl
  .intro σ H2 Y;obtain ⟨x,rfl,s2,hL⟩:=Y;rw [rh] at hL;have zl:(Fd v1 B).length=B:=Ah6 v1 B;have zn:=Ah4 v1 rg.2;have zo:∀ z∈Fd v1 B,z.length=4/\Ca z:=λz m=>Ah5 m;have hL:H2 D=some (.lst ((Fd v1 B).map V.str)):=hL;generalize Fd v1 B=zs0 at hL zl zn zo;walk_at"";refine C6 D zs0 rfl (.of hL) (by omega) (λll zs rj pz wz=>?_);have zl':zs.length=B:=pz.length_eq.trans zl;have m9:zs.Nodup:=pz.nodup_iff.mpr zn;have jc:∀ z∈zs,z.length=4/\Ca z:=λz m=>zo z (pz.mem_iff.mp m);have s3:=(Ag.refl H2).upd (o:=.lst (zs.map V.str)) rj;have jZ:(upd H2 ll (.lst (zs.map V.str))) ll=some (.lst (zs.map V.str)):=Ai;generalize upd H2 ll (.lst (zs.map V.str))=H3 at s3 jZ ⊢;have ni:=s2.trans s3;have c3:=(L.same s2).add s3 rj jZ;have nk:=ni _ _ hR;clear hL pz zl zn zo s2 s3
   walk_at"";refine ⟨by decide,by decide,λD2 ny=>?_⟩;refine Ho (lo:=0) (n:=((10:Int)).toNat) (λi σ I=>∃ x,σ=[x]/\Ag H3 I/\I D2=some (.lst (((UY i).map λ(k:Nat)=>TK (toString (k:Int))).map V.str))) ⟨none,rfl,(Ag.refl H3).upd ny,Ai⟩ ?_ ?_
   .intro i σ I hi Y;obtain ⟨x,rfl,sm,hL⟩:=Y;have hi:i<10:=hi;simp only [Xf];walk_at"";refine ⟨Kt (by omega),?_⟩;walk_at"";refine ⟨_,hL,(by rw [TU,TU,Vg,TY];omega),_,rfl,sm.bI ny,?_⟩;rw [Ai,WZ,Um,Um];rfl
   .intro σ H4 Y;obtain ⟨x,rfl,s4,cG⟩:=Y;have cG:H4 D2=some (.lst (FX.map V.str)):=cG;have m8:=s4 _ _ nk;walk_at"";refine ⟨by decide,by decide,λD3 fW=>?_⟩;refine Ho (lo:=0) (n:=((30:Int)).toNat) (λi σ I=>∃ x,σ=[x,some (.ref r)]/\Ag H4 I/\I D3=some (.lst (((UY i).map (Fe v2)).map V.str))) ⟨none,rfl,(Ag.refl H4).upd fW,Ai⟩ ?_ ?_
    .intro i σ I hi Y;obtain ⟨x,rfl,sm,hL⟩:=Y;have hi:i<30:=hi;simp only [Xf];have hR5:=sm _ _ m8;walk_at"";refine ⟨Kt (by omega),?_⟩;walk_at"";refine ⟨_,hL,(by rw [TU,TU,Vg,TY];omega),_,rfl,sm.bI fW,?_⟩;rw [Ai,WZ,Um,Um];rfl
    .intro σ H5 Y;obtain ⟨x,rfl,s5,c5⟩:=Y;have c5:H5 D3=some (.lst ((Ff v2).map V.str)):=c5;have rm:=s5 _ _ cG;have l1:FX.length=10:=by decide +kernel
     have l2:(Ff v2).length=30:=by unfold Ff;rw [TU,Vg]
     walk_at"";refine T1 (T1 (A9 D2 D3 _ _ rfl rfl rm c5 (by rw [TU,TU,l1,l2,TY];decide) (λD4 rn=>?_)));rw [<- Um,show FX++Ff v2=Df v2 from rfl];have s6:=(Ag.refl H5).upd (o:=.lst ((Df v2).map V.str)) rn;have e6:(upd H5 D4 (.lst ((Df v2).map V.str))) D4=some (.lst ((Df v2).map V.str)):=Ai;generalize upd H5 D4 (.lst ((Df v2).map V.str))=H6 at s6 e6 ⊢;walk_at"";refine C6 D4 (Df v2) rfl (.of e6) (by rw [Tg];decide) (λhh hs nA ph wh=>?_);have s7:=(Ag.refl H6).upd (o:=.lst (hs.map V.str)) nA;have eZ:(upd H6 hh (.lst (hs.map V.str))) hh=some (.lst (hs.map V.str)):=Ai;generalize upd H6 hh (.lst (hs.map V.str))=H7 at s7 eZ ⊢;have c7:=(c3.same (s4.trans (s5.trans s6))).add s7 nA eZ;have j0:=s4.trans (s5.trans (s6.trans s7));have rp:=j0 _ _ jZ;have rq:=j0 _ _ nk;have s17:=ni.trans j0;have oR:hs.length=40:=ph.length_eq.trans (Tg v2);have j5:hs.Nodup:=ph.nodup_iff.mpr (Aia v2);have fm:∀ z∈hs,(1<=z.length/\z.length<=2)/\Ca z:=λz m=>Aib (ph.mem_iff.mp m);clear s4 s5 s6 s7 cG c5 rm e6 m8 ny fW rn nA ni jZ nk j0
     walk_at"";refine ⟨⟨_,.of eZ⟩,λD3 fW=>?_⟩;refine Jg (K:=K) (a:=hh) (xs:=hs.map V.str) (λi σ I=>∃(x:Option V)(ts:List Pr),σ=[x]/\Ag H7 I/\I D3=some (.lst (ts.map B9))/\DY I ts/\ts.map (·.2)=(hs.take i).map λh=>(h,(10:Int))) ⟨none,[],rfl,(Ag.refl H7).upd fW,Ai,(λt m=>nomatch m),rfl⟩ (λi σ I _ ⟨_,_,_,sm,_⟩=>.of (sm _ _ eZ)) ?_ ?_
     .intro i v σ I hv Y;obtain ⟨x,ts,rfl,sm,hD,lay,fX⟩:=Y;rw [T7] at hv;obtain ⟨h,hh,rfl⟩:=UU.mp hv;have tl:ts.length<=40:=by
       have:=congrArg WQ fX;rw [TU,TU,Vt] at this;omega
      walk_at"";refine ⟨Aw,λb nb=>?_⟩;have s6:=(Ag.refl I).upd (o:=.tup [.str h,.int 10]) nb;have e6:(upd I b (.tup [.str h,.int 10])) b=some (.tup [.str h,.int 10]):=Ai;generalize upd I b (.tup [.str h,.int 10])=H6 at s6 e6 ⊢;refine ⟨_,s6 _ _ hD,(by rw [TU,TY];omega),_,ts++[(b,h,10)],rfl,(sm.trans s6).bI fW,?_,λt m=>?_,?_⟩
      .rw [Ai,Um];rfl
      .have e7:H6 t.1=some (.tup [.str t.2.1,.int t.2.2]):=by
        rcases U1.mp m with m | m
        .exact s6 _ _ (lay t m)
        .rw [UB.mp m];exact e6
       rw [Ap (Iu e7 (s6 _ _ hD) (λz=>nomatch z))];exact e7
      .rw [Um,fX,VB,hh,Um];rfl
     .intro σ H8 Y;obtain ⟨x,ts,rfl,s8,hD,lay,fX⟩:=Y;rw [TU,VC] at fX;have tl:ts.length=40:=by
       have:=congrArg WQ fX;rw [TU,TU] at this;omega
      have tn:ts.map (·.2.1)=hs:=by have:=congrArg (VU Prod.fst) fX;rw [Uo,Uo] at this;exact this.trans (Wz hs)
      have tt:∀ t∈ts,t.2.1∈hs/\t.2.2=10:=λt m=>by
       have:t.2∈ts.map (·.2):=Ua.mpr ⟨t,m,rfl⟩;rw [fX] at this;obtain ⟨h,mh,e⟩:=Ua.mp this;rw [<- e];exact ⟨mh,rfl⟩
      have rA:=s8 _ _ rp;have hh8:=s8 _ _ eZ;have hR8:=s8 _ _ rq;have s18:=s1.trans (s17.trans s8);have c8:=c7.add s8 fW hD;walk_at"";intro pl bB npl rB fT;have rD:(upd H8 bB (.own pl)) pl=none:=by rw [Ap (Uj fT)];exact npl
      have t7:=(c8.new (u:=.own pl) rB).new (u:=.ins a.Plan bB []) rD;have s9:Ag H8 (upd (upd H8 bB (.own pl)) pl (.ins a.Plan bB [])):=((Ag.refl H8).upd rB).upd rD;have e9:(upd (upd H8 bB (.own pl)) pl (.ins a.Plan bB [])) pl=some (.ins a.Plan bB []):=Ai;generalize upd (upd H8 bB (.own pl)) pl (.ins a.Plan bB [])=H9 at t7 s9 e9 ⊢;have rE:DY H9 ts:=λt m=>s9 _ _ (lay t m);have good:Mh 4 (B:Int) zs ts:=by refine ⟨⟨by decide,by decide,by omega,by omega⟩,⟨⟨by omega,by omega⟩,λz m=>⟨by rw [(jc z m).1];rfl,(jc z m).2⟩,m9⟩,by omega,λt m=>?_,by rw [tn];exact j5⟩;obtain ⟨m1,m2⟩:=tt t m;have:=fm _ m1;exact ⟨⟨by omega,by omega⟩,this.2,by omega,by omega⟩
      refine EK pl 4 ll (B:Int) D3 a.Plan bB zs ts rfl ⟨e9,pc,⟨s9 _ _ rA,s9 _ _ hD,rE,λz m=>⟨(jc z m).2.asc,by have:=(jc z m).1;omega⟩,λt m=>⟨(fm _ (tt t m).1).2.asc,by have:=(fm _ (tt t m).1).1;omega⟩,by omega,by omega⟩,λ_ HA lt gt bF dD xA eA au iW pm srt cE _=>?_,λng=>absurd good ng⟩;obtain rfl:=Ada pm srt wz;have tA:=At.init (N:=[]) t7 xA eA (λc m=>nomatch m) .nil;have pA:Ah H9 HA:=At.av (C:=[(pl,.ins a.Plan bB [])]) (t7.sub (.cons₂ _ (List.nil_sublist _))) xA (λw m=>by simpa using m) (λc m=>by rw [UB.mp m];rfl);have rF:∀ t∈dD,t.2.1∈hs/\t.2.2=10:=λt m=>tt t (cE.mem_iff.mp m);have bC:(dD.map (·.2.1)).Perm hs:=by have:=cE.map (λt:Pr=>t.2.1);rw [tn] at this;exact this
      have aI:dD.map (·.2)=(dD.map (·.2.1)).map λh=>(h,(10:Int)):=by rw [Uo];refine WV λt m=>?_;show t.2=(t.2.1,10);rw [<- (rF t m).2]
      walk_at"";intro h fY nh rG nhd;have rH:(upd HA fY (.own h)) h=none:=by rw [Ap (Uj nhd)];exact nh
      have tB:=(tA.new (u:=.own h) rG).new (u:=.ins a.ae fY []) rH;have sB:Ag HA (upd (upd HA fY (.own h)) h (.ins a.ae fY [])):=((Ag.refl HA).upd rG).upd rH;generalize upd (upd HA fY (.own h)) h (.ins a.ae fY [])=HB at tB sB ⊢;have rJ:Ah H8 HB:=(Ah.of s9).trans (pA.trans (.of sB));have rK:(dD.map (·.2.1)).Nodup:=bC.nodup_iff.mpr j5;have tl2:dD.length=40:=cE.length_eq.trans tl;refine ⟨h,fY,pl,bB,lt,gt,4,(B:Int),bF,dD,_,rfl,tB,by simp,pc,sB _ _ au,sB _ _ iW,λt m=>rJ.t (lay t (cE.mem_iff.mp m)),m9,rK,λt m=>?_,by omega,by omega,by omega,by omega,λHC X eh eS tC pC=>?_⟩
      .obtain ⟨m1,m2⟩:=rF t m;refine ⟨λc=>?_,by omega,by omega⟩;have:=(fm _ m1).1;rw [c] at this;exact absurd this.1 (by decide)
      rw [aI] at eS;obtain ⟨rL,rM⟩:=E8.bY (hs:=dD.map (·.2.1)) m9 zl' ⟨by omega,rg.2⟩ jc rK (λz m=>fm z (bC.mem_iff.mp m));have nB:∀ w,w≠TK ""->w ∉ hs->Ay (bY 4 bF B ((dD.map (·.2.1)).map λh=>(h,10))) w=none:=λw w0 m=>Aig w0 (λc=>m (bC.mem_iff.mp c));have nC:∀ p∈hs,Ay (bY 4 bF B ((dD.map (·.2.1)).map λh=>(h,10))) p=_:=λp m=>rM p (bC.mem_iff.mpr m);rw [<- eS] at rL nB nC;clear rM
      have zsX:X.S.lns.map (·.num)=bF:=by rw [eS];show (bF.map CG).map (·.num)=bF;rw [Uo];exact Wz bF
      have dnX:X.S.dn=[]:=by rw [eS];rfl
      have rN:Ah H8 HC:=rJ.trans pC;have p0C:Ah H HC:=(Ah.of s18).trans rN;have tD:HT K a HC X ((hh,.lst (hs.map V.str)) :: (ll,.lst (bF.map V.str)) :: (r,.lst ([v0,v1,v2,v3,v4,v5].map V.int)) :: C0):=tC.sub (.cons _ (.cons _ (.cons _ (.cons _ (.refl _)))));clear t7 s9 e9 rE tA tB sB xA eA au iW tC c8 c7 c3 L rA hh8 hR8 rp eZ rq lay hD
      simp only [Cj,UW,UX];walk_at"";refine ⟨trivial,?_⟩;walk_at"";intro gd rO;have tE:=tD.new (u:=.dK []) rO;have pE:Ah H (upd HC gd (.dK [])):=p0C.trans (.new rO);generalize upd HC gd (.dK [])=HE at tE pE ⊢;simp only [Cj,UW,UX];generalize hR:(hh,HO.lst (hs.map V.str)) :: (ll,HO.lst (bF.map V.str)) :: (r,HO.lst ([v0,v1,v2,v3,v4,v5].map V.int)) :: C0=R at tE;have mh:(hh,HO.lst (hs.map V.str))∈R:=by rw [<- hR];simp
      have ml:(ll,HO.lst (bF.map V.str))∈R:=by rw [<- hR];simp
      have mr:(r,HO.lst ([v0,v1,v2,v3,v4,v5].map V.int))∈R:=by rw [<- hR];simp
      have rC:∀{I:Hp},At I R->At I C0:=λt=>by rw [<- hR] at t;exact t.tl.tl.tl
      walk_at"";refine ⟨⟨_,.of (tE.t.rest.tl.get mh)⟩,Fp (K:=K) (a:=hh) (xs:=hs.map V.str) (λi σ I=>∃(x7:Option V)(es:List GE),σ=[some (.ref ps),some (.ref r),some (.int B),some (.ref ll),some (.ref hh),some (.ref h),some (.ref gd),x7,none,none,none,none,none,none,none]/\HT K a I X (CH gd es++R)/\es.map (·.pre)=hs.take i/\(∀ e∈es,∃ dx ha ja sa,e=CI e.pre dx ha ja sa)/\Ah H I) ⟨none,[],rfl,tE,rfl,(λe m=>nomatch m),pE⟩ (λi σ I _ ⟨_,_,_,t,_⟩=>.of (t.t.rest.right.get mh)) ?_ ?_⟩
      .intro i v σ I hv Y;obtain ⟨x7,es,rfl,t,ep,e0,p⟩:=Y;rw [T7] at hv;obtain ⟨z,hz,rfl⟩:=UU.mp hv;have il:i<40:=by have:=(Uy.mp hz).1;omega
       simp only [Cj,UW,UX];walk_at"";intro wd rP;have u0:=t.new (u:=.dK []) rP;have p0:Ah I (upd I wd (.dK [])):=.new rP;generalize upd I wd (.dK [])=G0 at u0 p0 ⊢;walk_at"";refine ⟨Aw,λb1 fh=>?_⟩;have u1:=u0.new (u:=.lst [.aa]) fh;have p1:Ah I (upd G0 b1 (.lst [.aa])):=p0.trans (.new fh);generalize upd G0 b1 (.lst [.aa])=G1 at u1 p1 ⊢;walk_at"";refine T1 (T1 (B5 b1 10 [.aa] rfl ⟨rfl,u1.t.rest.hd,by decide,by decide,(by rw [U6,TY];decide),λb2 dC=>?_⟩));rw [show (TX (10:Int).toNat [(.aa:V)]).flatten=TX 10 (.aa:V) from rfl];have u2:=u1.new (u:=.lst (TX 10 (.aa:V))) dC;have p2:Ah I (upd G1 b2 (.lst (TX 10 (.aa:V)))):=p1.trans (.new dC);generalize upd G1 b2 (.lst (TX 10 (.aa:V)))=G2 at u2 p2 ⊢;walk_at"";refine ⟨Aw,λb3 fj=>?_⟩;have u3:=u2.new (u:=.lst [.bl false]) fj;have p3:Ah I (upd G2 b3 (.lst [.bl false])):=p2.trans (.new fj);generalize upd G2 b3 (.lst [.bl false])=G3 at u3 p3 ⊢;walk_at"";refine T1 (T1 (B5 b3 10 [.bl false] rfl ⟨rfl,u3.t.rest.hd,by decide,by decide,(by rw [U6,TY];decide),λb4 rQ=>?_⟩));rw [show (TX (10:Int).toNat [(.bl false:V)]).flatten=TX 10 (.bl false:V) from rfl];have u4:=u3.new (u:=.lst (TX 10 (.bl false:V))) rQ;have p4:Ah I (upd G3 b4 (.lst (TX 10 (.bl false:V)))):=p3.trans (.new rQ);generalize upd G3 b4 (.lst (TX 10 (.bl false:V)))=G4 at u4 p4 ⊢;walk_at"";refine ⟨Aw,λb5 rR=>?_⟩;have u5:=u4.new (u:=.lst [.int 0]) rR;have p5:Ah I (upd G4 b5 (.lst [.int 0])):=p4.trans (.new rR);generalize upd G4 b5 (.lst [.int 0])=G5 at u5 p5 ⊢;walk_at"";refine T1 (T1 (B5 b5 10 [.int 0] rfl ⟨rfl,u5.t.rest.hd,by decide,by decide,(by rw [U6,TY];decide),λb6 rS=>?_⟩));rw [show (TX (10:Int).toNat [(.int 0:V)]).flatten=TX 10 (.int 0:V) from rfl];have u6:=u5.new (u:=.lst (TX 10 (.int 0:V))) rS;have p6:Ah I (upd G5 b6 (.lst (TX 10 (.int 0:V)))):=p5.trans (.new rS);generalize upd G5 b6 (.lst (TX 10 (.int 0:V)))=G6 at u6 p6 ⊢;walk_at"";refine  ⟨u6.t.rest.tl.tl.tl.tl.tl.tl.hd,(CI z wd b2 b4 b6).kv,rfl,(by show 3<=15;decide),?_⟩;rw [show Ge [] (CI z wd b2 b4 b6).kv=(CI z wd b2 b4 b6).kv from rfl];obtain ⟨u7,q7⟩:=HT.setIn (P':=[(b6,HO.lst (TX 10 (.int 0))),(b5,.lst [.int 0]),(b4,.lst (TX 10 (.bl false))),(b3,.lst [.bl false]),(b2,.lst (TX 10 .aa)),(b1,.lst [.aa])]) (r:=wd) (u':=.dK (CI z wd b2 b4 b6).kv) u6 rfl;have p7:=p6.trans q7;generalize upd G6 wd (.dK (CI z wd b2 b4 b6).kv)=G7 at u7 p7 q7 ⊢;have nE:G7 gd=some (.dK (aH es)):=u7.t.rest.tl.tl.tl.tl.tl.tl.tl.hd;have zn2:z ∉ es.map (·.pre):=λm=>by
        rw [ep] at m;obtain ⟨k,hk,e⟩:=Vd m;rw [Vt] at hk;have e2:hs[k]?=some z:=by rw [<- e,ZL];exact Ug (by omega)
        exact D1 j5 e2 hz (by omega) rfl
       have esl:es.length<=40:=by have:=congrArg WQ ep;rw [TU,Vt] at this;omega
       walk_at"";refine BL gd _ rfl (.inl ⟨_,.inr z,nE,rfl,(by unfold aH;rw [TU,TY];omega),rfl⟩) ?_;rw [show BD (aH es) (.inr z) (.ref wd)=aH (es++[CI z wd b2 b4 b6]) from Aif (e:=CI z wd b2 b4 b6) zn2];obtain ⟨u8,q8⟩:=HT.setIn (P':=[(b6,HO.lst (TX 10 (.int 0))),(b5,.lst [.int 0]),(b4,.lst (TX 10 (.bl false))),(b3,.lst [.bl false]),(b2,.lst (TX 10 .aa)),(b1,.lst [.aa]),(wd,.dK (CI z wd b2 b4 b6).kv)]) (r:=gd) (u':=.dK (aH (es++[CI z wd b2 b4 b6]))) (R:=es.flatMap B7++R) u7 rfl;refine CU _ (es++[CI z wd b2 b4 b6]) rfl ⟨?_,?_,?_,p.trans (p7.trans q8)⟩
       .exact u8.abu
       .rw [Um,ep,VB,hz];rfl
       .intro e m;rcases U1.mp m with m | m
        .exact e0 e m
        .rw [UB.mp m];exact ⟨_,_,_,_,rfl⟩
      .intro σ HF Y;obtain ⟨x7,es,rfl,t,ep,e0,pF⟩:=Y;rw [TU,VC] at ep;have g0:Gs X.S es:=Gs.begin ep j5 fm e0 nC nB;have nF:HF hh=some (.lst (hs.map V.str)):=t.t.rest.right.get mh;clear e0 nC nB tE pE tD rN
       walk_at"";refine ⟨⟨_,.of nF⟩,λD nD=>?_⟩;refine Jg (K:=K) (a:=hh) (xs:=hs.map V.str) (λi σ I=>∃ x,σ=[x]/\Ag HF I/\I D=some (.lst ((two (hs.take i)).map V.str))) ⟨none,rfl,(Ag.refl HF).upd nD,Ai⟩ (λi σ I _ ⟨_,_,sm,_⟩=>.of (sm _ _ nF)) ?_ ?_
       .intro i v σ I hv Y;obtain ⟨x,rfl,sm,hL⟩:=Y;rw [T7] at hv;obtain ⟨z,hz,rfl⟩:=UU.mp hv;have zl:=fm z (Ue hz);have et:two (hs.take (i+1))=two (hs.take i)++if z.length=2 then [z] else []:=by
         unfold two;rw [VB,hz,Yu];congr 1
         show List.filter _ [z]=_;rw [ZF,ZG];by_cases c:z.length=2
         .rw [if_pos c,if_pos (decide_eq_true c)]
         .rw [if_neg c,if_neg (by rw [decide_eq_false c];decide)]
        walk_at"";refine T9 (DW z rfl (by rw [TY];omega) ?_);walk_at"";by_cases c:z.length=2
        .rw [decide_eq_true (show V.int z.length=V.int 2 by rw [c];rfl)];refine BQ ?_;walk_at"";have ll2:(two (hs.take i)).length<=40:=UM (ZH _ _) (by rw [Vt];omega);refine ⟨_,hL,(by rw [TU,TY];omega),_,rfl,sm.bI nD,?_⟩;rw [Ai,et,if_pos c,Um];rfl
        .refine Dl (decide_eq_false (show ¬ V.int z.length=V.int 2 from λe=>c (by have:=V.int.inj e;omega))) ?_;refine DW _ rfl sm ?_;rw [et,if_neg c,V3];exact hL
       .intro σ HG Y;obtain ⟨x,rfl,sm,hL⟩:=Y;rw [TU,VC] at hL;have l30:(two hs).length=30:=Aic ph;have tG:=t.same sm;have hRG:HG r=some (.lst ([v0,v1,v2,v3,v4,v5].map V.int)):=tG.t.rest.right.get mr;obtain ⟨hd,ah,nH,j6⟩:∃ hd:Str,BA ((two hs).map V.str) (v3 % 30)=some (.str hd)/\hd∈hs/\hd.length=2:=by
         obtain ⟨v,e1,e2⟩:=Ga (xs:=(two hs).map V.str) (show 0<=v3 % 30 by omega) (by rw [TU,l30];omega);rw [T7] at e2;obtain ⟨z,hz,rfl⟩:=UU.mp e2;have m:=W0.mp (Ue hz);exact ⟨z,e1,m.1,of_decide_eq_true m.2⟩
        obtain ⟨J,L,rfl⟩:=Aih j6;have dg:=(fm _ nH).2;have d0:48<=J/\J<=57:=dg J (by simp);have rT:(⟨#[J]⟩:Str)∈hs:=ph.mem_iff.mpr (Aid v2 d0);walk_at"";refine T9 (BK (.of hL) ah ?_);simp only [Cj,UW,UX];walk_at"";have pG:Ah H HG:=pF.trans (.of sm);have hsq:=kS HG (rC tG.t.rest.right) pG;refine Fu ps ns 1 _ _ rfl ⟨hsq,by decide,by decide,hn,by decide,by decide,by decide,by decide,λr2 fo G1 s1' nr2 rU abB adU=>?_⟩;have adV:fo.length=40:=abB;have rV:HT K a G1 X (CH gd es++((r2,.lst (fo.map V.int)) :: R)):=(tG.add s1' nr2 rU).perm Yv;have w0:W8 K a G1 X gd es ((r2,.lst (fo.map V.int)) :: R):=⟨rV,rL,g0⟩;walk_at"";refine ⟨⟨_,.of rU⟩,?_⟩;have rW:(ll,HO.lst (bF.map V.str))∈(r2,HO.lst (fo.map V.int)) :: R:=Uu _ ml;have rX:(r2,HO.lst (fo.map V.int))∈(r2,HO.lst (fo.map V.int)) :: R:=UC;generalize (r2,HO.lst (fo.map V.int)) :: R=R2 at w0 rW rX;clear rV tG hRG hL nF t
        refine Fp (K:=K) (a:=r2) (xs:=fo.map V.int) (λi σ H2=>∃(O:HX)(aI:List GE)(x7 x9 nI nJ nK nL nM:Option V),σ=[some (.ref ps),some (.ref r),some (.int B),some (.ref ll),some (.ref hh),some (.ref h),some (.ref gd),x7,some (.str ⟨#[J,L]⟩),x9,nI,nJ,nK,nL,nM]/\W8 K a H2 O gd aI R2/\aI.map (·.pre)=hs/\O.h=h/\O.S.lns.map (·.num)=bF/\O.S.dn.length<=30 * i) ⟨X,es,x7,none,none,none,none,none,none,rfl,w0,ep,eh,zsX,by rw [dnX];exact UH _⟩ (λi σ H2 _ ⟨_,_,_,_,_,_,_,_,_,_,w,_⟩=>.of (w.t.t.rest.right.get rX)) ?_ ?_
        .intro i v σ H2 hv Y;obtain ⟨O,aI,x7,x9,nI,nJ,nK,nL,nM,rfl,w2,dB,cf,j7,qU⟩:=Y;rw [T7] at hv;obtain ⟨d,hd,rfl⟩:=UU.mp hv;have il:i<40:=by have:=(Uy.mp hd).1;omega
         have m0:(0:Int)<B:=by omega
         have hV:H2 ll=some (.lst (bF.map V.str)):=w2.t.t.rest.right.get rW;obtain ⟨k1,z1,a1,rY⟩:∃(k:Nat)(z:Str),BA (bF.map V.str) (d % 13 % B)=some (.str z)/\bF[k]?=some z:=by have i0:=WX (d % 13) (show (B:Int)≠0 by omega);have i1:=WY (d % 13) m0;obtain ⟨v,e1,e2⟩:=Ga (xs:=bF.map V.str) i0 (by rw [TU];omega);rw [T7] at e2;obtain ⟨z,hz,rfl⟩:=UU.mp e2;exact ⟨_,z,e1,hz⟩
         obtain ⟨ln,gX,gY⟩:∃ ln,O.S.lns[k1]?=some ln/\ln.num=z1:=by rw [<- j7,T7] at rY;obtain ⟨ln,h1,h2⟩:=UU.mp rY;exact ⟨ln,h1,h2⟩
         have zk:Ok z1:=by rw [<- gY];exact (w2.e.wf.g.tx _ (E9 gX)).1
         have bj:∀(i':Nat)(x:LX),O.lines[i']?=some x->x.l.num=z1->x.l=ln:=λi' x h1 h2=>by
          have h3:O.S.lns[i']?=some x.l:=by show (O.lines.map (·.l))[i']?=_;rw [T7,h1];rfl
          exact (w2.e.wf.g.one h3 gX (h2.trans gY.symm)).2
         have there:¬ z1 ∉ O.lines.map (·.l.num):=λn=>n (by
          have:=E9 gX;rw [gY] at this;have e:O.S.lns.map (·.num)=O.lines.map (·.l.num):=by show (O.lines.map (·.l)).map (·.num)=_;rw [Uo];rfl
          rw [<- e];exact this)
         simp only [Cj,UW,UX];walk_at"";refine T9 (AX ll _ (d % 13 % B) _ rfl rfl (.of hV) a1 ?_);simp only [Cj,UW,UX];walk_at"";rw [<- cf];refine A4 O.h O.dx _ rfl w2.t.t.aB rfl ?_;walk_at"";refine Cv O _ z1 rfl w2.t zk (λi' x hx ex=>?_) (λn=>absurd n there);rw [show (λx:LX=>V.str x.l.st) x=V.str ln.st from by show V.str x.l.st=_;rw [bj i' x hx ex]];simp only [Cj,UW,UX];walk_at"";refine ⟨Kt (by omega),?_⟩;obtain ⟨gl,egl,lgl,dgl⟩:∃ gl,TK (toString (10+d / 13 % 90))=gl/\gl.length=2/\Ca gl:=by
          refine Dm _ rfl ?_;have hn:(((10+d / 13 % 90).toNat:Nat):Int)=10+d / 13 % 90:=by omega
          have:=GD (10+d / 13 % 90).toNat (by omega);rw [if_neg (by omega),hn] at this;exact ⟨this.1,this.2.1⟩
         rw [egl];walk_at"";refine ⟨Aw,λb nb=>?_⟩;have s3:=(Ag.refl H2).upd (o:=.lst [.str ⟨#[J,L]⟩,.str ⟨#[J,L]⟩,.str ⟨#[J,L]⟩,.str gl]) nb;have e3:(upd H2 b (.lst [.str ⟨#[J,L]⟩,.str ⟨#[J,L]⟩,.str ⟨#[J,L]⟩,.str gl])) b=some (.lst [.str ⟨#[J,L]⟩,.str ⟨#[J,L]⟩,.str ⟨#[J,L]⟩,.str gl]):=Ai;generalize upd H2 b (.lst [.str ⟨#[J,L]⟩,.str ⟨#[J,L]⟩,.str ⟨#[J,L]⟩,.str gl])=H3 at s3 e3 ⊢;have w3:W8 K a H3 O gd aI R2:=⟨w2.t.same s3,w2.e,w2.g⟩;obtain ⟨go,ago,lgo,dgo⟩:∃ go,BA [V.str ⟨#[J,L]⟩,.str ⟨#[J,L]⟩,.str ⟨#[J,L]⟩,.str gl] (d / 1170 % 4)=some (.str go)/\go.length=2/\Ca go:=by
          rcases (show d / 1170 % 4=0\/d / 1170 % 4=1\/d / 1170 % 4=2\/d / 1170 % 4=3 by omega) with e | e | e | e<;>rw [e]
          .exact ⟨_,rfl,j6,dg⟩
          .exact ⟨_,rfl,j6,dg⟩
          .exact ⟨_,rfl,j6,dg⟩
          .exact ⟨_,rfl,lgl,dgl⟩
         walk_at"";refine T9 (BK (.of e3) ago ?_);simp only [Cj,UW,UX];clear e3 hV w2 nb
         walk_at"";rename_i C hC
         have rZ:∀{ba:List GE}{z:Str},ba.map (·.pre)=hs->z∈hs->∃(j:Nat)(e:GE),ba[j]?=some e/\e.pre=z:=λ{ba z} h1 h2=>by
          rw [<- h1] at h2;obtain ⟨e,me,rfl⟩:=Ua.mp h2;obtain ⟨j,hj,ej⟩:=Vd me;exact ⟨j,e,by rw [Ug hj,ej],rfl⟩
         have rest:∀(H4:Hp)(X4:HX)(ba:List GE)(nN nO:Option V),W8 K a H4 X4 gd ba R2->ba.map (·.pre)=hs->X4.h=O.h->X4.S.lns.map (·.num)=bF->X4.S.dn.length<=30 * (i+1)->C [some (.ref ps),some (.ref r),some (.int B),some (.ref ll),some (.ref hh),some (.ref O.h),some (.ref gd),x7,some (.str ⟨#[J,L]⟩),some (.int d),some (.str z1),some (.str ln.st),some (.str go),nN,nO] H4:=by
          intro H4 X4 ba nN nO w4 i8 d4 abC dn4;refine Lk.use hC ?_;rw [<- d4];clear hC w3 s3
          walk_at"";refine T1 (T1 (Cv _ _ _ rfl rfl Aw (show BA [J,L] 0=some J from rfl) ?_));walk_at"";refine ⟨Aw,λbb nP=>?_⟩;have s5:=(Ag.refl H4).upd (o:=.lst [.str ⟨#[J,L]⟩,.str ⟨#[J]⟩]) nP;have e5:(upd H4 bb (.lst [.str ⟨#[J,L]⟩,.str ⟨#[J]⟩])) bb=some (.lst [.str ⟨#[J,L]⟩,.str ⟨#[J]⟩]):=Ai;generalize upd H4 bb (.lst [.str ⟨#[J,L]⟩,.str ⟨#[J]⟩])=H5 at s5 e5 ⊢;have w5:W8 K a H5 X4 gd ba R2:=⟨w4.t.same s5,w4.e,w4.g⟩;clear w4 s5
          walk_at"";refine ⟨⟨_,.of e5⟩,Fp (K:=K) (a:=bb) (xs:=[.str ⟨#[J,L]⟩,.str ⟨#[J]⟩]) (λm σ H6=>∃(x7:Option V),σ=[some (.ref ps),some (.ref r),some (.int B),some (.ref ll),some (.ref hh),some (.ref X4.h),some (.ref gd),x7,some (.str ⟨#[J,L]⟩),some (.int d),some (.str z1),some (.str ln.st),some (.str go),nN,nO]/\Ag H5 H6) ⟨x7,rfl,.refl H5⟩ (λm σ H6 _ ⟨_,_,sm⟩=>.of (sm _ _ e5)) ?_ ?_⟩
          .intro m v σ H6 hv Y;obtain ⟨x7,rfl,sm⟩:=Y;obtain ⟨pz,rfl,mpz⟩:∃ pz,v=.str pz/\pz∈hs:=by
            have:=Ue hv;simp only [T8,UT,or_false] at this;rcases this with rfl | rfl
            .exact ⟨_,rfl,nH⟩
            .exact ⟨_,rfl,rT⟩
           obtain ⟨j,e,bT,fe⟩:=rZ i8 mpz;have me:=Ue bT;obtain ⟨oe,ne,pk⟩:=w5.g.ok e me;have c9:=w5.g.rk e me;have pap:=w5.g.pap me;have vd:Bj (aH ba) (.inr e.pre)=some (.ref e.dx):=Kk w5.g.nd bT;rw [fe] at pk c9 pap vd ne;have t6:=w5.t.same sm;have hs':∀ v∈De e,∃ z,v=.str z/\C8 z:=Ta oe;have ly:Ci 1 (.tuple ((De e).map Dz)):=.tup (n:=0) (λd m=>by
            obtain ⟨v,mv,rfl⟩:=Ua.mp m;obtain ⟨z,rfl,az⟩:=hs' v mv;exact .str az)
           have iP:∀{I:Hp}{t:Addr},I t=some (.tup (De e))->Is K I (.ref t) (.tuple ((De e).map Dz)):=λh=>.tup (.of h) (J2 λv m=>by obtain ⟨z,h,_⟩:=hs' v m;exact ⟨z,h⟩);simp only [Cj,UW,UX];walk_at"";refine A4 X4.h X4.dx _ rfl t6.t.aB rfl ?_;walk_at"";dsimp only [BJ];refine Cv X4 _ pz rfl t6 pk w5.e.wf.g.hs ?_;rw [c9];intro H7 tp s7 e7;rw [pap] at e7;have t7:At H7 (CH gd ba++AY a X4 ([]++R2)):=HT.out (P:=[]) (t6.same s7);have nE:H7 gd=some (.dK (aH ba)):=t7.hd;walk_at"";refine AX gd _ (.inr pz) _ rfl rfl (.of nE) vd ?_;walk_at"";dsimp only [BJ];refine C6 e _ rfl (Ko t7 bT) oe (λH8 tq s8 e8=>?_);walk_at"";refine T1 ⟨_,_,iP (s8 _ _ e7),iP e8,ly.c,ly.c,(by have:=ly.k;omega),?_⟩;rw [VX _ ly.c];have t8:=t6.same (s7.trans s8);walk_at"";refine A4 X4.h X4.dx _ rfl t8.t.aB rfl ?_;walk_at"";dsimp only [BJ];refine Dv t8 pk ?_;rw [c9];intro l9 n9;have s9:=(Ag.refl H8).upd (o:=.lst (e.t.map V.int)) n9;have e9:(upd H8 l9 (.lst (e.t.map V.int))) l9=some (.lst (e.t.map V.int)):=Ai;generalize upd H8 l9 (.lst (e.t.map V.int))=H9 at s9 e9 ⊢;have t9:=t7.same (s8.trans s9);have r6:=Ko t9 bT;have j8:Ci 1 (.list (e.t.map PyData.int)):=.lst (n:=0) (λd m=>by obtain ⟨y,_,rfl⟩:=Ua.mp m;exact .int _);walk_at"";refine AX gd _ (.inr pz) _ rfl rfl (.of t9.hd) vd ?_;walk_at"";refine AX e.dx _ (.inr "shares") _ rfl rfl (.of (Et r6)) SE ?_;refine T1 ⟨_,_,.lst (.of e9) (Np e.t),.lst (.of (Ahs r6)) (Np e.t),j8.c,j8.c,(by have:=j8.k;omega),?_⟩;rw [VX _ j8.c];walk_at"";exact sm.trans (s7.trans (s8.trans s9))
          .intro σ H6 Y;obtain ⟨x7,rfl,sm⟩:=Y;rw [d4.trans cf];exact ⟨X4,ba,_,_,_,_,_,_,_,rfl,⟨w5.t.same sm,w5.e,w5.g⟩,i8,d4.trans cf,abC,dn4⟩
         clear hC
         by_cases cj:d / 7 % 9=0
         .rw [decide_eq_true (show (λi j=>V.int (i % j)) (d / 7) 9=V.int 0 by show V.int (d / 7 % 9)=_;rw [cj])];refine BQ ?_;walk_at"";refine T1 (T1 (Cv _ _ _ rfl rfl Aw (show BA [J,L] 0=some J from rfl) ?_));walk_at"";refine ⟨Aw,λbb nP=>?_⟩;have s5:=(Ag.refl H3).upd (o:=.lst [.str ⟨#[J,L]⟩,.str ⟨#[J]⟩]) nP;have e5:(upd H3 bb (.lst [.str ⟨#[J,L]⟩,.str ⟨#[J]⟩])) bb=some (.lst [.str ⟨#[J,L]⟩,.str ⟨#[J]⟩]):=Ai;generalize upd H3 bb (.lst [.str ⟨#[J,L]⟩,.str ⟨#[J]⟩])=H5 at s5 e5 ⊢;obtain ⟨wh,awh,mwh⟩:∃ wh,BA [V.str ⟨#[J,L]⟩,.str ⟨#[J]⟩] (d / 63 % 2)=some (.str wh)/\wh∈hs:=by
           rcases (show d / 63 % 2=0\/d / 63 % 2=1 by omega) with e | e<;>rw [e]
           .exact ⟨_,rfl,nH⟩
           .exact ⟨_,rfl,rT⟩
          obtain ⟨j,e,bT,fe⟩:=rZ dB mwh;have me:=Ue bT;obtain ⟨oe,ne,pk⟩:=w3.g.ok e me;have c9:=w3.g.rk e me;have vd:Bj (aH aI) (.inr e.pre)=some (.ref e.dx):=Kk w3.g.nd bT;rw [fe] at pk c9 vd ne;obtain ⟨k,ek⟩:∃ k:Nat,(k:Int)=d / 126 % 10:=⟨(d / 126 % 10).toNat,by omega⟩;have mQ:k<10:=by omega
          walk_at"";refine T9 (BK (.of e5) awh ?_);simp only [Cj,UW,UX];walk_at"";have t5:=w3.t.same s5;have o5:At H5 (CH gd aI++AY a O ([]++R2)):=HT.out (P:=[]) t5;have te:=Ko o5 bT;refine AX gd _ (.inr wh) _ rfl rfl (.of o5.hd) vd ?_;walk_at"";refine AX e.dx _ (.inr "stuck") _ rfl rfl (.of (Et te)) MZ ?_;walk_at"";refine AX e.ja _ (k:Int) ((k:Int).toNat) rfl (by show V.int (d / 126 % 10)=_;rw [ek]) (Ki te) (DZ (n:=(e.j.map V.bl).length) (VW k) (by rw [TU,oe.lj];omega)) ?_;obtain ⟨bv,sf⟩:∃ bv:Bool,decide ((λi j=>V.int (i % j)) (d / 1260) 2=V.int 0)=bv:=⟨_,rfl⟩;rw [sf];have abD:bv=decide (d / 1260 % 2=0):=by
           rw [<- sf];by_cases c:d / 1260 % 2=0
           .rw [decide_eq_true c,decide_eq_true (show (λi j=>V.int (i % j)) (d / 1260) 2=V.int 0 by show V.int (d / 1260 % 2)=_;rw [c])]
           .rw [decide_eq_false c,decide_eq_false (show ¬ (λi j=>V.int (i % j)) (d / 1260) 2=V.int 0 from λe=>c (V.int.inj e))]
          have ej:(e.j.map V.bl).set (k:Int).toNat (.bl bv)=(e.j.set k bv).map V.bl:=by rw [Vo,Vb]
          have t6:=At.set (P:=[(e.dx,HO.dK e.kv),(e.ha,.lst e.h)]) (o':=.lst ((e.j.map V.bl).set (k:Int).toNat (.bl bv))) te;have p6:Ah H5 (upd H5 e.ja (.lst ((e.j.map V.bl).set (k:Int).toNat (.bl bv)))):=.chg (Ki te) rfl;generalize upd H5 e.ja (.lst ((e.j.map V.bl).set (k:Int).toNat (.bl bv)))=H6 at t6 p6 ⊢;rw [ej] at t6;have i6:HT K a H6 O ([]++(CH gd (aI.set j (GF e k bv))++R2)):=t5.i5 p6 (S8 (e':=GF e k bv) t6 bT rfl rfl);have abE:(aI.set j (GF e k bv)).map (·.pre)=aI.map (·.pre):=Kn bT rfl;walk_at"";refine A4 O.h O.dx _ rfl i6.t.aB rfl ?_;walk_at"";refine ⟨Aw,λb7 nb7=>?_⟩;have s7:=(Ag.refl H6).upd (o:=.lst [.str "stick",.str "mend"]) nb7;have e7:(upd H6 b7 (.lst [.str "stick",.str "mend"])) b7=some (.lst [.str "stick",.str "mend"]):=Ai;generalize upd H6 b7 (.lst [.str "stick",.str "mend"])=H7 at s7 e7 ⊢;have aw:BA [V.str "stick",V.str "mend"] (d / 1260 % 2)=some (.str (Ep bv)):=by rw [abD];rcases (show d / 1260 % 2=0\/d / 1260 % 2=1 by omega) with e | e<;>rw [e]<;>rfl
          walk_at"";refine T9 (BK (.of e7) aw ?_);walk_at"";refine ⟨Aw,λdd jd=>?_⟩;have s8:=(Ag.refl H7).upd (o:=.tup [.str (Ep bv),.str wh,.int (d / 126 % 10)]) jd;have e8:(upd H7 dd (.tup [.str (Ep bv),.str wh,.int (d / 126 % 10)])) dd=some (.tup (Bf.aZ bv wh (k:Int)).vals):=by rw [ek];exact Ai
          have ec:(upd H7 dd (.tup [.str (Ep bv),.str wh,(λi j=>V.int (i % j)) (d / 126) 10]))=upd H7 dd (.tup [.str (Ep bv),.str wh,.int (d / 126 % 10)]):=rfl;generalize upd H7 dd (.tup [.str (Ep bv),.str wh,.int (d / 126 % 10)])=H8 at s8 e8 ec;rw [ec];obtain ⟨e9,tn9,si,j9,sj,sr⟩:=w3.e.aZ (z:=wh) (k:=(k:Int)) (b:=bv) ne c9 ⟨VW k,by show (k:Int)<(e.h.length:Int);rw [oe.lh];omega⟩ dd;dsimp only [BJ];refine Im (d:=.aZ bv wh (k:Int)) ((i6.same s7).same s8) w3.e.wf pk e8 e9 (by rw [(FR (S:=O.S) (b:=bv) (z:=wh) (k:=(k:Int))).2.2.2];omega) λcM X9 p xs t9 iO je q9 jO=>?_;rw [tn9] at je jO;have je:X9.S=aA (Be O.S bv wh k) dd:=je;rw [<- je] at si j9 sj sr;have mV:xs=[]:=uW jO.len;subst mV;have hp9:cM p=some (.lst []):=t9.t.rest.hd;have g9:Gs X9.S (aI.set j (GF e k bv)):=w3.g.aZ bT (by rw [fe];exact sr) (λw hw=>by rw [je];exact Aie ne hw);walk_at"";refine ⟨Aw,λb9 nb9=>?_⟩;have sB:=(Ag.refl cM).upd (o:=.lst []) nb9;have eB:(upd cM b9 (.lst [])) b9=some (.lst []):=Ai;generalize upd cM b9 (.lst [])=dS at sB eB ⊢;have ly:Ci 1 (.list []):=.lst (n:=0) (λd m=>nomatch m);walk_at"";refine T1 ⟨_,_,.lst (.of (sB _ _ hp9)) .nil,.lst (.of eB) .nil,ly.c,ly.c,(by have:=ly.k;omega),?_⟩;rw [VX _ ly.c];walk_at"";exact rest dS X9 _ _ _ ⟨(t9.same sB).sub (.cons _ (.refl _)),si,g9⟩ (abE.trans dB) iO (by rw [sj];exact j7) (by rw [j9,UK,U6];omega)
         .refine Dl (decide_eq_false (show ¬ (λi j=>V.int (i % j)) (d / 7) 9=V.int 0 from λe=>cj (V.int.inj e))) ?_;walk_at"";by_cases cr:ln.st="rests"
          .rw [decide_eq_true (show V.str ln.st=V.str "rests" by rw [cr])];refine BQ ?_;walk_at"";refine A4 O.h O.dx _ rfl w3.t.t.aB rfl ?_;walk_at"";refine ⟨Aw,λdd jd=>?_⟩;have s5:=(Ag.refl H3).upd (o:=.tup [.str "lift",.str z1]) jd;have e5:(upd H3 dd (.tup [.str "lift",.str z1])) dd=some (.tup (Bf.line .lift z1).vals):=Ai;generalize upd H3 dd (.tup [.str "lift",.str z1])=H5 at s5 e5 ⊢;dsimp only [BJ];obtain ⟨e6,m6,d6,S6,jV,su,i4,gU,sv,l6⟩:=w3.e.lift gX cr dd;rw [gY] at e6 jV;refine Im (d:=.line .lift z1) (w3.t.same s5) w3.e.wf zk e5 e6 (by show O.S.dn.length<_;omega) λH7 X7 p xs t7 nQ ka q7 sy=>?_;rw [jV] at ka sy;have ka:X7.S=S6:=ka;rw [<- ka] at su i4 gU sv l6;obtain ⟨b1,b2,rfl,i1,i2⟩:∃ L c2,xs=[L,c2]/\Is K H7 (.ref L) (.tuple [.str "waits",.str z1])/\Is K H7 (.ref c2) (.tuple [.str "tone",.str z1,.int m6,.int d6]):=by
            have td:=sy.i;cases xs with
            | nil=>cases td
            | cons L r=>cases td with
             | cons h1 td=>cases r with
              | nil=>cases td
              | cons c2 r=>cases td with
               | cons h2 td=>cases r with
                | nil=>exact ⟨L,c2,rfl,h1,h2⟩
                | cons _ _=>cases td
           have hp7:H7 p=some (.lst [.ref b1,.ref b2]):=t7.t.rest.hd;walk_at"";refine ⟨Aw,λb3 fj=>?_⟩;have s8:=(Ag.refl H7).upd (o:=.tup [.str "waits",.str z1]) fj;have e8:(upd H7 b3 (.tup [.str "waits",.str z1])) b3=some (.tup [.str "waits",.str z1]):=Ai;generalize upd H7 b3 (.tup [.str "waits",.str z1])=H8 at s8 e8 ⊢;have ly:Ci 1 (.tuple [.str "waits",.str z1]):=.tup (n:=0) (DM (.str asc) (D8 (.str zk.1)));walk_at"";refine T1 ⟨_,_,Is.av _ rfl i1 (.of s8),.tup (.of e8) (.cons (.str _) (.cons (.str _) .nil)),ly.c,ly.c,(by have:=ly.k;omega),?_⟩;rw [VX _ ly.c];walk_at"";have w8:W8 K a H8 X7 gd aI R2:=⟨(t7.same s8).sub (.cons _ (.refl _)),su,w3.g.aj sv⟩;have hy:X7.S.lns[k1]?=some { AS ln "dials" with held:=[(TK "",m6)] }:=by rw [l6];exact Bd gX
           rw [<- nQ];dsimp only [BJ];refine ⟨X7,R2,gd,aI,k1,{ AS ln "dials" with held:=[(TK "",m6)] },go,by show _=[V.ref X7.h,.ref gd,.str ln.num,.str go];rw [gY];rfl,w8,hy,rfl,rfl,rfl,lgo,dgo,by rw [gU,UK,U6];omega,λH9 X9 es9 w9 abF iO sh9 j9 p9=>?_⟩;walk_at"";rw [nQ];exact rest H9 X9 es9 _ _ w9 (abF.trans dB) (iO.trans nQ) (by rw [sh9.num,i4.num];exact j7) (by rw [gU,UK,U6] at j9;omega)
          .refine Dl (decide_eq_false (show ¬ V.str ln.st=V.str "rests" from λe=>cr (V.str.inj e))) ?_;have o3:At H3 (CH gd aI++AY a O ([]++R2)):=HT.out (P:=[]) w3.t;walk_at"";dsimp only [BJ];refine AX gd aI _ z1 rfl o3 w3.g.nd (λe m=>(w3.g.ok e m).1) (λH5 nR t5 f5 p5=>?_);have sD:HT K a H5 O ([]++(CH gd nR++R2)):=w3.t.i5 p5 t5;walk_at"";refine A4 O.h O.dx _ rfl sD.t.aB rfl ?_;walk_at"";refine ⟨Aw,λdd jd=>?_⟩;have s6:=(Ag.refl H5).upd (o:=.tup [.str "hang",.str z1]) jd;have e6:(upd H5 dd (.tup [.str "hang",.str z1])) dd=some (.tup (Bf.line .bq z1).vals):=Ai;generalize upd H5 dd (.tup [.str "hang",.str z1])=H6 at s6 e6 ⊢;dsimp only [BJ];obtain ⟨S7,e7,tn7,sE,nS,sH,nT⟩:=w3.e.bq gX cr dd;rw [gY] at e7 nT;refine Im (d:=.line .bq z1) (sD.same s6) w3.e.wf zk e6 e7 (by rw [sH];omega) λH8 X8 p xs t8 eh8 jg q8 sI=>?_;rw [tn7] at jg sI;have jg:X8.S=aA S7 dd:=jg;rw [<- jg] at sE nS nT;obtain ⟨b1,rfl,i1⟩:∃ L,xs=[L]/\Is K H8 (.ref L) (.tuple [.str "rests",.str z1]):=by
            have td:=sI.i;cases xs with
            | nil=>cases td
            | cons L r=>cases td with
             | cons h1 td=>cases r with
              | nil=>exact ⟨L,rfl,h1⟩
              | cons _ _=>cases td
           have hp8:H8 p=some (.lst [.ref b1]):=t8.t.rest.hd;have g8:Gs X8.S nR:=w3.g.freed f5 nT (λw=>S5 nS);walk_at"";refine ⟨Aw,λb2 dC=>?_⟩;have s9:=(Ag.refl H8).upd (o:=.tup [.str "rests",.str z1]) dC;have e9:(upd H8 b2 (.tup [.str "rests",.str z1])) b2=some (.tup [.str "rests",.str z1]):=Ai;generalize upd H8 b2 (.tup [.str "rests",.str z1])=H9 at s9 e9 ⊢;walk_at"";refine ⟨Aw,λb3 fj=>?_⟩;have sA:=(Ag.refl H9).upd (o:=.lst [.ref b2]) fj;have eA:(upd H9 b3 (.lst [.ref b2])) b3=some (.lst [.ref b2]):=Ai;generalize upd H9 b3 (.lst [.ref b2])=cM at sA eA ⊢;have nU:=s9.trans sA;have ly:Ci 2 (.list [.tuple [.str "rests",.str z1]]):=.lst (D8 (.tup (n:=0) (DM (.str asc) (D8 (.str zk.1)))));walk_at"";refine T1 ⟨_,_,.lst (.of (nU _ _ hp8)) (.cons (Is.av _ rfl i1 (.of nU)) .nil),.lst (.of eA) (.cons (.tup (.of (sA _ _ e9)) (.cons (.str _) (.cons (.str _) .nil))) .nil),ly.c,ly.c,(by have:=ly.k;omega),?_⟩;rw [VX _ ly.c];walk_at"";exact rest cM X8 nR _ _ ⟨(t8.same nU).sub (.cons _ (.refl _)),sE,g8⟩ (f5.pre.trans dB) eh8 (by rw [nS.num];exact j7) (by rw [jg];show (S7.dn++[V.ref dd]).length<=_;rw [UK,sH,U6];omega)
        .intro σ H2 Y;obtain ⟨O,aI,x7,x9,nI,nJ,nK,nL,nM,rfl,_⟩:=Y;walk_at"";exact q _
open PySem PySem.Spec PyProof.Rows L2
section
variable {K:TH}{mg:Str->Option Value}{h:Heap}{CX:B4}{k:Nat}{x q:Str}{st:Stmt}{ps:List Str}{sp:Sp}{C:Addr}{A:Ak}
def Nz (K:TH)(x q:Str)(st:Stmt)(R:Addr->Prop):Prop:=∃(f:Addr)(oc:Value)(od:Option Addr)(sl:Array (Option Value))(kV dc pm:Value)(an:Option Addr)(cd ct:Value),R f/\K.lookup f=some ⟨oc,od,.func (Vm x q (Du st) (C4 st) (Ab st) .none kV dc pm an cd ct),sl⟩/\V4 K cd q=true/\U5 K (.ref f)=true
structure bH (K:TH)(x q:Str)(st:Stmt):Prop where
 ex:Nz K x q st λf=>Us K Ui x=some (some (.ref f))
structure aP (K:TH)(C:Addr)(x q:Str)(st:Stmt):Prop where
 ex:Nz K x q st λf=>Uh K (.ref C) x=some (some (.ref f))/\Wg K (.ref f)=true
structure cB (K:TH)(A:Ak)(x q:Str)(st:Stmt):Prop where
 ex:Nz K x q st λf=>Uh K (.ref A.aM) x=some (some (.ref f))/\Uh K (.ref A.aK) x=some (some (.ref f))/\Wg K (.ref f)=true
abbrev Kz (x q:Str)(st:Stmt)(ps:List Str):Prop:=∀(kV doc pm:Value)(an:Option Addr)(ak ct:Value)(us:List Value),us.length=ps.length->bindArgs (Vm x q (Du st) (C4 st) (Ab st) .none kV doc pm an ak ct) ⟨us,[]⟩=pure (ps.zip us)
theorem bH.fn (F:bH K x q st)(P:TV)(w:TM)(base:Heap)(X:K.In h)(G:h.Ns Ui mg)(o:∀ f B,AL K x q st f B->AE P w K mg base CX k f B ps sp)(b:Kz x q st ps):BX P w K mg base CX k x ps sp:=by obtain ⟨f,D,H,I,kV,J,L,O,V,ct,a,l,c,y⟩:=F.ex;have F:=F5 l c y;exact ⟨f,_,UP X G a,y,F.binds b,o f _ F⟩
theorem aP.me (F:aP K C x q st)(P:TV)(w:TM)(mg:Str->Option Value)(base:Heap)(o:∀ f B,AL K x q st f B->AE P w K mg base CX k f B ps sp)(b:Kz x q st ps):AO P w K mg base CX k C x ps sp:=by obtain ⟨f,D,H,I,kV,J,L,O,V,ct,⟨a,i⟩,l,c,y⟩:=F.ex;have F:=F5 l c y;exact ⟨f,_,⟨a,i,y⟩,F.binds b,o f _ F⟩
theorem aP.kb {z:Str}(F:aP K C "__init__" q st)(P:TV)(w:TM)(mg:Str->Option Value)(base:Heap)(g:mg z=some (.ref C))(m:Wh K C=true)(n:U5 K (.ref C)=true)(o:∀ f B,AL K "__init__" q st f B->AE P w K mg base CX k f B ps sp)(b:Kz "__init__" q st ps):EM P w K mg base CX k C z ps sp:=by obtain ⟨f,D,H,I,kV,J,L,O,V,ct,⟨a,i⟩,l,c,y⟩:=F.ex;have F:=F5 l c y;exact ⟨f,_,g,⟨m,a,i,n⟩,F.binds b,o f _ F⟩
theorem cB.me (F:cB K A x q st)(P:TV)(w:TM)(mg:Str->Option Value)(base:Heap)(o:∀ f B,AL K x q st f B->AE P w K mg base CX k f B ps sp)(b:Kz x q st ps):∀ C∈A.bx,AO P w K mg base CX k C x ps sp:=by
 obtain ⟨f,I,J,L,kV,O,V,Y,cd,ct,⟨a,D,i⟩,l,c,y⟩:=F.ex;have F:=F5 l c y;intro C H;rcases T8.mp H with e | e
 .subst e;exact ⟨f,_,⟨a,i,y⟩,F.binds b,o f _ F⟩
 .have e:=UB.mp e;subst e;exact ⟨f,_,⟨D,i,y⟩,F.binds b,o f _ F⟩
section
variable {f:Addr}{oc:Value}{od:Option Addr}{sl:Array (Option Value)}{kV dc pm:Value}{an:Option Addr}{cd ct:Value}
theorem bH.of (a:Us K Ui x=some (some (.ref f)))(l:K.lookup f=some ⟨oc,od,.func (Vm x q (Du st) (C4 st) (Ab st) .none kV dc pm an cd ct),sl⟩)(c:V4 K cd q=true)(k:U5 K (.ref f)=true):bH K x q st:=⟨⟨_,_,_,_,_,_,_,_,_,_,a,l,c,k⟩⟩
theorem aP.of (a:Uh K (.ref C) x=some (some (.ref f)))(i:Wg K (.ref f)=true)(l:K.lookup f=some ⟨oc,od,.func (Vm x q (Du st) (C4 st) (Ab st) .none kV dc pm an cd ct),sl⟩)(c:V4 K cd q=true)(k:U5 K (.ref f)=true):aP K C x q st:=⟨⟨_,_,_,_,_,_,_,_,_,_,⟨a,i⟩,l,c,k⟩⟩
theorem cB.of (a:Uh K (.ref A.aM) x=some (some (.ref f)))(b:Uh K (.ref A.aK) x=some (some (.ref f)))(i:Wg K (.ref f)=true)(l:K.lookup f=some ⟨oc,od,.func (Vm x q (Du st) (C4 st) (Ab st) .none kV dc pm an cd ct),sl⟩)(c:V4 K cd q=true)(k:U5 K (.ref f)=true):cB K A x q st:=⟨⟨_,_,_,_,_,_,_,_,_,_,⟨a,b,i⟩,l,c,k⟩⟩
end
end
theorem us1 {α:Type}{P:List α->Prop}(h:∀ a,P [a]):∀ us:List α,us.length=1->P us
 | [a],_=>h a
theorem us2 {α:Type}{P:List α->Prop}(h:∀ a b,P [a,b]):∀ us:List α,us.length=2->P us
 | [a,b],_=>h a b
theorem us3 {α:Type}{P:List α->Prop}(h:∀ a b c,P [a,b,c]):∀ us:List α,us.length=3->P us
 | [a,b,c],_=>h a b c
theorem us4 {α:Type}{P:List α->Prop}(h:∀ a b c d,P [a,b,c,d]):∀ us:List α,us.length=4->P us
 | [a,b,c,d],_=>h a b c d
theorem us5 {α:Type}{P:List α->Prop}(h:∀ a b c d e,P [a,b,c,d,e]):∀ us:List α,us.length=5->P us
 | [a,b,c,d,e],_=>h a b c d e
local macro_rules | `(tactic| walk_at "b")=>`(tactic| first
 | exact λ_ _ _ _ _ _=>us2 λ_ _=>rfl
 | exact λ_ _ _ _ _ _=>us1 λ_=>rfl
 | exact λ_ _ _ _ _ _=>us3 λ_ _ _=>rfl
 | exact λ_ _ _ _ _ _=>us4 λ_ _ _ _=>rfl
 | exact λ_ _ _ _ _ _=>us5 λ_ _ _ _ _=>rfl)
abbrev mkA {a0 a1 a2 a3 a4 a5 a6 a7 a8 a9 a10 a11 a12 a13:Addr}:Ak:=⟨a0,a1,a2,a3,a4,a5,a6,a7,a8,a9,a10,a11,a12,a13⟩
theorem all_mk {l:Zc}{w:TM}{K:TH}{h:Heap}{mg:Str->Option Value}{fa:Addr}(X:K.In h)(G:h.Ns Ui mg)(L:mg "law"=some (.ref fa)){O B:Addr}{V sJ Y abI:Option Addr}{abJ abK:Array (Option Value)}{abL sL sM sO nX sP abM abN abO abP sQ abQ:Value}{A:Ak}{t1 t2 t3 t4:Addr}{abR abS abT abU abV abW abX abY:Tok}{sR:Array Xz}{nW n1 n2 n3 n4 n5:Nat}{nY gq nZ n6 oa:Array Value}{od1 od2 od3 od4 od5:Option Addr}{sl1 sl2 sl3 sl4 sl5:Array (Option Value)}(adW:Us K Ui "HallError"=some (some (.ref A.aaJ)))(cN:Us K Ui "BadPlan"=some (some (.ref A.eR)))(gw:Us K Ui "NoSwitch"=some (some (.ref A.cb)))(jM:Us K Ui "NoLine"=some (some (.ref A.eT)))(iM:Us K Ui "NotSo"=some (some (.ref A.fE)))(jR:Us K Ui "NoFigure"=some (some (.ref A.iw)))(abZ:Us K Ui "Plan"=some (some (.ref A.Plan)))(ab0:Us K Ui "Seekers"=some (some (.ref A.aM)))(jE:Us K Ui "Switches"=some (some (.ref A.fF)))(ab1:Us K Ui "Group"=some (some (.ref A.aK)))(ab2:Us K Ui "Line"=some (some (.ref A.Line)))(ab3:Us K Ui "Hall"=some (some (.ref A.ae)))(jL:Us K Ui "WAYS"=some (some (.ref A.fH)))(gN:Us K Ui "FIGURES"=some (some (.ref A.fI)))(ab4:Us K Ui "SIGNS"=some (some (.str "0123456789" abR)))(ab5:Us K Ui "LEAST_LONG"=some (some (.int 2 abS)))(ab6:Us K Ui "MOST_LONG"=some (some (.int 4 abT)))(ab7:Us K Ui "MOST_LINES"=some (some (.int 60 abU)))(ab8:Us K Ui "MOST_SEEKERS"=some (some (.int 60 abV)))(ab9:Us K Ui "MOST_GROUPS"=some (some (.int 40 abW)))(aca:Us K Ui "MOST_SWITCHES"=some (some (.int 10 abX)))(acb:Us K Ui "AT_SEEKERS"=some (some (.str "" abY)))(haa:bH K "within" "within" (top 10))(hab:bH K "are_figures" "are_figures" (top 11))(kC:bH K "figure_of" "figure_of" (top 14))(had:bH K "paper_of" "paper_of" (top 17))(hae:bH K "check_counts" "check_counts" (top 36))(haf:bH K "check_lines" "check_lines" (top 37))(hag:bH K "check_groups" "check_groups" (top 38))(hah:bH K "_law_cell" "_law_cell" (top 40))(hai:bH K "_law_draws" "_law_draws" (top 41))(haj:bH K "_law_pulsed" "_law_pulsed" (top 42))(hak:bH K "_law_takes" "_law_takes" (top 43))(hal:bH K "_law_paper" "_law_paper" (top 44))(ham:bH K "_law_freed" "_law_freed" (top 45))(han:bH K "_law_dials" "_law_dials" (top 46))(aao:Us K Ui "law"=some (some (.ref O)))(lao:K.lookup O=some ⟨abL,V,.func (Vm "law" "law" (Du (top 47)) (C4 (top 47)) (Ab (top 47)) .none sL sM sO sJ nX sP),abJ⟩)(cao:V4 K nX "law"=true)(kao:U5 K (.ref O)=true)(hap:cB K A "first_free" "Switches.first_free" (Ad (top 16) 1))(haq:cB K A "hold" "Switches.hold" (Ad (top 16) 2))(har:cB K A "free" "Switches.free" (Ad (top 16) 3))(has:cB K A "stick" "Switches.stick" (Ad (top 16) 4))(hat:cB K A "mend" "Switches.mend" (Ad (top 16) 5))(hau:cB K A "check" "Switches.check" (Ad (top 16) 6))(hav:cB K A "holders" "Switches.holders" (Ad (top 16) 7))(haw:cB K A "stuck" "Switches.stuck" (Ad (top 16) 8))(hax:cB K A "shares" "Switches.shares" (Ad (top 16) 9))(hay:aP K A.aM "__init__" "Seekers.__init__" (Ad (top 23) 0))(haz:aP K A.aM "take" "Seekers.take" (Ad (top 23) 1))(hba:aP K A.aK "take" "Group.take" (Ad (top 19) 0))(kA:aP K A.aK "paper" "Group.paper" (Ad (top 19) 1))(hbc:aP K A.Line "__init__" "Line.__init__" (Ad (top 21) 0))(hbd:aP K A.Line "turn" "Line.turn" (Ad (top 21) 1))(dF:aP K A.Line "ring" "Line.ring" (Ad (top 21) 2))(hbf:aP K A.Line "be_told" "Line.be_told" (Ad (top 21) 3))(hbg:aP K A.ae "__init__" "Hall.__init__" (Ad (top 27) 0))(hbh:aP K A.ae "do" "Hall.do" (Ad (top 27) 1))(hbi:aP K A.ae "at_switch" "Hall.at_switch" (Ad (top 27) 2))(hbj:aP K A.ae "at_line" "Hall.at_line" (Ad (top 27) 3))(hbk:aP K A.ae "lift" "Hall.lift" (Ad (top 27) 4))(hbl:aP K A.ae "pulse" "Hall.pulse" (Ad (top 27) 5))(hbm:aP K A.ae "gap" "Hall.gap" (Ad (top 27) 6))(hbn:aP K A.ae "into_group" "Hall.into_group" (Ad (top 27) 7))(hbo:aP K A.ae "to_line" "Hall.to_line" (Ad (top 27) 8))(hbp:aP K A.ae "no_call" "Hall.no_call" (Ad (top 27) 9))(hbq:aP K A.ae "busy" "Hall.busy" (Ad (top 27) 10))(hbr:aP K A.ae "hang" "Hall.hang" (Ad (top 27) 11))(hbs:aP K A.ae "left_alone" "Hall.left_alone" (Ad (top 27) 12))(hbt:aP K A.ae "wait" "Hall.wait" (Ad (top 27) 13))(hbu:aP K A.ae "release" "Hall.release" (Ad (top 27) 14))(hbv:aP K A.ae "tones" "Hall.tones" (Ad (top 27) 15))(hbw:aP K A.ae "line_of" "Hall.line_of" (Ad (top 27) 16))(hbx:aP K A.ae "switches_of" "Hall.switches_of" (Ad (top 27) 17))(hby:aP K A.ae "way" "Hall.way" (Ad (top 27) 18))(hbz:aP K A.ae "paper" "Hall.paper" (Ad (top 27) 23))(hca:aP K A.ae "shares" "Hall.shares" (Ad (top 27) 24))(hcb:aP K A.Plan "__init__" "Plan.__init__" (Ad (top 35) 0))(rdS:ug K A.fF (.type "type")=true)(spS:XU K (.ref A.fF) "__getattribute__"=some (some (.builtin "type.__getattribute__")))(fdS:uh K (.ref A.fF) (.type "type") "__init__"=some (.val (.ref B)))(tyS:YT K (.ref B)=some (.type "function"))(acc:Uh K (.ref A.fF) "__init__"=some (some (.ref B)))(icc:Wg K (.ref B)=true)(lcc:K.lookup B=some ⟨abM,Y,.func (Vm "__init__" "Switches.__init__" (Du (Ad (top 16) 0)) (C4 (Ad (top 16) 0)) (Ab (Ad (top 16) 0)) .none abN abO abP abI sQ abQ),abK⟩)(ccc:V4 K sQ "Switches.__init__"=true)(sS:U5 K (.ref B)=true)(aG:Uh K (.ref A.aK) "__init__"=some (some (.ref B)))(acd:Wh K A.aM=true)(ace:U5 K (.ref A.aM)=true)(acf:Wh K A.Line=true)(acg:U5 K (.ref A.Line)=true)(ach:Wh K A.ae=true)(aci:U5 K (.ref A.ae)=true)(acj:Wh K A.Plan=true)(ack:U5 K (.ref A.Plan)=true)(acm:Wh K A.aK=true)(acn:U5 K (.ref A.aK)=true)(aco:V0 K A.aM UI=true)(acp:Wf K A.aM=true)(acq:WJ K A.aM=true)(acr:Uh K (.ref A.aM) "__setattr__"=some (some (.builtin "object.__setattr__")))(acs:Uh K (.ref A.aM) "held_by"=some none)(acu:Uh K (.ref A.aM) "jammed"=some none)(acv:Uh K (.ref A.aM) "taken"=some none)(acw:Uh K (.ref A.aM) "places"=some none)(acx:Uh K (.ref A.aM) "stands"=some none)(acy:Uh K (.ref A.aM) "went"=some none)(acz:Uh K (.ref A.aM) "mark_at"=some none)(acA:V0 K A.aK UI=true)(acB:Wf K A.aK=true)(acC:WJ K A.aK=true)(acD:Uh K (.ref A.aK) "__setattr__"=some (some (.builtin "object.__setattr__")))(acE:Uh K (.ref A.aK) "held_by"=some none)(acF:Uh K (.ref A.aK) "jammed"=some none)(acG:Uh K (.ref A.aK) "taken"=some none)(acH:V0 K A.Line UI=true)(acI:Wf K A.Line=true)(acJ:WJ K A.Line=true)(acK:Uh K (.ref A.Line) "__setattr__"=some (some (.builtin "object.__setattr__")))(acL:Uh K (.ref A.Line) "number"=some none)(acM:Uh K (.ref A.Line) "place"=some none)(acN:Uh K (.ref A.Line) "held"=some none)(acO:Uh K (.ref A.Line) "state"=some none)(acP:Uh K (.ref A.Line) "dialled_so_far"=some none)(acQ:Uh K (.ref A.Line) "pulses"=some none)(acR:Uh K (.ref A.Line) "far_end"=some none)(acS:Uh K (.ref A.Line) "why"=some none)(acT:V0 K A.ae UI=true)(acU:Wf K A.ae=true)(acV:WJ K A.ae=true)(acW:Uh K (.ref A.ae) "__setattr__"=some (some (.builtin "object.__setattr__")))(acX:Uh K (.ref A.ae) "long"=some none)(acY:Uh K (.ref A.ae) "lines"=some none)(acZ:Uh K (.ref A.ae) "switches"=some none)(ac0:Uh K (.ref A.ae) "queue"=some none)(ac1:Uh K (.ref A.ae) "done"=some none)(ac2:V0 K A.Plan UI=true)(ac3:Wf K A.Plan=true)(ac4:WJ K A.Plan=true)(ac5:Uh K (.ref A.Plan) "__setattr__"=some (some (.builtin "object.__setattr__")))(ac6:Uh K (.ref A.Plan) "long"=some none)(ac7:Uh K (.ref A.Plan) "lines"=some none)(ac8:Uh K (.ref A.Plan) "seekers"=some none)(ac9:Uh K (.ref A.Plan) "groups"=some none)(ada:Vn K A.eR [.type "ValueError",.type "Exception",.type "BaseException",.type "object"] "ValueError.__new__"=true)(adb:Vn K A.cb [.type "ValueError",.type "Exception",.type "BaseException",.type "object"] "ValueError.__new__"=true)(ade:Vn K A.eT [.type "ValueError",.type "Exception",.type "BaseException",.type "object"] "ValueError.__new__"=true)(adf:Vn K A.fE [.type "ValueError",.type "Exception",.type "BaseException",.type "object"] "ValueError.__new__"=true)(adg:Vn K A.iw [.type "ValueError",.type "Exception",.type "BaseException",.type "object"] "ValueError.__new__"=true)(lW:K.lookup A.fH=some ⟨.type "dict",none,.dict sR nW,#[]⟩)(oW:(A.fH == Vh)=false)(vW:Jr w.params sR.toList [("lift",.ref t1),("pulse",.ref t2),("gap",.ref t3),("hang",.ref t4)])(lT1:K.lookup t1=some ⟨.type "tuple",od1,.seq nY n1,sl1⟩)(zT1:nY.size<=10)(vT1:As [.str "rests",.str "rung"] nY.toList)(lT2:K.lookup t2=some ⟨.type "tuple",od2,.seq gq n2,sl2⟩)(zT2:gq.size<=10)(vT2:As [.str "dials"] gq.toList)(lT3:K.lookup t3=some ⟨.type "tuple",od3,.seq nZ n3,sl3⟩)(zT3:nZ.size<=10)(vT3:As [.str "dials"] nZ.toList)(lT4:K.lookup t4=some ⟨.type "tuple",od4,.seq n6 n4,sl4⟩)(zT4:n6.size<=10)(vT4:As [.str "waits",.str "dials",.str "rings",.str "talks",.str "told"] n6.toList)(lT5:K.lookup A.fI=some ⟨.type "tuple",od5,.seq oa n5,sl5⟩)(zT5:oa.size<=10)(vT5:As [.str "1",.str "2",.str "3",.str "4",.str "5",.str "6",.str "7",.str "8",.str "9",.str "0"] oa.toList)(adh:Us K Ui "len"=some none)(adi:Us K Ui "isinstance"=some none)(adj:Us K Ui "bool"=some none)(adk:Us K Ui "int"=some none)(adl:Us K Ui "range"=some none)(adm:Us K Ui "all"=some none)(adn:Us K Ui "list"=some none)(ado:Us K Ui "enumerate"=some none)(adp:Us K Ui "tuple"=some none)(adq:Us K Ui "sorted"=some none)(ads:Us K Ui "set"=some none)(adt:Us K Ui "min"=some none)(adu:Us K Ui "str"=some none) :
  ∃ fd:T5,(∀(s:TF)(v:Value),WM s fd ⟨[v],[]⟩ [("script",v)])/\∀ base:Heap,K.In base->base.Ns Ui mg->AE l.prog w K mg base AA 12 fa fd ["script"] (Ks K):=by
 have e:=L.symm.trans (UP X G aao);cases e;have T:Th l.prog w K mg A :=
  { n_len:=Vv X G adh,pe:=Vv X G adi,pf:=Vv X G adj,gv:=Vv X G adk,cy:=Vv X G adl,pR:=Vv X G adm,fJ:=Vv X G adn,jz:=Vv X G ado,dP:=Vv X G adp,iH:=Vv X G adq,pS:=Vv X G ads,aaO:=Vv X G adt,i9:=Vv X G adu,pT:=⟨_,UP X G ab4⟩,pU:=⟨_,UP X G ab5⟩,pV:=⟨_,UP X G ab6⟩,pW:=⟨_,UP X G ab7⟩,pX:=⟨_,UP X G ab8⟩,pY:=⟨_,UP X G ab9⟩,pZ:=⟨_,UP X G aca⟩,iL:=⟨_,UP X G acb⟩,gw:=UP X G gw,jE:=UP X G jE,cN:=UP X G cN,jL:=UP X G jL,jM:=UP X G jM,iM:=UP X G iM,jR:=UP X G jR,gN:=UP X G gN,jA:=adb,du:=ada,qj:=ade,lG:=adf,qv:=adg,cO:=⟨t1,t2,t3,t4,Ad2 oW lW vW (show ([("lift":Str),"pulse","gap","hang"]).Nodup by decide +kernel) (show 4<=1000 by decide),λH=>.inr ⟨_,_,_,lT1,rfl,rfl,UM zT1 (by decide),vT1⟩,λH=>.inr ⟨_,_,_,lT2,rfl,rfl,UM zT2 (by decide),vT2⟩,λH=>.inr ⟨_,_,_,lT3,rfl,rfl,UM zT3 (by decide),vT3⟩,λH=>.inr ⟨_,_,_,lT4,rfl,rfl,UM zT4 (by decide),vT4⟩⟩,jQ:=λH=>.inr ⟨_,_,_,lT5,rfl,rfl,UM zT5 (by decide),vT5⟩,hc:=⟨⟨acT,acU,acV,acW⟩,acX,acY,acZ,ac0,ac1⟩,lc:=⟨⟨acH,acI,acJ,acK⟩,acL,acM,acN,acO,acP,acQ,acR,acS⟩,sc:=⟨⟨UC,⟨aco,acp,acq,acr⟩,acs,acu,acv⟩,acw,acx,acy,acz⟩,gc:=⟨Uu _ (UB.mpr rfl),⟨acA,acB,acC,acD⟩,acE,acF,acG⟩ }
 have pc:JK K A.Plan:=⟨⟨ac2,ac3,ac4,ac5⟩,ac6,ac7,ac8,ac9⟩;have Fao:=F5 (st:=(top 47)) lao cao kao;have og:=F5 (st:=(Ad (top 16) 0)) lcc ccc sS;have sT:=og.binds (ps:=["self","many"]) λ_ _ _ _ _ _ us hl=>match us,hl with | [_,_],_=>rfl
 refine ⟨Vm "law" "law" (Du (top 47)) (C4 (top 47)) (Ab (top 47)) .none sL sM sO sJ nX sP,λs v=>.of_eq rfl,λbase _ _=>?_⟩;have D:=haa.fn l.prog w base X G (λ_ _ F=>Aeq F T.toTxt) (by walk_at "b");have kL:=hah.fn l.prog w base X G (λ_ _ F=>Aec F T.toTxt) (by walk_at "b");have jY:=hai.fn l.prog w base X G (λ_ _ F=>Aej F T.toTxt kL) (by walk_at "b");have gC:=hab.fn l.prog w base X G (λ_ _ F=>Afb F T.toTxtP) (by walk_at "b");have lb:=hae.fn l.prog w base X G (λ_ _ F=>Afj F T.toTxtP D) (by walk_at "b");have lg:=haf.fn l.prog w base X G (λ_ _ F=>Afo F T.toTxtP D gC) (by walk_at "b");have lp:=hag.fn l.prog w base X G (λ_ _ F=>Aft F T.toTxtP D gC) (by walk_at "b");have gH:=had.fn l.prog w base X G (λ_ _ F=>AfK F T.toTxtS) (by walk_at "b");have mi:=kC.fn l.prog w base X G (λ_ _ F=>Agt F T.toTxtG D) (by walk_at "b");have dQ:=hau.me l.prog w mg base (λ_ _ F=>AeG F T.toTxtS D) (by walk_at "b");have lI:=har.me l.prog w mg base (λ_ _ F=>AeN F T.toTxtS dQ) (by walk_at "b");have mn:=has.me l.prog w mg base (λ_ _ F=>AeI F T.toTxtS dQ) (by walk_at "b");have mB:=hat.me l.prog w mg base (λ_ _ F=>AeK F T.toTxtS dQ) (by walk_at "b");have gE:=hav.me l.prog w mg base (λ_ _ F=>Aeu F T.toTxtS) (by walk_at "b");have gG:=haw.me l.prog w mg base (λ_ _ F=>AeX F T.toTxtS) (by walk_at "b");have mH:=hax.me l.prog w mg base (λ_ _ F=>Aey F T.toTxtS) (by walk_at "b");have gA:=haq.me l.prog w mg base (λ_ _ F=>AeB F T.toTxtS) (by walk_at "b");have sU:=hap.me l.prog w mg base (λ_ _ F=>AeQ F T.toTxtS) (by walk_at "b");have adv:=haz.me l.prog w mg base (λ_ _ F=>Ae4 F T.toTxtK sU gA) (by walk_at "b");have adw:=hba.me l.prog w mg base (λ_ _ F=>AfM F T.toTxtS sU gA) (by walk_at "b");have adx:=kA.me l.prog w mg base (λ_ _ F=>AfP F T.toTxtS gE gG gH) (by walk_at "b");have MS:=hay.kb l.prog w mg base (UP X G ab0) acd ace (λ_ _ F=>Ae2 F T.toTxtK ⟨rdS,spS,fdS,tyS,sS⟩ (Qk og T.toTxtS) sT) (by walk_at "b");have MG:EM l.prog w K mg base AA 2 A.aK "Group" ["self","many"] (Jx K A):=⟨_,_,UP X G ab1,⟨acm,aG,icc,acn⟩,sT,(Qk og T.toTxtS).mono (by decide)⟩;have I:=hbd.me l.prog w mg base (λ_ _ F=>AfB F T.lc) (by walk_at "b");have ady:=dF.me l.prog w mg base (λ_ _ F=>AfZ F T.lc) (by walk_at "b");have sV:=hbf.me l.prog w mg base (λ_ _ F=>Af2 F T.lc) (by walk_at "b");have ML:=hbc.kb l.prog w mg base (UP X G ab2) acf acg (λ_ _ F=>AfF F T.lc I) (by walk_at "b");have MP:=hcb.kb l.prog w mg base (UP X G abZ) acj ack (λ_ _ F=>Afx F T.toTxtP lb lg lp) (by walk_at "b");have sW:=hbw.me l.prog w mg base (λ_ _ F=>AfU F T.toTxtH) (by walk_at "b");have oh:=hbx.me l.prog w mg base (λ_ _ F=>AfX F T.toTxtH) (by walk_at "b");have sX:=hbt.me l.prog w mg base (λ_ _ F=>Af8 F T.toTxtH I) (by walk_at "b");have J:=hbu.me l.prog w mg base (λ_ _ F=>Af5 F T.toTxtH lI) (by walk_at "b");have adz:=hbk.me l.prog w mg base (λ_ _ F=>Age F T.toTxtH sX) (by walk_at "b");have adA:=hbs.me l.prog w mg base (λ_ _ F=>Agd F T.toTxtH I J sX) (by walk_at "b");have adB:=hbr.me l.prog w mg base (λ_ _ F=>Agf F T.toTxtH I J adA) (by walk_at "b");have oi:=hbp.me l.prog w mg base (λ_ _ F=>Agi F T.toTxtH J sV) (by walk_at "b");have sY:=hbq.me l.prog w mg base (λ_ _ F=>Agl F T.toTxtH J sV) (by walk_at "b");have adC:=hbo.me l.prog w mg base (λ_ _ F=>Agm F T.toTxtH oi sY ady) (by walk_at "b");have adD:=hbn.me l.prog w mg base (λ_ _ F=>Ago F T.toTxtH oi sY adw adx) (by walk_at "b");have adE:=hbl.me l.prog w mg base (λ_ _ F=>Agy F T.toTxtG oi) (by walk_at "b");have adF:=hbm.me l.prog w mg base (λ_ _ F=>AgC F T.toTxtG mi adD adC) (by walk_at "b");have adG:=hbv.me l.prog w mg base (λ_ _ F=>Aga F T.toTxtH I adv) (by walk_at "b");have adH:=hbi.me l.prog w mg base (λ_ _ F=>AgE F T.toTxtH oh mn mB) (by walk_at "b");have adI:=hbj.me l.prog w mg base (λ_ _ F=>AgN F T.toTxtG sW adz adB adE adF) (by walk_at "b");have sZ:=hbh.me l.prog w mg base (λ_ _ F=>AgO F T.toTxtG adH adI adG) (by walk_at "b");have adJ:=hby.me l.prog w mg base (λ_ _ F=>AgS F T.toTxtH sW) (by walk_at "b");have adK:=hbz.me l.prog w mg base (λ_ _ F=>Ag3 F T.toTxtH oh gE gG gH) (by walk_at "b");have adL:=hca.me l.prog w mg base (λ_ _ F=>AgW F T.toTxtH oh mH) (by walk_at "b");have MH:=hbg.kb l.prog w mg base (UP X G ab3) ach aci (λ_ _ F=>Ahe F T.toTxtH ML MG MS) (by walk_at "b");have mX:=haj.fn l.prog w base X G (λ_ _ F=>AhK F T.toTxtG sZ) (by walk_at "b");have mY:=hak.fn l.prog w base X G (λ_ _ F=>Ahw F ⟨T.cy,T.dP,T.gv⟩) (by walk_at "b");have gW:=hal.fn l.prog w base X G (λ_ _ F=>AhB F ⟨T.cy,T.dP,T.gv⟩) (by walk_at "b");have fV:=ham.fn l.prog w base X G (λ_ _ F=>AhD F) (by walk_at "b");have m7:=han.fn l.prog w base X G (λ_ _ F=>AhZ F T.toTxtG mX mY gW fV) (by walk_at "b");exact Aiu Fao T jY m7 fV gW sZ adJ adK adL MH MP pc
theorem walk {l:Zc}{q:TV}{B:List Str}{J:(Str->Option Value)->Heap->Prop}{D:TM->Heap->Prop}{d:DefRec}{K:Xw->TH}(L:l.most=some 63)(O:d.params.defaults=[])(V:∀ (w:TM) (h:Heap),D w h->(K w.params).In h)(F:∀ (w:TM) (mg:Str->Option Value) (H:Addr) (h:Heap),(K w.params).In h->h.Ns Ui mg->mg d.name=some (.ref H) ->
   ∃ I:T5,(∀ (s:TF) (u:Value),WM s I ⟨[u],[]⟩ [("script",u)])/\∀ base:Heap,(K w.params).In base->base.Ns Ui mg->AE l.prog w (K w.params) mg base AA 12 H I ["script"] (Ks (K w.params))) :
  PySem.W.WalkO q B J D l.row.toRowW d [] (λf vs=>Zb f vs) :=
 L2.aay (n:=63) (k:=12) (x:="script") (CX:=λ_=>AA) (sp:=λw=>Ks (K w.params)) L (by decide) O ⟨rfl,by decide,by decide⟩ V F (λ_ _ a Y hl _ hS=>⟨a,Y,rfl,hS,hl,λ_=>rfl⟩) λ_ _ _ _ _ z=>z
end
end Lw
local macro_rules | `(tactic| walk_at "f")=>`(tactic| (refine' Lw.bH.of ?a ?l ?c ?k;(case a=>k_is);(case l=>k_is);(case c=>k_is);(case k=>k_is)))
local macro_rules | `(tactic| walk_at "fM")=>`(tactic| (refine' Lw.aP.of ?a ?i ?l ?c ?k;(case a=>k_is);(case i=>k_is);(case l=>k_is);(case c=>k_is);(case k=>k_is)))
local macro_rules | `(tactic| walk_at "fR")=>`(tactic| (refine' Lw.cB.of ?a ?b ?i ?l ?c ?k;(case a=>k_is);(case b=>k_is);(case i=>k_is);(case l=>k_is);(case c=>k_is);(case k=>k_is)))
namespace PySem.W.Fast
def tw9053933537336085919:=0
def tw7842697572593329604:=0
def tw4980323277756460475:=0
def tw2120143696207330517:=0
def tw4349824540770641663:=0
def tw2737517855428527843:=0
def tw12681517419045540475:=0
def tw15031126257103463529:=0
def tw5043360473053296935:=0
def tw14109638425189622024:=0
def tw3441266017796996756:=0
def tw12914083287156263069:=0
def tw10805617050468986018:=0
def tw12463670234187230863:=0
def tw2555162988932204201:=0
def tw6346383821444965315:=0
def tw9085817065684416399:=0
def tw3517490424523043911:=0
def tw14602581308718370802:=0
def tw16573131803805801161:=0
def tw10074062102120676984:=0
def tw2320881239982586969:=0
def tw8716829643651344052:=0
def tw9918644130191239555:=0
def tw13799096024390927732:=0
def tw11378929231539450141:=0
def tw2191441308672193188:=0
def tw1809930463641690341:=0
def tw4716216074713115086:=0
def tw8642545818491621154:=0
def tw1250376362386354537:=0
def tw9209625403496569795:=0
def tw3998326259728442846:=0
def tw11722959116331748769:=0
def tw3915881268380039578:=0
def tw12093910757930032903:=0
def tw17464668226349950864:=0
def tw2510713446426180788:=0
def tw14510090629618804190:=0
def tw10875684154839460835:=0
def tw8491323534040601524:=0
def tw9886565016721725069:=0
def tw2471132290518304295:=0
def tw7730138460526237839:=0
def tw17994615957308842473:=0
def tw14104006470106302808:=0
end PySem.W.Fast
open PySem PySem.W PyProof.Rows
set_option maxRecDepth 100000 in
set_option maxHeartbeats 0 in
theorem PySem.Challenge.cw_stephall_k38_whole_forty_groups_of_ten_holds : PySem.Challenge.rw_stephall_k38_whole_forty_groups_of_ten.Holds := by
 w_on;o_law;k_head;(case hw=>w_witness2)
 k_fill
 refine Lw.walk (l:=PySem.Challenge.rw_stephall_k38_whole_forty_groups_of_ten) rfl rfl (λw h Y=>PySem.W.kIn_of Y) ?F;case F =>
  intro w mg fa h KX G hZ;exact Lw.all_mk (A:=Lw.mkA) KX G hZ (by k_is) (by k_is) (by k_is) (by k_is) (by k_is) (by k_is) (by k_is) (by k_is) (by k_is) (by k_is) (by k_is) (by k_is) (by k_is) (by k_is) (by k_is) (by k_is) (by k_is) (by k_is) (by k_is) (by k_is) (by k_is) (by k_is) (by walk_at "f") (by walk_at "f") (by walk_at "f") (by walk_at "f") (by walk_at "f") (by walk_at "f") (by walk_at "f") (by walk_at "f") (by walk_at "f") (by walk_at "f") (by walk_at "f") (by walk_at "f") (by walk_at "f") (by walk_at "f") (by k_is) (by k_is) (by k_is) (by k_is) (by walk_at "fR") (by walk_at "fR") (by walk_at "fR") (by walk_at "fR") (by walk_at "fR") (by walk_at "fR") (by walk_at "fR") (by walk_at "fR") (by walk_at "fR") (by walk_at "fM") (by walk_at "fM") (by walk_at "fM") (by walk_at "fM") (by walk_at "fM") (by walk_at "fM") (by walk_at "fM") (by walk_at "fM") (by walk_at "fM") (by walk_at "fM") (by walk_at "fM") (by walk_at "fM") (by walk_at "fM") (by walk_at "fM") (by walk_at "fM") (by walk_at "fM") (by walk_at "fM") (by walk_at "fM") (by walk_at "fM") (by walk_at "fM") (by walk_at "fM") (by walk_at "fM") (by walk_at "fM") (by walk_at "fM") (by walk_at "fM") (by walk_at "fM") (by walk_at "fM") (by walk_at "fM") (by walk_at "fM") (by walk_at "fM") (by k_is) (by k_is) (by k_is) (by k_is) (by k_is) (by k_is) (by k_is) (by k_is) (by k_is) (by k_is) (by k_is) (by k_is) (by k_is) (by k_is) (by k_is) (by k_is) (by k_is) (by k_is) (by k_is) (by k_is) (by k_is) (by k_is) (by k_is) (by k_is) (by k_is) (by k_is) (by k_is) (by k_is) (by k_is) (by k_is) (by k_is) (by k_is) (by k_is) (by k_is) (by k_is) (by k_is) (by k_is) (by k_is) (by k_is) (by k_is) (by k_is) (by k_is) (by k_is) (by k_is) (by k_is) (by k_is) (by k_is) (by k_is) (by k_is) (by k_is) (by k_is) (by k_is) (by k_is) (by k_is) (by k_is) (by k_is) (by k_is) (by k_is) (by k_is) (by k_is) (by k_is) (by k_is) (by k_is) (by k_is) (by k_is) (by k_is) (by k_is) (by k_exc) (by k_exc) (by k_exc) (by k_exc) (by k_exc) (by k_is) (by rfl) (by exact ⟨⟨_,rfl⟩,rfl,rfl,⟨_,rfl⟩,rfl,rfl,⟨_,rfl⟩,rfl,rfl,⟨_,rfl⟩,rfl,rfl,trivial⟩) (by k_is) (by exact (by decide)) (by exact (.cons ⟨_,rfl⟩ (.cons ⟨_,rfl⟩ .nil))) (by k_is) (by exact (by decide)) (by exact (.cons ⟨_,rfl⟩ .nil)) (by k_is) (by exact (by decide)) (by exact (.cons ⟨_,rfl⟩ .nil)) (by k_is) (by exact (by decide)) (by exact (.cons ⟨_,rfl⟩ (.cons ⟨_,rfl⟩ (.cons ⟨_,rfl⟩ (.cons ⟨_,rfl⟩ (.cons ⟨_,rfl⟩ .nil)))))) (by k_is) (by exact (by decide)) (by exact (.cons ⟨_,rfl⟩ (.cons ⟨_,rfl⟩ (.cons ⟨_,rfl⟩ (.cons ⟨_,rfl⟩ (.cons ⟨_,rfl⟩ (.cons ⟨_,rfl⟩ (.cons ⟨_,rfl⟩ (.cons ⟨_,rfl⟩ (.cons ⟨_,rfl⟩ (.cons ⟨_,rfl⟩ .nil))))))))))) (by k_is) (by k_is) (by k_is) (by k_is) (by k_is) (by k_is) (by k_is) (by k_is) (by k_is) (by k_is) (by k_is) (by k_is) (by k_is)
